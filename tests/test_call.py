import contextlib
import inspect
import io
import sys
import unittest

from tests.helper import (ACK, ANSWER, FAR, FIN, INSIDE, LINES, MOST, OUTER, OUTSIDE, RST, SYN, WITHIN, came, icmp, tcp,
                          text, udp)
from twonets.wall import run

PLAN = text(*LINES, "wait udp 7", "door tcp 80 10.0.0.1 8080", "let in tcp any any any", "stop out udp any any 9")
CAME = came((1, WITHIN, tcp(INSIDE, 5000, FAR, 80)), (2, OUTSIDE, tcp(FAR, 80, OUTER, 1024, marks=SYN | ACK)),
            (3, WITHIN, udp(INSIDE, 5000, FAR, 53, own_sum=0, data=[1, 2, 3])), (3, WITHIN, udp(INSIDE, 5000, FAR, 9)),
            (4, OUTSIDE, tcp(FAR, 7000, OUTER, 80, marks=SYN | FIN)), (5, WITHIN, icmp(INSIDE, FAR, 9)),
            (6, OUTSIDE, icmp(FAR, OUTER, 1024, sort=ANSWER)), (6, WITHIN, tcp(INSIDE, 5000, FAR, 80, marks=RST)),
            (99, OUTSIDE, udp(FAR, 53, OUTER, 1024)), (100, WITHIN, [1, 2, 3]))


class Watched(list):
    """A list that may be read alone."""

    def refuse(self, *arguments, **named):
        raise AssertionError("what is handed in is not to be changed")

    append = extend = insert = pop = remove = clear = sort = reverse = refuse
    __setitem__ = __delitem__ = __iadd__ = __imul__ = refuse


CALLS = ((MOST, PLAN, CAME), (0, PLAN, CAME), (MOST, PLAN, CAME[:-1]), (MOST, PLAN + [120], CAME), (MOST, [], CAME),
         (-1, PLAN, CAME), (MOST, PLAN, []), (MOST, [], []))


class Call(unittest.TestCase):
    def test_its_arguments(self):
        parameters = inspect.signature(run).parameters.values()
        self.assertEqual([one.name for one in parameters], ["most", "text", "came"])
        self.assertEqual(run(most=MOST, text=PLAN, came=CAME), run(MOST, PLAN, CAME))

    def test_a_list_of_whole_numbers(self):
        for most, plan, octets in CALLS:
            answer = run(most, plan, octets)
            self.assertIs(type(answer), list)
            self.assertEqual({type(number) for number in answer}, {int})
            if answer[0] < 0:
                self.assertEqual(len(answer), 1)
            else:
                self.assertEqual(answer[0], len(answer) - 1)
                self.assertTrue(all(0 <= number <= 255 for number in answer[1:]))

    def test_what_is_handed_in_stays_as_it_was(self):
        for most, plan, octets in CALLS:
            watched_plan, watched_octets = Watched(plan), Watched(octets)
            answer = run(most, watched_plan, watched_octets)
            self.assertEqual(watched_plan, plan)
            self.assertEqual(watched_octets, octets)
            self.assertEqual(answer, run(most, list(plan), list(octets)))

    def test_what_is_given_back_is_the_callers_own(self):
        answer = run(MOST, PLAN, CAME)
        kept = list(answer)
        answer.clear()
        self.assertEqual(run(MOST, PLAN, CAME), kept)

    def test_nothing_is_kept(self):
        first = [run(*call) for call in CALLS]
        self.assertEqual([run(*call) for call in CALLS], first)
        self.assertEqual([run(*call) for call in CALLS[::-1]], first[::-1])
        self.assertEqual(run(MOST, text(*LINES), CAME), run(MOST, text(*LINES), CAME))
        answers = came((1, OUTSIDE, tcp(FAR, 80, OUTER, 1024, marks=ACK)))
        self.assertEqual(run(MOST, PLAN, answers), [4, 0, 5, 0, 0])

    def test_it_prints_and_imports_nothing(self):
        before = sorted(sys.modules)
        printed = io.StringIO()
        with contextlib.redirect_stdout(printed), contextlib.redirect_stderr(printed):
            for call in CALLS:
                run(*call)
        self.assertEqual(printed.getvalue(), "")
        self.assertEqual(sorted(sys.modules), before)

    def test_inputs_as_long_as_may_be(self):
        plan = text(*LINES)
        self.assertEqual(run(MOST, [10] * (65536 - len(plan)) + plan, [0] * 65536), [32768] + [0, 1, 0, 0] * 8192)
        self.assertEqual(run(MOST, plan + [35] * (65536 - len(plan)), []), [0])
        self.assertEqual(run(MOST, plan + [32] * (65536 - len(plan)), []), [0])
        self.assertEqual(run(MOST, plan + [49] * (65536 - len(plan)), []), [-103])
        long_number = text("inner any") + list(b"outer 1.2.3.") + [49] * 65000
        self.assertEqual(run(MOST, long_number, []), [-102])
        rules = text(*["stop out udp any any 1"] * 2000)
        self.assertEqual(run(MOST, plan + rules, came((1, WITHIN, udp(INSIDE, 1, FAR, 1))))[2], 4)

    def test_1800_connections(self):
        octets = came(*[(k, WITHIN, udp(INSIDE, k, FAR, 53)) for k in range(1800)])
        answer = run(MOST, text(*LINES), octets)
        self.assertEqual(answer[0], 1800 * 32)
        self.assertEqual(answer[-32:], [1, 0, 0, 28] + udp(OUTER, 1024 + 1799, FAR, 53, steps=63))


if __name__ == "__main__":
    unittest.main()
