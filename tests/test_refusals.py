import unittest

from tests.helper import FAR, FAR2, INSIDE, LINES, MOST, OUTSIDE, WITHIN, arrival, came, text, udp
from twonets.wall import run

PLAN = text(*LINES)
SOUND = udp(INSIDE, 5000, FAR, 53, data=[1, 2, 3])


class Most(unittest.TestCase):
    def test_most_out_of_range(self):
        for most in (-2147483648, -2, -1, 4194305, 2147483647):
            with self.subTest(most=most):
                self.assertEqual(run(most, PLAN, []), [-2])

    def test_most_at_its_edges(self):
        self.assertEqual(run(0, PLAN, []), [0])
        self.assertEqual(run(4194304, PLAN, []), [0])


class Lines(unittest.TestCase):
    def refused(self, *lines):
        """Each line, behind a sound text, is the first that isn't one."""
        for line in lines:
            with self.subTest(line=line):
                self.assertEqual(run(MOST, text(*LINES, line), []), [-103])

    def taken(self, *lines):
        for line in lines:
            with self.subTest(line=line):
                self.assertEqual(run(MOST, text(*LINES, line), []), [0])

    def test_addresses(self):
        wrong = ("1.2.3", "1.2.3.4.5", "1.2.3.256", "256.2.3.4", "1.256.3.4", "1.2.256.4", "01.2.3.4", "1.02.3.4",
                 "1.2.3.04", "1.2.3.00", "1.2.3.", ".1.2.3", "1..2.3", "1.2.3.4.", "...", "1.2.3.-4", "1.2.3.+4",
                 "1.2.3.4/32", "1.2.3.4-5", "any", "a.b.c.d", "1.2.3.x", "1.2.3.12345678901", "1.2.3.4294967296",
                 "1.2.3.1_0", "1.2.3.4,", "1,2,3,4", "16909060", "1.2.3.\xb2")
        for word in wrong:
            with self.subTest(word=word):
                self.assertEqual(run(MOST, text("outer " + word, "inner any"), []), [-101])
        for word in ("0.0.0.0", "255.255.255.255", "10.20.30.40", "100.0.200.1"):
            with self.subTest(word=word):
                self.assertEqual(run(MOST, text("outer " + word, "inner any"), []), [0])

    def test_nets(self):
        wrong = ("10.0.0.0/33", "10.0.0.0/", "/8", "/", "10.0.0.0/08", "10.0.0.0/00", "10.0.0.0/8/8", "10.0.0/8",
                 "10.0.0.0/-1", "any/8", "any/", "Any", "ANY", "anyx", "all", "*", "10.0.0.256/8", "10.0.0.0/x",
                 "10.0.0.0/12345678901", "10.0.0.0/8.", "10.0.0.0/255.0.0.0", "10.0.0.0-10.0.0.9", "010.0.0.0/8")
        for word in wrong:
            with self.subTest(word=word):
                self.assertEqual(run(MOST, text("outer 5.6.7.8", "inner " + word), []), [-102])
                self.refused("let in tcp " + word + " any any", "let in tcp any " + word + " any")
        for word in ("10.0.0.0", "10.0.0.0/0", "10.0.0.0/32", "10.1.2.3/8", "0.0.0.0/0", "any"):
            with self.subTest(word=word):
                self.assertEqual(run(MOST, text("outer 5.6.7.8", "inner " + word), []), [0])
                self.taken("let in tcp " + word + " any any", "let in tcp any " + word + " any")

    def test_ports(self):
        wrong = ("65536", "80-79", "80-", "-80", "-", "1-2-3", "080", "00", "80-090", "080-90", "0-65536",
                 "65536-65537", "any-any", "any-80", "80-any", "http", "12345678901", "80,81", "80--81", "+80", "Any")
        self.refused(*["let in tcp any any " + word for word in wrong])
        self.taken(*["let in tcp any any " + word for word in ("0", "65535", "0-65535", "80-80", "0-0", "any")])

    def test_waits(self):
        self.refused("wait", "wait tcp", "wait tcp 1 2", "wait any 1", "wait TCP 1", "wait 6 1", "wait tcp any",
                     "wait tcp 1000000001", "wait tcp 9999999999", "wait tcp 10000000000", "wait tcp 00000000001",
                     "wait tcp 01", "wait tcp 00", "wait tcp -1", "wait tcp 1.0", "wait sctp 1", "wait 1 tcp")
        self.taken("wait tcp 0", "wait udp 1000000000", "wait icmp 1000000000", "wait icmp 10")

    def test_doors(self):
        self.refused("door", "door tcp 80 10.0.0.1", "door tcp 80 10.0.0.1 80 80", "door icmp 80 10.0.0.1 80",
                     "door any 80 10.0.0.1 80", "door TCP 80 10.0.0.1 80", "door tcp 65536 10.0.0.1 80",
                     "door tcp 80 10.0.0.1 65536", "door tcp any 10.0.0.1 80", "door tcp 80-81 10.0.0.1 80",
                     "door tcp 80 10.0.0.0/8 80", "door tcp 80 any 80", "door tcp 80 10.0.0.1 any",
                     "door tcp 80 10.0.0.1 80-81", "door tcp 080 10.0.0.1 80", "door tcp 80 10.0.0.1 080",
                     "door tcp 80 10.0.0.256 80", "door tcp 10.0.0.1 80 80")
        self.taken("door tcp 0 10.0.0.1 0", "door udp 65535 10.0.0.1 65535", "door tcp 80 1.2.3.4 8080")

    def test_rules(self):
        self.refused("let", "stop", "let out tcp any any", "let out tcp any any any any", "let both tcp any any any",
                     "let OUT tcp any any any", "Let out tcp any any any", "allow out tcp any any any",
                     "let out sctp any any any", "stop out 6 any any any", "let tcp out any any any",
                     "stop in Tcp any any any", "let out icmp any any", "let out icmp any any x",
                     "let out any any any 65536", "out let tcp any any any", "letout tcp any any any any")
        self.taken("let out tcp any any any", "stop in udp any any 1", "let in icmp any any 1-2",
                   "stop out any 1.2.3.4 5.6.7.8/9 any")

    def test_first_words(self):
        self.refused("x", "OUTER 1.2.3.4", "outers 1.2.3.4", "any", "tcp", "?", "lets out tcp any any any", "0",
                     "waits tcp 1", "doors tcp 80 10.0.0.1 80", "!# x")

    def test_a_word_too_few_and_too_many(self):
        for line in ("outer", "outer 1.2.3.4 5.6.7.8", "outer 1.2.3.4 #", "inner", "inner any any", "inner any # x"):
            with self.subTest(line=line):
                self.assertEqual(run(MOST, text(line, *LINES), []), [-101])

    def test_told_twice(self):
        self.refused("outer 5.6.7.8", "outer 1.2.3.4", "inner 10.0.0.0/8", "inner any")
        for kind in ("tcp", "udp", "icmp"):
            lines = LINES + ["wait " + kind + " 5", "wait " + kind + " 5"]
            self.assertEqual(run(MOST, text(*lines), []), [-104])
        for kind in ("tcp", "udp"):
            lines = LINES + ["door " + kind + " 80 10.0.0.1 80", "door " + kind + " 80 10.0.0.2 81"]
            self.assertEqual(run(MOST, text(*lines), []), [-104])

    def test_told_once_each(self):
        lines = LINES + ["wait tcp 5", "wait udp 5", "wait icmp 5", "door tcp 80 10.0.0.1 80",
                         "door udp 80 10.0.0.1 80", "door tcp 81 10.0.0.1 80"]
        rule = "let in any any any any"
        self.assertEqual(run(MOST, text(*lines, rule, rule), []), [0])

    def test_a_refused_line_is_not_half_taken(self):
        self.assertEqual(run(MOST, text("outer 1.2.3.x", "outer 1.2.3.4"), []), [-101])

    def test_other_bytes_than_the_blank_between_words(self):
        for sign in ("\t", "\r", "\x0b", "\x0c", "\x00", "\xa0", "\x1f", "\x85", "\xff"):
            with self.subTest(sign=sign):
                self.refused("wait" + sign + "tcp 5", "wait tcp" + sign + "5", "wait tcp 5" + sign,
                             sign + "wait tcp 5", sign, "wait tcp " + sign + " 5", sign + "# x", "wait tcp 5 " + sign)

    def test_blanks_between_words(self):
        self.taken("  wait   tcp  5   ", "wait tcp 5 ", " wait tcp 5")

    def test_lines_that_say_nothing(self):
        self.taken("", " ", "     ", "#", "# outer 1.2.3.4", "#outer 1.2.3.4", "   # x", "##", "#\t\r\xff\x00", " #")

    def test_numbers_of_lines(self):
        self.assertEqual(run(MOST, text("", "# x", "  ", "bad"), []), [-104])
        self.assertEqual(run(MOST, text(*LINES, "", "bad", "bad too"), []), [-104])
        self.assertEqual(run(MOST, text("bad", *LINES), []), [-101])

    def test_the_last_line_may_lack_its_newline(self):
        for lines, answer in ((LINES, 0), (LINES[::-1], 0), (LINES + ["bad"], -103), (LINES + ["# x"], 0),
                              (LINES + ["wait tcp 5"], 0), (LINES + ["wait tcp"], -103), (LINES + [" "], 0)):
            with self.subTest(lines=lines):
                self.assertEqual(run(MOST, text(*lines), []), [answer])
                self.assertEqual(run(MOST, text(*lines)[:-1], []), [answer])
        self.assertEqual(run(MOST, text(*LINES) + [10, 10, 10], []), [0])

    def test_outer_or_inner_missing(self):
        for lines in ((), ("",), ("", ""), ("# outer 5.6.7.8",), LINES[:1], LINES[1:], ("wait tcp 5",)):
            with self.subTest(lines=lines):
                self.assertEqual(run(MOST, text(*lines), []), [-100])
        self.assertEqual(run(MOST, [], []), [-100])
        self.assertEqual(run(MOST, [10], []), [-100])

    def test_the_last_of_many_lines(self):
        self.assertEqual(run(MOST, [10] * 65535 + [120], []), [-100 - 65536])


class WhatCame(unittest.TestCase):
    def refused(self, octets):
        self.assertEqual(run(MOST, PLAN, octets), [-3])

    def test_a_head_cut_short(self):
        head = arrival(5, WITHIN, [])
        for size in range(1, 8):
            with self.subTest(size=size):
                self.refused(head[:size])
                self.refused(arrival(5, WITHIN, SOUND) + head[:size])
        self.assertEqual(run(MOST, PLAN, head), [4, 0, 1, 0, 0])

    def test_a_packet_cut_short(self):
        whole = arrival(5, WITHIN, SOUND)
        for size in (8, 9, len(whole) - 1):
            with self.subTest(size=size):
                self.refused(whole[:size])
                self.refused(whole + whole[:size])
        self.refused([0, 0, 0, 5, 0, 0, 1, 0] + [0] * 255)
        self.assertEqual(run(MOST, PLAN, [0, 0, 0, 5, 0, 0, 1, 0] + [0] * 256), [4, 0, 1, 0, 0])

    def test_a_time_less_than_the_one_before(self):
        self.refused(came((5, WITHIN, []), (4, WITHIN, [])))
        self.refused(came((5, WITHIN, []), (5, OUTSIDE, []), (4, OUTSIDE, [])))
        self.refused(came((0x100, WITHIN, []), (0xFF, WITHIN, [])))
        self.refused(came((0x80000000, WITHIN, []), (0x7FFFFFFF, WITHIN, [])))
        self.refused(came((0xFFFFFFFF, WITHIN, []), (0, WITHIN, [])))

    def test_times_that_may_be(self):
        times = (0, 0, 1, 0xFF, 0x100, 0xFFFF, 0x10000, 0x7FFFFFFF, 0x80000000, 0xFFFFFFFF, 0xFFFFFFFF)
        octets = came(*[(moment, WITHIN, []) for moment in times])
        self.assertEqual(run(MOST, PLAN, octets), [44] + [0, 1, 0, 0] * 11)

    def test_a_side_above_one(self):
        for side in (2, 3, 128, 255):
            with self.subTest(side=side):
                self.refused(arrival(5, side, SOUND))
                self.refused(arrival(5, WITHIN, SOUND) + arrival(5, side, []))

    def test_a_byte_that_is_not_0(self):
        for octet in (1, 128, 255):
            with self.subTest(octet=octet):
                self.refused([0, 0, 0, 5, 0, octet, 0, 0])
                self.refused([0, 0, 0, 5, 1, octet, 0, 0])


class TooLong(unittest.TestCase):
    def test_most_one_less_and_just_as_many(self):
        sent = arrival(5, WITHIN, SOUND)
        held = arrival(5, WITHIN, [])
        size = len(SOUND)
        for octets, told in ((held, 4), (held + held, 8), (sent, size + 4), (sent + held, size + 8)):
            with self.subTest(told=told):
                self.assertEqual(run(told - 1, PLAN, octets), [-1])
                self.assertEqual(run(0, PLAN, octets), [-1])
                answer = run(told, PLAN, octets)
                self.assertEqual(answer[0], told)
                self.assertEqual(len(answer), told + 1)
                self.assertEqual(run(told + 1, PLAN, octets), answer)


class TwoDue(unittest.TestCase):
    def test_the_one_told_first_is_answered(self):
        bad_came = [1]
        bad_line = text("bad")
        self.assertEqual(run(-1, bad_line, bad_came), [-2])
        self.assertEqual(run(4194305, [], bad_came), [-2])
        self.assertEqual(run(-1, PLAN, bad_came), [-2])
        self.assertEqual(run(-1, PLAN, came((5, WITHIN, []))), [-2])
        self.assertEqual(run(0, bad_line, bad_came), [-101])
        self.assertEqual(run(0, text("outer 1.2.3.4", "bad"), bad_came), [-102])
        self.assertEqual(run(0, text("bad", *LINES), came((5, WITHIN, []))), [-101])
        self.assertEqual(run(0, [], bad_came), [-100])
        self.assertEqual(run(0, [], came((5, WITHIN, []))), [-100])
        self.assertEqual(run(0, PLAN, came((5, WITHIN, SOUND)) + bad_came), [-3])
        self.assertEqual(run(0, PLAN, came((5, WITHIN, SOUND))), [-1])

    def test_a_line_told_twice_and_a_later_one(self):
        self.assertEqual(run(MOST, text(*LINES, "outer " + FAR, "outer " + FAR2, "bad"), []), [-103])
        self.assertEqual(run(MOST, text(*LINES, "bad", "outer " + FAR), []), [-103])


if __name__ == "__main__":
    unittest.main()
