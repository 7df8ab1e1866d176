import unittest

from tests.helper import (ACK, ANSWER, FAR, FIN, INSIDE, LINES, MOST, OUTER, OUTSIDE, PSH, SYN, TCP, UDP, WITHIN,
                          came, icmp, over, tcp, tell, text, two, udp, usual_sum)
from twonets.wall import run

DOORS = ["door tcp 80 10.0.0.1 8080", "door udp 53 10.0.0.1 5353", "let in any any any any"]


class Out(unittest.TestCase):
    def test_what_is_told(self):
        answer = run(MOST, text(*LINES), came((5, WITHIN, udp(INSIDE, 5000, FAR, 53, data=[7] * 300)), (5, WITHIN, [])))
        packet = udp(OUTER, 1024, FAR, 53, data=[7] * 300, steps=63)
        self.assertEqual(answer, [328 + 8, 1, 0, 1, 72] + packet + [0, 1, 0, 0])

    def test_byte_for_byte(self):
        packet = bytes.fromhex("45 00 00 1e 00 00 40 00 40 11 1e bd 0a 00 00 01 09 09 09 09"
                               "13 88 00 35 00 0a cf 08 01 02")
        sent = bytes.fromhex("45 00 00 1e 00 00 40 00 3f 11 1d b0 05 06 07 08 09 09 09 09"
                             "04 00 00 35 00 0a dc 83 01 02")
        self.assertEqual(tell([], (5, WITHIN, list(packet))), [list(sent)])

    def test_every_kind(self):
        for rest in ({}, {"data": [1, 2, 3]}, {"data": [255] * 51}, {"options": [1, 1, 1, 0]}, {"bits": 0x4000},
                     {"service": 0xB8, "mark": 0xFFFF}, {"options": [0xFF] * 40, "data": [9]}):
            with self.subTest(rest=rest):
                self.assertEqual(tell([], (5, WITHIN, tcp(INSIDE, 5000, FAR, 80, **rest))),
                                 [tcp(OUTER, 1024, FAR, 80, steps=63, **rest)])
                self.assertEqual(tell([], (5, WITHIN, udp(INSIDE, 5000, FAR, 53, **rest))),
                                 [udp(OUTER, 1024, FAR, 53, steps=63, **rest)])
                self.assertEqual(tell([], (5, WITHIN, icmp(INSIDE, FAR, 99, **rest))),
                                 [icmp(OUTER, FAR, 1024, steps=63, **rest)])

    def test_all_else_of_kind_6_stays(self):
        options = [2, 4, 5, 0xB4, 1, 1, 4, 2]
        for marks in (SYN, SYN | PSH | 0xE0, SYN | FIN):
            packet = tcp(INSIDE, 5000, FAR, 80, marks=marks, own_options=options, data=[1, 2, 3])
            sent = tcp(OUTER, 1024, FAR, 80, marks=marks, own_options=options, data=[1, 2, 3], steps=63)
            self.assertEqual(tell([], (5, WITHIN, packet)), [sent])

    def test_all_else_of_kind_1_stays(self):
        packet = icmp(INSIDE, FAR, 99, step=0xABCD, data=[1, 2, 3, 4, 5])
        self.assertEqual(tell([], (5, WITHIN, packet)),
                         [icmp(OUTER, FAR, 1024, step=0xABCD, data=[1, 2, 3, 4, 5], steps=63)])

    def test_the_count(self):
        for steps in (2, 3, 64, 128, 255):
            with self.subTest(steps=steps):
                self.assertEqual(tell([], (5, WITHIN, udp(INSIDE, 5000, FAR, 53, steps=steps))),
                                 [udp(OUTER, 1024, FAR, 53, steps=steps - 1)])

    def test_a_udp_sum_that_was_0_stays_0(self):
        for data in ([], [1, 2, 3]):
            self.assertEqual(tell([], (5, WITHIN, udp(INSIDE, 5000, FAR, 53, data=data, own_sum=0))),
                             [udp(OUTER, 1024, FAR, 53, data=data, own_sum=0, steps=63)])

    def test_a_udp_sum_that_would_be_0(self):
        body = udp(OUTER, 1024, FAR, 53, data=[0, 0], own_sum=0)[20:]
        data = two(usual_sum(over(UDP, OUTER, FAR, body)))
        sent = tell([], (5, WITHIN, udp(INSIDE, 5000, FAR, 53, data=data)))
        self.assertEqual(sent, [udp(OUTER, 1024, FAR, 53, data=data, own_sum=0xFFFF, steps=63)])
        bare = tell([], (5, WITHIN, udp(INSIDE, 5000, FAR, 53, data=data, own_sum=0)))
        self.assertEqual(bare, [udp(OUTER, 1024, FAR, 53, data=data, own_sum=0, steps=63)])

    def test_other_sums_may_be_0(self):
        body = tcp(OUTER, 1024, FAR, 80, data=[0, 0], own_sum=0)[20:]
        data = two(usual_sum(over(TCP, OUTER, FAR, body)))
        self.assertEqual(tell([], (5, WITHIN, tcp(INSIDE, 5000, FAR, 80, data=data))),
                         [tcp(OUTER, 1024, FAR, 80, data=data, own_sum=0, steps=63)])
        body = icmp(OUTER, FAR, 1024, data=[0, 0], own_sum=0)[20:]
        data = two(usual_sum(body))
        self.assertEqual(tell([], (5, WITHIN, icmp(INSIDE, FAR, 99, data=data))),
                         [icmp(OUTER, FAR, 1024, data=data, own_sum=0, steps=63)])
        mark = usual_sum(udp(OUTER, 1024, FAR, 53, mark=0, steps=63, head_sum=0)[:20])
        self.assertEqual(tell([], (5, WITHIN, udp(INSIDE, 5000, FAR, 53, mark=mark))),
                         [udp(OUTER, 1024, FAR, 53, mark=mark, steps=63, head_sum=0)])

    def test_a_sum_that_was_0_is_worked_out_anew(self):
        body = tcp(INSIDE, 5000, FAR, 80, data=[0, 0], own_sum=0)[20:]
        data = two(usual_sum(over(TCP, INSIDE, FAR, body)))
        self.assertEqual(tell([], (5, WITHIN, tcp(INSIDE, 5000, FAR, 80, data=data, own_sum=0))),
                         [tcp(OUTER, 1024, FAR, 80, data=data, steps=63)])
        data = two(usual_sum(icmp(INSIDE, FAR, 99, data=[0, 0], own_sum=0)[20:]))
        self.assertEqual(tell([], (5, WITHIN, icmp(INSIDE, FAR, 99, data=data, own_sum=0))),
                         [icmp(OUTER, FAR, 1024, data=data, steps=63)])

    def test_words_that_add_up_to_just_one_carry(self):
        sent = tell([], (5, WITHIN, icmp(INSIDE, FAR, 99, step=0x10000 - 0x0800 - 0x0400)))
        self.assertEqual(sent, [icmp(OUTER, FAR, 1024, step=0xF400, own_sum=0xFFFE, steps=63)])

    def test_a_long_packet(self):
        data = [k * 7 % 256 for k in range(65000)]
        self.assertEqual(tell([], (5, WITHIN, tcp(INSIDE, 5000, FAR, 80, data=data))),
                         [tcp(OUTER, 1024, FAR, 80, data=data, steps=63)])


class In(unittest.TestCase):
    def test_through_a_door(self):
        for rest in ({}, {"data": [1, 2, 3]}, {"options": [1, 1, 1, 0]}, {"bits": 0x4000, "service": 3}):
            with self.subTest(rest=rest):
                self.assertEqual(tell(DOORS, (5, OUTSIDE, tcp(FAR, 7000, OUTER, 80, **rest))),
                                 [tcp(FAR, 7000, INSIDE, 8080, steps=63, **rest)])
                self.assertEqual(tell(DOORS, (5, OUTSIDE, udp(FAR, 7000, OUTER, 53, **rest))),
                                 [udp(FAR, 7000, INSIDE, 5353, steps=63, **rest)])

    def test_answers_of_every_kind(self):
        told = tell([], (5, WITHIN, tcp(INSIDE, 5000, FAR, 80)),
                    (6, OUTSIDE, tcp(FAR, 80, OUTER, 1024, marks=SYN | ACK, data=[1], options=[1, 1, 1, 0], steps=9)),
                    (6, WITHIN, udp(INSIDE, 5001, FAR, 53)),
                    (6, OUTSIDE, udp(FAR, 53, OUTER, 1024, data=[1, 2, 3], steps=255)),
                    (6, WITHIN, icmp(INSIDE, FAR, 99)),
                    (6, OUTSIDE, icmp(FAR, OUTER, 1024, sort=ANSWER, step=3, data=[4], steps=2)))
        self.assertEqual(told[1::2], [
            tcp(FAR, 80, INSIDE, 5000, marks=SYN | ACK, data=[1], options=[1, 1, 1, 0], steps=8),
            udp(FAR, 53, INSIDE, 5001, data=[1, 2, 3], steps=254),
            icmp(FAR, INSIDE, 99, sort=ANSWER, step=3, data=[4], steps=1)])

    def test_udp_sums(self):
        self.assertEqual(tell(DOORS, (5, OUTSIDE, udp(FAR, 7000, OUTER, 53, data=[1], own_sum=0))),
                         [udp(FAR, 7000, INSIDE, 5353, data=[1], own_sum=0, steps=63)])
        body = udp(FAR, 7000, INSIDE, 5353, data=[0, 0], own_sum=0)[20:]
        data = two(usual_sum(over(UDP, FAR, INSIDE, body)))
        self.assertEqual(tell(DOORS, (5, OUTSIDE, udp(FAR, 7000, OUTER, 53, data=data))),
                         [udp(FAR, 7000, INSIDE, 5353, data=data, own_sum=0xFFFF, steps=63)])

    def test_an_answer_of_kind_1_whose_sum_is_ffff(self):
        told = tell([], (5, WITHIN, icmp(INSIDE, FAR, 0)), (5, OUTSIDE, icmp(FAR, OUTER, 1024, sort=ANSWER, step=0)))
        self.assertEqual(told[1], icmp(FAR, INSIDE, 0, sort=ANSWER, step=0, own_sum=0xFFFF, steps=63))

    def test_kind_1_and_the_two_ports_are_one_number(self):
        told = tell([], (5, WITHIN, icmp(INSIDE, FAR, 0xFFFF)), (5, OUTSIDE, icmp(FAR, OUTER, 1024, sort=ANSWER)))
        self.assertEqual(told, [icmp(OUTER, FAR, 1024, steps=63), icmp(FAR, INSIDE, 0xFFFF, sort=ANSWER, steps=63)])


if __name__ == "__main__":
    unittest.main()
