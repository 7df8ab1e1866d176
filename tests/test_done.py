import unittest

from tests.helper import (ACK, ANSWER, FAR, FAR2, INSIDE, INSIDE2, MOST, OUTER, OUTSIDE, QUESTION, SYN, WITHIN, came,
                          icmp, marks_of, read_told, tcp, tell, text, udp)
from twonets.wall import run

DOORS = ["door tcp 80 10.0.0.1 8080", "door udp 53 10.0.0.1 5353"]
OPEN = DOORS + ["let in any any any any"]


class Order(unittest.TestCase):
    """Where two of the numbers would be met, the first is told."""

    def held(self, lines, side, packet, number):
        self.assertEqual(marks_of(lines, (5, side, packet)), [number])

    def test_the_count(self):
        for steps in (0, 1):
            for side, packet in ((WITHIN, udp(INSIDE, 5000, FAR, 53, steps=steps)),
                                 (WITHIN, tcp(INSIDE, 5000, FAR, 80, steps=steps)),
                                 (WITHIN, icmp(INSIDE, FAR, 99, steps=steps)),
                                 (OUTSIDE, tcp(FAR, 7000, OUTER, 80, steps=steps)),
                                 (OUTSIDE, udp(FAR, 7000, OUTER, 53, steps=steps))):
                self.held(OPEN, side, packet, 2)
        self.held(OPEN, WITHIN, udp(INSIDE, 5000, FAR, 53, steps=2), "sent")
        self.held(OPEN, OUTSIDE, tcp(FAR, 7000, OUTER, 80, steps=2), "sent")

    def test_1_before_2(self):
        self.held([], WITHIN, udp(INSIDE, 5000, FAR, 53, steps=1, own_sum=1), 1)
        self.held([], OUTSIDE, udp(FAR, 53, OUTER, 1024, steps=0, bits=1), 1)

    def test_1_before_3(self):
        self.held([], WITHIN, udp(FAR, 5000, FAR, 53, own_sum=1), 1)

    def test_2_before_3(self):
        self.held([], WITHIN, udp(FAR, 5000, FAR2, 53, steps=1), 2)
        self.held([], OUTSIDE, udp(FAR, 5000, FAR2, 53, steps=1), 2)

    def test_3_before_4_and_5(self):
        self.held(["stop out any any any any"], WITHIN, tcp(FAR, 5000, FAR2, 53, marks=ACK), 3)
        self.held([], WITHIN, tcp(INSIDE, 5000, INSIDE2, 53, marks=ACK), 3)
        self.held(DOORS, OUTSIDE, tcp(INSIDE, 5000, OUTER, 80), 3)
        self.held(DOORS, OUTSIDE, tcp(FAR, 5000, FAR2, 81), 3)
        self.held([], WITHIN, icmp(INSIDE, INSIDE2, 9, sort=ANSWER), 3)
        self.held([], OUTSIDE, icmp(FAR, INSIDE, 9), 3)

    def test_3_before_a_connection(self):
        told = marks_of(["door udp 53 20.0.0.1 53", "let in any any any any"],
                        (5, OUTSIDE, udp(FAR, 7000, OUTER, 53)), (5, WITHIN, udp("20.0.0.1", 53, FAR, 7000)))
        self.assertEqual(told, ["sent", 3])

    def test_from_within_4_before_5(self):
        stop = ["stop out any any any any"]
        self.held(stop, WITHIN, tcp(INSIDE, 5000, FAR, 80, marks=ACK), 4)
        self.held(stop, WITHIN, icmp(INSIDE, FAR, 99, sort=ANSWER), 4)
        self.held(stop, WITHIN, tcp(INSIDE, 5000, FAR, 80), 4)
        self.held(stop, WITHIN, udp(INSIDE, 5000, FAR, 53), 4)
        self.held(stop, WITHIN, icmp(INSIDE, FAR, 99), 4)

    def test_from_outside_no_door_then_4_then_5(self):
        stop = DOORS + ["stop in any any any any"]
        self.held(stop, OUTSIDE, tcp(FAR, 7000, OUTER, 81), 5)
        self.held(stop, OUTSIDE, udp(FAR, 7000, OUTER, 80), 5)
        self.held(stop, OUTSIDE, tcp(FAR, 7000, OUTER, 53), 5)
        self.held(stop, OUTSIDE, tcp(FAR, 7000, OUTER, 8080), 5)
        self.held(stop, OUTSIDE, icmp(FAR, OUTER, 80), 5)
        self.held(stop, OUTSIDE, icmp(FAR, OUTER, 80, sort=ANSWER), 5)
        self.held(stop, OUTSIDE, tcp(FAR, 7000, OUTER, 80), 4)
        self.held(stop, OUTSIDE, tcp(FAR, 7000, OUTER, 80, marks=ACK), 4)
        self.held(stop, OUTSIDE, udp(FAR, 7000, OUTER, 53), 4)
        self.held(OPEN, OUTSIDE, tcp(FAR, 7000, OUTER, 80, marks=ACK), 5)


class Ends(unittest.TestCase):
    def check(self, lines, side, packet, number):
        self.assertEqual(marks_of(lines, (5, side, packet)), [number])

    def test_from_within(self):
        for source, target, number in ((INSIDE, FAR, "sent"), ("10.255.255.255", FAR, "sent"),
                                       ("10.0.0.0", "11.0.0.0", "sent"), ("11.0.0.0", FAR, 3),
                                       ("9.255.255.255", FAR, 3), (OUTER, FAR, 3), (FAR, FAR2, 3),
                                       (INSIDE, INSIDE2, 3), (INSIDE, INSIDE, 3), (INSIDE, "10.255.255.255", 3),
                                       (INSIDE, OUTER, 3), (INSIDE, "5.6.7.9", "sent"), (INSIDE, "5.6.7.7", "sent")):
            with self.subTest(source=source, target=target):
                self.check([], WITHIN, udp(source, 5000, target, 53), number)
                self.check([], WITHIN, tcp(source, 5000, target, 53), number)
                self.check([], WITHIN, icmp(source, target, 53), number)

    def test_from_outside(self):
        for source, target, number in ((FAR, OUTER, "sent"), (FAR, "5.6.7.9", 3), (FAR, INSIDE, 3), (FAR, FAR2, 3),
                                       (INSIDE, OUTER, 3), (OUTER, OUTER, 3), ("10.0.0.0", OUTER, 3),
                                       ("10.255.255.255", OUTER, 3), ("11.0.0.0", OUTER, "sent"),
                                       ("9.255.255.255", OUTER, "sent")):
            with self.subTest(source=source, target=target):
                self.check(OPEN, OUTSIDE, udp(source, 5000, target, 53), number)
                self.check(OPEN, OUTSIDE, tcp(source, 5000, target, 80), number)

    def test_bits_that_count(self):
        for net, source, number in (("10.1.2.3", "10.1.2.3", "sent"), ("10.1.2.3", "10.1.2.2", 3),
                                    ("10.1.2.3/32", "10.1.2.3", "sent"), ("10.1.2.3/32", "10.1.2.2", 3),
                                    ("10.1.2.3/31", "10.1.2.2", "sent"), ("10.1.2.3/31", "10.1.2.4", 3),
                                    ("10.1.2.3/9", "10.127.9.9", "sent"), ("10.1.2.3/9", "10.128.0.0", 3),
                                    ("10.1.2.3/1", "127.0.0.1", "sent"), ("10.1.2.3/1", "128.0.0.1", 3),
                                    ("10.1.2.3/0", "10.1.2.3", 3), ("any", "10.1.2.3", 3)):
            with self.subTest(net=net, source=source):
                packet = udp(source, 5000, "200.0.0.1", 53)
                answer = run(MOST, text("inner " + net, "outer 5.6.7.8"), came((5, WITHIN, packet)))
                told = read_told(answer)[0]
                self.assertEqual(told if isinstance(told, int) else "sent", number)


class Opening(unittest.TestCase):
    def test_kind_6_opens_with_syn_and_without_ack(self):
        for marks in range(256):
            number = "sent" if marks & SYN and not marks & ACK else 5
            self.assertEqual(marks_of([], (5, WITHIN, tcp(INSIDE, 5000, FAR, 80, marks=marks))), [number])
            self.assertEqual(marks_of(OPEN, (5, OUTSIDE, tcp(FAR, 5000, OUTER, 80, marks=marks))), [number])

    def test_kind_1_opens_with_a_question_from_within_alone(self):
        self.assertEqual(marks_of(OPEN, (5, WITHIN, icmp(INSIDE, FAR, 9))), ["sent"])
        self.assertEqual(marks_of(OPEN, (5, WITHIN, icmp(INSIDE, FAR, 9, sort=ANSWER))), [5])
        for number in (53, 80, 1024):
            for sort in (QUESTION, ANSWER):
                self.assertEqual(marks_of(OPEN, (5, OUTSIDE, icmp(FAR, OUTER, number, sort=sort))), [5])

    def test_of_a_connection_of_kind_1(self):
        told = marks_of([], (5, WITHIN, icmp(INSIDE, FAR, 9)), (5, WITHIN, icmp(INSIDE, FAR, 9, sort=ANSWER)),
                        (5, OUTSIDE, icmp(FAR, OUTER, 1024)), (5, OUTSIDE, icmp(FAR, OUTER, 1024, sort=ANSWER)),
                        (5, WITHIN, icmp(INSIDE, FAR, 9, step=8)), (5, OUTSIDE, icmp(FAR, OUTER, 9, sort=ANSWER)))
        self.assertEqual(told, ["sent", 5, 5, "sent", "sent", 5])

    def test_an_answer_of_a_connection_is_5_where_a_rule_would_stop_it(self):
        stop = ["let out icmp 10.0.0.1 any any", "stop out any any any any"]
        told = marks_of(stop, (5, WITHIN, icmp(INSIDE, FAR, 9)), (5, WITHIN, icmp(INSIDE, FAR, 9, sort=ANSWER)),
                        (5, WITHIN, icmp(INSIDE2, FAR, 9, sort=ANSWER)))
        self.assertEqual(told, ["sent", 5, 4])


class Rules(unittest.TestCase):
    def check(self, rules, packet, number, side=WITHIN):
        with self.subTest(rules=rules, number=number):
            self.assertEqual(marks_of(DOORS + rules, (5, side, packet)), [number])

    def test_without_one(self):
        self.check([], udp(INSIDE, 5000, FAR, 53), "sent")
        self.check([], udp(FAR, 5000, OUTER, 53), 4, OUTSIDE)
        self.check([], tcp(FAR, 5000, OUTER, 80), 4, OUTSIDE)

    def test_the_first_that_fits(self):
        packet = udp(INSIDE, 5000, FAR, 53)
        self.check(["let out udp any any any", "stop out udp any any any"], packet, "sent")
        self.check(["stop out udp any any any", "let out udp any any any"], packet, 4)
        self.check(["let out udp any any 54", "stop out udp any any any"], packet, 4)
        self.check(["stop out udp any any 54", "let out udp any any any"], packet, "sent")
        self.check(["stop out tcp any any any", "stop out udp 10.0.0.2 any any", "stop out udp any 9.9.9.8/32 any"],
                   packet, "sent")

    def test_the_way(self):
        self.check(["stop in any any any any"], udp(INSIDE, 5000, FAR, 53), "sent")
        self.check(["let out any any any any"], udp(FAR, 5000, OUTER, 53), 4, OUTSIDE)
        self.check(["stop out any any any any", "let in any any any any"], udp(FAR, 5000, OUTER, 53), "sent", OUTSIDE)
        self.check(["let in any any any any", "stop out any any any any"], udp(INSIDE, 5000, FAR, 53), 4)

    def test_kinds(self):
        packets = {"tcp": tcp(INSIDE, 5000, FAR, 80), "udp": udp(INSIDE, 5000, FAR, 80), "icmp": icmp(INSIDE, FAR, 80)}
        for ruled in packets:
            for kind, packet in packets.items():
                self.check(["stop out " + ruled + " any any any"], packet, 4 if kind == ruled else "sent")
        for packet in packets.values():
            self.check(["stop out any any any any"], packet, 4)

    def test_nets_out(self):
        packet = udp(INSIDE, 5000, FAR, 53)
        for first, second, number in (("10.0.0.1", "any", 4), ("10.0.0.2", "any", "sent"), ("10.0.0.2/30", "any", 4),
                                      ("9.9.9.9", "any", "sent"), ("any", "9.9.9.9", 4), ("any", "9.9.9.8", "sent"),
                                      ("any", "9.9.9.8/31", 4), ("any", "10.0.0.1", "sent"),
                                      ("10.0.0.1", "9.0.0.0/8", 4), ("5.6.7.8", "any", "sent"),
                                      ("10.0.0.1/0", "1.2.3.4/0", 4), ("10.0.0.1", "9.9.9.10", "sent")):
            self.check(["stop out udp " + first + " " + second + " any"], packet, number)

    def test_nets_in_are_the_senders_and_the_doors(self):
        packet = udp(FAR, 5000, OUTER, 53)
        for first, second, number in (("9.9.9.9", "10.0.0.1", "sent"), ("9.9.9.8/31", "10.0.0.0/8", "sent"),
                                      ("9.9.9.8", "any", 4), ("any", "5.6.7.8", 4), ("any", "10.0.0.2", 4),
                                      ("any", "10.0.0.1", "sent"), ("10.0.0.1", "9.9.9.9", 4)):
            self.check(["let in udp " + first + " " + second + " any"], packet, number, OUTSIDE)

    def test_ports_out_are_those_it_is_to_go_to(self):
        for make in (tcp, udp):
            packet = make(INSIDE, 5000, FAR, 80)
            for ports, number in (("80", 4), ("79", "sent"), ("81", "sent"), ("80-80", 4), ("79-81", 4), ("80-90", 4),
                                  ("70-80", 4), ("70-79", "sent"), ("81-90", "sent"), ("5000", "sent"),
                                  ("1024", "sent"), ("any", 4), ("0-65535", 4)):
                self.check(["stop out any any any " + ports], packet, number)

    def test_ports_at_their_edges(self):
        for port in (0, 65535):
            self.check(["stop out udp any any " + str(port)], udp(INSIDE, 5000, FAR, port), 4)
            self.check(["stop out udp any any any"], udp(INSIDE, 5000, FAR, port), 4)
            self.check(["stop out udp any any 1-65534"], udp(INSIDE, 5000, FAR, port), "sent")

    def test_ports_in_are_the_doors(self):
        for ports, number in (("8080", "sent"), ("80", 4), ("5000", 4), ("8000-9000", "sent"), ("any", "sent")):
            self.check(["let in tcp any any " + ports], tcp(FAR, 5000, OUTER, 80), number, OUTSIDE)

    def test_ports_of_icmp_do_not_count(self):
        for kind in ("icmp", "any"):
            for ports in ("1", "80", "5-6", "any"):
                self.check(["stop out " + kind + " any any " + ports], icmp(INSIDE, FAR, 80), 4)

    def test_of_a_connection_they_do_not_count(self):
        stop = ["stop out any any 9.9.9.9 any", "let in any any any any"]
        told = marks_of(DOORS + stop, (5, WITHIN, tcp(INSIDE, 8080, FAR, 7000)),
                        (5, OUTSIDE, tcp(FAR, 7000, OUTER, 80)),
                        (5, WITHIN, tcp(INSIDE, 8080, FAR, 7000, marks=SYN | ACK)))
        self.assertEqual(told, [4, "sent", "sent"])
        told = marks_of([], (5, WITHIN, tcp(INSIDE, 5000, FAR, 80)), (5, OUTSIDE, tcp(FAR, 80, OUTER, 1024, marks=ACK)))
        self.assertEqual(told, ["sent", "sent"])


class Doors(unittest.TestCase):
    def test_what_answers_comes_from_the_doors_port(self):
        told = tell(OPEN, (5, OUTSIDE, tcp(FAR, 7000, OUTER, 80)),
                    (5, WITHIN, tcp(INSIDE, 8080, FAR, 7000, marks=SYN | ACK)),
                    (5, OUTSIDE, tcp(FAR, 7000, OUTER, 80, marks=ACK)))
        self.assertEqual(told[1], tcp(OUTER, 80, FAR, 7000, marks=SYN | ACK, steps=63))
        self.assertEqual(told[2], tcp(FAR, 7000, INSIDE, 8080, marks=ACK, steps=63))

    def test_each_kind_has_its_own(self):
        lines = ["door tcp 80 10.0.0.1 8080", "door udp 80 10.0.0.2 9090", "let in any any any any"]
        self.assertEqual(tell(lines, (5, OUTSIDE, tcp(FAR, 7000, OUTER, 80)), (5, OUTSIDE, udp(FAR, 7000, OUTER, 80))),
                         [tcp(FAR, 7000, INSIDE, 8080, steps=63), udp(FAR, 7000, INSIDE2, 9090, steps=63)])

    def test_many_far_ends_at_one_door(self):
        told = tell(OPEN, (5, OUTSIDE, udp(FAR, 7000, OUTER, 53)), (5, OUTSIDE, udp(FAR, 7001, OUTER, 53)),
                    (5, OUTSIDE, udp(FAR2, 7000, OUTER, 53)), (5, WITHIN, udp(INSIDE, 5353, FAR2, 7000)),
                    (5, WITHIN, udp(INSIDE, 5353, FAR, 7001)), (5, WITHIN, udp(INSIDE, 5353, FAR2, 7001)))
        self.assertEqual(told[3:], [udp(OUTER, 53, FAR2, 7000, steps=63), udp(OUTER, 53, FAR, 7001, steps=63),
                                    udp(OUTER, 1024, FAR2, 7001, steps=63)])

    def test_ports_at_their_edges(self):
        lines = ["door udp 0 10.0.0.1 65535", "door udp 65535 10.0.0.1 0", "let in any any any any"]
        self.assertEqual(tell(lines, (5, OUTSIDE, udp(FAR, 0, OUTER, 0)), (5, OUTSIDE, udp(FAR, 0, OUTER, 65535))),
                         [udp(FAR, 0, INSIDE, 65535, steps=63), udp(FAR, 0, INSIDE, 0, steps=63)])

    def test_a_door_to_an_address_that_is_not_within(self):
        lines = ["door udp 53 20.0.0.1 99", "let in any any any any"]
        self.assertEqual(tell(lines, (5, OUTSIDE, udp(FAR, 7000, OUTER, 53))),
                         [udp(FAR, 7000, "20.0.0.1", 99, steps=63)])


if __name__ == "__main__":
    unittest.main()
