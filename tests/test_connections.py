import unittest

from tests.helper import (ACK, ANSWER, FAR, FAR2, FIN, INSIDE, INSIDE2, LINES, MOST, OUTER, OUTSIDE, RST, SYN, WITHIN,
                          arrival, came, icmp, marks_of, port_of, read_told, tcp, tell, text, udp)
from twonets.wall import run

DOORS = ["door tcp 80 10.0.0.1 8080", "door udp 53 10.0.0.1 5353"]
OPEN = DOORS + ["let in any any any any"]


def tcp_out(marks=ACK, **rest):
    return tcp(INSIDE, 5000, FAR, 80, marks=marks, **rest)


def tcp_back(marks=ACK, **rest):
    return tcp(FAR, 80, OUTER, 1024, marks=marks, **rest)


def udp_out(port=5000):
    return udp(INSIDE, port, FAR, 53)


def udp_back(port=1024):
    return udp(FAR, 53, OUTER, port)


class Ports(unittest.TestCase):
    def ports(self, lines, *packets):
        return [port_of(packet, 4 if packet[9] == 1 else 0)
                for packet in tell(lines, *[(5, WITHIN, packet) for packet in packets])]

    def test_the_least_from_1024_on(self):
        self.assertEqual(self.ports([], *[udp_out(port) for port in (7, 9, 8, 1024, 65535, 0)]),
                         [1024, 1025, 1026, 1027, 1028, 1029])

    def test_the_same_connection_has_the_same_port(self):
        self.assertEqual(self.ports([], udp_out(7), udp_out(8), udp_out(7), udp_out(8)), [1024, 1025, 1024, 1025])

    def test_what_makes_another_connection(self):
        for make in (tcp, udp):
            self.assertEqual(self.ports([], make(INSIDE, 1, FAR, 2, **({"marks": SYN} if make == tcp else {})),
                                        make(INSIDE2, 1, FAR, 2), make(INSIDE, 3, FAR, 2), make(INSIDE, 1, FAR2, 2),
                                        make(INSIDE, 1, FAR, 4), make(INSIDE, 1, FAR, 2)),
                             [1024, 1025, 1026, 1027, 1028, 1024])
        self.assertEqual(self.ports([], icmp(INSIDE, FAR, 1), icmp(INSIDE2, FAR, 1), icmp(INSIDE, FAR, 2),
                                    icmp(INSIDE, FAR2, 1), icmp(INSIDE, FAR, 1, step=99)),
                         [1024, 1025, 1026, 1027, 1024])

    def test_each_kind_has_its_own(self):
        self.assertEqual(self.ports([], tcp_out(SYN), udp_out(), icmp(INSIDE, FAR, 5000), udp_out(6), tcp_out(SYN),
                                    icmp(INSIDE, FAR, 6)), [1024, 1024, 1024, 1025, 1024, 1025])

    def test_past_doors_of_its_kind(self):
        lines = ["door udp 1024 10.0.0.1 1", "door udp 1026 10.0.0.1 1", "door tcp 1025 10.0.0.1 1024"]
        self.assertEqual(self.ports(lines, *[udp_out(port) for port in (1, 2, 3)]), [1025, 1027, 1028])
        self.assertEqual(self.ports(lines, *[tcp(INSIDE, port, FAR, 80) for port in (1, 2, 3)]), [1024, 1026, 1027])
        self.assertEqual(self.ports(lines, *[icmp(INSIDE, FAR, number) for number in (1, 2, 3)]), [1024, 1025, 1026])

    def test_a_port_that_is_free_again(self):
        told = tell([], (5, WITHIN, tcp(INSIDE, 1, FAR, 80)), (5, WITHIN, tcp(INSIDE, 2, FAR, 80)),
                    (5, WITHIN, tcp(INSIDE, 3, FAR, 80)), (5, WITHIN, tcp(INSIDE, 2, FAR, 80, marks=RST)),
                    (5, WITHIN, tcp(INSIDE, 4, FAR, 80)), (5, WITHIN, tcp(INSIDE, 5, FAR, 80)))
        self.assertEqual([port_of(packet, 0) for packet in told], [1024, 1025, 1026, 1025, 1025, 1027])

    def test_no_port(self):
        # More doors than a text that is asked can hold, so that what is promised of it is seen at all.
        doors = ["door tcp " + str(port) + " 10.0.0.1 1" for port in range(1024, 65535)]
        told = tell(doors, (5, WITHIN, tcp(INSIDE, 1, FAR, 80)), (5, WITHIN, tcp(INSIDE, 2, FAR, 80)),
                    (5, WITHIN, tcp(INSIDE, 1, FAR, 80)), (5, WITHIN, udp(INSIDE, 1, FAR, 80)),
                    (5, WITHIN, tcp(INSIDE, 3, FAR, 80, marks=ACK)), (5, WITHIN, tcp(INSIDE, 1, FAR, 80, marks=RST)),
                    (5, WITHIN, tcp(INSIDE, 2, FAR, 80)))
        self.assertEqual([one if isinstance(one, int) else port_of(one, 0) for one in told],
                         [65535, 6, 65535, 1024, 5, 65535, 65535])


class Full(unittest.TestCase):
    def test_4096_connections(self):
        # More bytes than are asked at once, so that what is promised of it is seen at all.
        first = []
        for number in range(4095):
            first += arrival(5, WITHIN, udp(INSIDE, number, FAR, 53))
        stop = ["stop out any any 9.9.9.10 any"]
        door = tcp(FAR, 7000, OUTER, 80)
        told = read_told(run(MOST, text(*LINES, *OPEN, *stop), first + came(
            (5, OUTSIDE, door), (5, WITHIN, udp(INSIDE, 5000, FAR, 53)), (5, WITHIN, icmp(INSIDE, FAR, 1)),
            (5, OUTSIDE, tcp(FAR, 7001, OUTER, 80)), (5, WITHIN, udp(INSIDE, 5000, FAR2, 53)),
            (5, WITHIN, tcp(INSIDE, 5000, FAR, 53, marks=ACK)), (5, OUTSIDE, tcp(FAR, 7001, OUTER, 80, marks=ACK)),
            (5, WITHIN, udp(INSIDE, 4094, FAR, 53)), (6, OUTSIDE, tcp(FAR, 7000, OUTER, 80, marks=RST)),
            (6, WITHIN, udp(INSIDE, 5000, FAR, 53)), (6, WITHIN, udp(INSIDE, 5001, FAR, 53)),
            (30005, WITHIN, udp(INSIDE, 5001, FAR, 53)), (30006, WITHIN, udp(INSIDE, 5001, FAR, 53)))))
        self.assertEqual([one if isinstance(one, int) else "sent" for one in told],
                         ["sent"] * 4096 + [6, 6, 6, 4, 5, 5, "sent", "sent", "sent", 6, 6, "sent"])
        self.assertEqual(port_of(told[4094], 0), 1024 + 4094)
        self.assertEqual(port_of(told[-1], 0), 1024)


class Time(unittest.TestCase):
    def kept(self, lines, wait, opening, going_on, gone):
        """The connection is there just at its time, and gone one millisecond later."""
        for start in (0, 1000, 0xFFFFFFFF - wait - 1):
            with self.subTest(start=start):
                self.assertEqual(marks_of(lines, (start, WITHIN, opening), (start + wait, OUTSIDE, going_on)),
                                 ["sent", "sent"])
                self.assertEqual(marks_of(lines, (start, WITHIN, opening), (start + wait + 1, OUTSIDE, going_on)),
                                 ["sent", gone])

    def test_without_a_wait(self):
        self.kept([], 300000, tcp_out(SYN), tcp_back(), 5)
        self.kept([], 30000, udp_out(), udp_back(), 5)
        self.kept([], 10000, icmp(INSIDE, FAR, 9), icmp(FAR, OUTER, 1024, sort=ANSWER), 5)

    def test_with_a_wait(self):
        lines = ["wait udp 7", "wait tcp 0", "wait icmp 1000000000"]
        self.kept(lines, 0, tcp_out(SYN), tcp_back(), 5)
        self.kept(lines, 7, udp_out(), udp_back(), 5)
        self.kept(lines, 1000000000, icmp(INSIDE, FAR, 9), icmp(FAR, OUTER, 1024, sort=ANSWER), 5)

    def test_a_wait_is_for_its_kind_alone(self):
        self.kept(["wait tcp 5", "wait icmp 5"], 30000, udp_out(), udp_back(), 5)
        self.kept(["wait udp 5"], 300000, tcp_out(SYN), tcp_back(), 5)

    def test_from_within_too(self):
        for moment, number in ((300000, "sent"), (300001, 5)):
            self.assertEqual(marks_of([], (0, WITHIN, tcp_out(SYN)), (moment, WITHIN, tcp_out())), ["sent", number])

    def test_a_doors_connection_too(self):
        for moment, number in ((300000, "sent"), (300001, 5)):
            self.assertEqual(marks_of(OPEN, (0, OUTSIDE, tcp(FAR, 7000, OUTER, 80)),
                                      (moment, WITHIN, tcp(INSIDE, 8080, FAR, 7000, marks=ACK))), ["sent", number])

    def test_what_is_sent_on_counts_from_both_sides(self):
        for side, packet in ((WITHIN, udp_out()), (OUTSIDE, udp_back())):
            told = marks_of([], (0, WITHIN, udp_out()), (20000, side, packet), (50000, OUTSIDE, udp_back()),
                            (80001, OUTSIDE, udp_back()))
            self.assertEqual(told, ["sent", "sent", "sent", 5])

    def test_what_is_not_sent_on_does_not_count(self):
        for side, packet, number in ((WITHIN, icmp(INSIDE, FAR, 9, sort=ANSWER), 5),
                                     (OUTSIDE, icmp(FAR, OUTER, 1024), 5),
                                     (WITHIN, icmp(INSIDE, FAR, 9, steps=1), 2),
                                     (OUTSIDE, icmp(FAR, OUTER, 1024, sort=ANSWER, steps=1), 2),
                                     (WITHIN, icmp(INSIDE, FAR, 9, own_sum=1), 1),
                                     (OUTSIDE, icmp(FAR, OUTER, 1024, sort=ANSWER, own_sum=1), 1)):
            for moment, later in ((10000, "sent"), (10001, 5)):
                told = marks_of([], (0, WITHIN, icmp(INSIDE, FAR, 9)), (5000, side, packet),
                                (moment, OUTSIDE, icmp(FAR, OUTER, 1024, sort=ANSWER)))
                self.assertEqual(told, ["sent", number, later])

    def test_each_connection_has_its_own_time(self):
        told = marks_of([], (0, WITHIN, udp_out(1)), (10000, WITHIN, udp_out(2)), (30001, OUTSIDE, udp_back(1024)),
                        (30001, OUTSIDE, udp_back(1025)), (60001, OUTSIDE, udp_back(1025)),
                        (90002, OUTSIDE, udp_back(1025)))
        self.assertEqual(told, ["sent", "sent", 5, "sent", "sent", 5])

    def test_gone_also_by_what_is_no_packet(self):
        told = tell([], (0, WITHIN, udp_out(1)), (0, WITHIN, udp_out(2)), (30001, WITHIN, []),
                    (30001, WITHIN, udp_out(2)))
        self.assertEqual(port_of(told[3], 0), 1024)

    def test_a_port_is_free_when_its_connection_is_gone(self):
        for moment, port in ((30000, 1025), (30001, 1024)):
            told = tell([], (0, WITHIN, udp_out(1)), (moment, WITHIN, udp_out(2)))
            self.assertEqual(port_of(told[1], 0), port)


class Closing(unittest.TestCase):
    def told(self, *packets):
        """Of packets of one connection of kind 6 that was opened from within."""
        sides = {tuple(address): side for address, side in (([10, 0, 0, 1], WITHIN), ([9, 9, 9, 9], OUTSIDE))}
        return marks_of([], *[(5, sides[tuple(packet[12:16])], packet) for packet in packets])

    def test_rst(self):
        for last in (tcp_out(RST), tcp_back(RST), tcp_out(RST | ACK), tcp_back(RST | ACK), tcp_out(0xFF)):
            self.assertEqual(self.told(tcp_out(SYN), last, tcp_out()), ["sent", "sent", 5])
            self.assertEqual(self.told(tcp_out(SYN), last, tcp_back()), ["sent", "sent", 5])

    def test_fin_from_both_sides(self):
        for marks in (FIN, FIN | ACK):
            for one, other in ((tcp_out(marks), tcp_back(marks)), (tcp_back(marks), tcp_out(marks))):
                for last in (tcp_out(), tcp_back()):
                    told = self.told(tcp_out(SYN), one, tcp_out(), tcp_back(), other, last)
                    self.assertEqual(told, ["sent", "sent", "sent", "sent", "sent", 5])

    def test_fin_from_one_side_is_not_enough(self):
        for one in (tcp_out(FIN), tcp_back(FIN)):
            self.assertEqual(self.told(tcp_out(SYN), one, one, one, tcp_out(), tcp_back()), ["sent"] * 6)

    def test_other_marks_end_nothing(self):
        for marks in (0, SYN, ACK, SYN | ACK, 8, 0x20, 0x40, 0x80, 0xF8 | SYN):
            self.assertEqual(self.told(tcp_out(SYN), tcp_out(marks), tcp_back(marks), tcp_out()), ["sent"] * 4)

    def test_in_the_packet_that_opens_it(self):
        self.assertEqual(self.told(tcp_out(SYN | RST), tcp_out()), ["sent", 5])
        self.assertEqual(self.told(tcp_out(SYN | RST), tcp_back()), ["sent", 5])
        self.assertEqual(self.told(tcp_out(SYN | FIN), tcp_back(FIN), tcp_back()), ["sent", "sent", 5])
        self.assertEqual(self.told(tcp_out(SYN | FIN), tcp_out(FIN), tcp_back(), tcp_out()), ["sent"] * 4)

    def test_at_a_door(self):
        def come(marks):
            return (5, OUTSIDE, tcp(FAR, 7000, OUTER, 80, marks=marks))

        def go(marks):
            return (5, WITHIN, tcp(INSIDE, 8080, FAR, 7000, marks=marks))

        self.assertEqual(marks_of(OPEN, come(SYN | RST), come(ACK), go(ACK)), ["sent", 5, 5])
        self.assertEqual(marks_of(OPEN, come(SYN | FIN), go(FIN), go(ACK), come(ACK)), ["sent", "sent", 5, 5])
        self.assertEqual(marks_of(OPEN, come(SYN | FIN), come(FIN), go(ACK)), ["sent", "sent", "sent"])
        self.assertEqual(marks_of(OPEN, come(SYN), go(SYN | ACK), come(RST), come(ACK)), ["sent", "sent", "sent", 5])
        self.assertEqual(marks_of(OPEN, come(SYN), go(FIN), come(FIN), go(ACK)), ["sent", "sent", "sent", 5])

    def test_what_is_not_sent_on_ends_nothing(self):
        self.assertEqual(self.told(tcp_out(SYN), tcp_out(RST, steps=1), tcp_back(RST, own_sum=1),
                                   tcp_back(FIN, steps=1), tcp_out(FIN), tcp_back()), ["sent", 2, 1, 2, "sent", "sent"])

    def test_of_another_connection_it_ends_nothing(self):
        other = tcp(INSIDE, 5001, FAR, 80)
        reset = tcp(INSIDE, 5001, FAR, 80, marks=RST)
        self.assertEqual(self.told(tcp_out(SYN), other, reset, tcp_out(), tcp_back()), ["sent"] * 5)

    def test_it_may_be_made_again(self):
        told = self.told(tcp_out(SYN), tcp_out(RST), tcp_out(SYN), tcp_back(FIN), tcp_back(), tcp_out(FIN), tcp_back())
        self.assertEqual(told, ["sent"] * 6 + [5])

    def test_other_kinds_have_no_marks(self):
        data = [0] * 5 + [0xFF] * 20
        self.assertEqual(marks_of([], (5, WITHIN, udp(INSIDE, 5000, FAR, 53, data=data)),
                                  (5, OUTSIDE, udp(FAR, 53, OUTER, 1024, data=data)), (5, OUTSIDE, udp_back()),
                                  (5, WITHIN, icmp(INSIDE, FAR, 9, data=data)),
                                  (5, OUTSIDE, icmp(FAR, OUTER, 1024, sort=ANSWER, data=data)),
                                  (5, OUTSIDE, icmp(FAR, OUTER, 1024, sort=ANSWER))), ["sent"] * 6)


class Matching(unittest.TestCase):
    def test_from_outside(self):
        for packet, number in ((udp(FAR, 53, OUTER, 1024), "sent"), (udp(FAR, 54, OUTER, 1024), 5),
                               (udp(FAR2, 53, OUTER, 1024), 5), (udp(FAR, 53, OUTER, 1025), 5),
                               (udp(FAR, 53, OUTER, 5000), 5), (tcp(FAR, 53, OUTER, 1024), 5),
                               (icmp(FAR, OUTER, 1024, sort=ANSWER), 5)):
            self.assertEqual(marks_of([], (5, WITHIN, udp_out()), (5, OUTSIDE, packet)), ["sent", number])

    def test_ports_that_look_like_questions_and_answers(self):
        for port in (0, 8, 255, 0x0800, 0x08FF):
            for make, more in ((tcp, {"marks": ACK}), (udp, {})):
                told = marks_of([], (5, WITHIN, make(INSIDE, port, FAR, port)),
                                (5, OUTSIDE, make(FAR, port, OUTER, 1024, **more)),
                                (5, WITHIN, make(INSIDE, port, FAR, port, **more)))
                self.assertEqual(told, ["sent", "sent", "sent"])

    def test_from_outside_of_kind_1(self):
        for packet, number in ((icmp(FAR, OUTER, 1024, sort=ANSWER), "sent"), (icmp(FAR2, OUTER, 1024, sort=ANSWER), 5),
                               (icmp(FAR, OUTER, 9, sort=ANSWER), 5), (icmp(FAR, OUTER, 1025, sort=ANSWER), 5)):
            self.assertEqual(marks_of([], (5, WITHIN, icmp(INSIDE, FAR, 9)), (5, OUTSIDE, packet)), ["sent", number])

    def test_a_door_makes_none_where_a_connection_is_at_its_port(self):
        told = tell(OPEN, (5, OUTSIDE, udp(FAR, 7000, OUTER, 53)), (5, OUTSIDE, udp(FAR, 7000, OUTER, 53)),
                    (30006, WITHIN, udp(INSIDE, 5353, FAR, 7000)))
        self.assertEqual(told[1], udp(FAR, 7000, INSIDE, 5353, steps=63))
        self.assertEqual(port_of(told[2], 0), 1024)

    def test_a_connection_from_within_may_be_of_a_door(self):
        told = tell(OPEN, (5, OUTSIDE, udp(FAR, 7000, OUTER, 53)), (5, WITHIN, udp(INSIDE, 5353, FAR, 7000)))
        self.assertEqual(told[1], udp(OUTER, 53, FAR, 7000, steps=63))

    def test_looked_through_in_the_order_they_were_made(self):
        two_doors = ["door udp 53 10.0.0.1 5353", "door udp 40 10.0.0.1 5353", "let in any any any any"]
        within = (5, WITHIN, udp(INSIDE, 5353, FAR, 7000))
        by_53 = (5, OUTSIDE, udp(FAR, 7000, OUTER, 53))
        by_40 = (5, OUTSIDE, udp(FAR, 7000, OUTER, 40))
        for arrivals, port in (((within, by_53), 1024), ((by_53, by_40), 53), ((by_40, by_53), 40),
                               ((within, by_40, by_53), 1024), ((by_40, by_53, by_40), 40)):
            told = tell(two_doors, *arrivals, within)
            self.assertEqual(told[-1], udp(OUTER, port, FAR, 7000, steps=63))

    def test_the_next_when_the_first_is_gone(self):
        doors = ["door tcp 80 10.0.0.1 8080", "door tcp 70 10.0.0.1 8080", "let in any any any any"]
        told = tell(doors, (5, OUTSIDE, tcp(FAR, 7000, OUTER, 80)), (5, OUTSIDE, tcp(FAR, 7000, OUTER, 70)),
                    (5, WITHIN, tcp(INSIDE, 8080, FAR, 7000, marks=ACK)),
                    (5, OUTSIDE, tcp(FAR, 7000, OUTER, 80, marks=RST)),
                    (5, WITHIN, tcp(INSIDE, 8080, FAR, 7000, marks=ACK)),
                    (5, OUTSIDE, tcp(FAR, 7000, OUTER, 80)), (5, WITHIN, tcp(INSIDE, 8080, FAR, 7000, marks=ACK)))
        self.assertEqual([port_of(told[k], 0) for k in (2, 4, 6)], [80, 70, 70])

    def test_a_new_one_is_behind_the_older_ones_after_a_time(self):
        doors = ["door udp 80 10.0.0.1 8080", "door udp 70 10.0.0.1 8080", "let in any any any any"]
        told = tell(doors, (0, OUTSIDE, udp(FAR, 7000, OUTER, 80)), (10, OUTSIDE, udp(FAR, 7000, OUTER, 70)),
                    (20000, OUTSIDE, udp(FAR, 7000, OUTER, 70)), (30001, OUTSIDE, udp(FAR, 7000, OUTER, 80)),
                    (30001, WITHIN, udp(INSIDE, 8080, FAR, 7000)))
        self.assertEqual(port_of(told[-1], 0), 70)


if __name__ == "__main__":
    unittest.main()
