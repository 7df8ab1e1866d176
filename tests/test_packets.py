import unittest

from tests.helper import (ACK, ANSWER, FAR, ICMP, INSIDE, OUTER, OUTSIDE, QUESTION, SYN, TCP, UDP, WITHIN, icmp, ip,
                          marks_of, over, tcp, two, udp, usual_sum)


def tcp_out(**rest):
    return tcp(INSIDE, 5000, FAR, 80, **rest)


def udp_out(**rest):
    return udp(INSIDE, 5000, FAR, 53, **rest)


def icmp_out(**rest):
    return icmp(INSIDE, FAR, 99, **rest)


MAKERS = (tcp_out, udp_out, icmp_out)


class Reading(unittest.TestCase):
    def held(self, packet, **why):
        with self.subTest(**why):
            self.assertEqual(marks_of([], (5, WITHIN, packet)), [1])

    def sent(self, packet, **why):
        with self.subTest(**why):
            self.assertEqual(marks_of([], (5, WITHIN, packet)), ["sent"])


class Heads(Reading):
    def test_a_known_head(self):
        head = [0x45, 0, 0, 0x73, 0, 0, 0x40, 0, 0x40, 0x11, 0xB8, 0x61, 192, 168, 0, 1, 192, 168, 0, 0xC7]
        body = two(7) + two(9) + two(0x73 - 20) + two(0) + [0] * (0x73 - 28)
        self.assertEqual(ip(17, "192.168.0.1", "192.168.0.199", body, bits=0x4000, mark=0), head + body)

    def test_sound_ones(self):
        for make in MAKERS:
            self.sent(make(), make=make.__name__)

    def test_version(self):
        for make in MAKERS:
            for version in (0, 3, 5, 6, 12, 15):
                self.held(make(version=version), make=make.__name__, version=version)

    def test_as_long_as_it_says(self):
        for make in MAKERS:
            size = len(make())
            for total in (0, 20, size - 1, size + 1, size + 256):
                self.held(make(total=total), make=make.__name__, total=total)
            self.held(make() + [0], make=make.__name__, why="a byte too many")
            self.held(make(data=[0])[:-1], make=make.__name__, why="a byte too few")
            self.held(make(data=[0, 0])[:-2], make=make.__name__, why="two bytes too few")

    def test_a_length_above_255(self):
        for make in MAKERS:
            self.sent(make(data=[7] * 300), make=make.__name__)

    def test_head_below_20_bytes(self):
        # All else is right here: with a head of 16 bytes, the ports would be the target's address.
        for kind, rest in ((UDP, two(8) + two(0)), (ICMP, [])):
            front = [0x44, 0] + two(16 + 8) + [0, 0, 0, 0, 64, kind]
            target = [8, 0, 0, 0] if kind == ICMP else [9, 9, 9, 9]
            body = target + (rest if kind == UDP else [1, 2, 3, 4])
            if kind == ICMP:
                body[2:4] = two(usual_sum(body))
            head = front + [0, 0] + [10, 0, 0, 1]
            head[10:12] = two(usual_sum(head))
            self.held(head + body, kind=kind)

    def test_head_of_no_bytes(self):
        for words in (0, 1, 4):
            self.held(udp_out(words=words), words=words)

    def test_head_not_within(self):
        self.held(ip(UDP, INSIDE, FAR, [], words=6))
        self.held(ip(UDP, INSIDE, FAR, [0, 0, 0], words=6))
        self.held(ip(TCP, INSIDE, FAR, [0] * 8, words=15))
        self.held(udp_out(words=8))

    def test_cut_off_anywhere(self):
        whole = udp_out(data=[1, 2, 3])
        for size in range(len(whole)):
            self.held(whole[:size], size=size)

    def test_a_head_alone(self):
        for kind in (TCP, UDP, ICMP):
            self.held(ip(kind, INSIDE, FAR, []), kind=kind)

    def test_head_sum(self):
        for make in MAKERS:
            sound = make()
            right = sound[10] << 8 | sound[11]
            for wrong in (right ^ 1, right ^ 0x8000, right + 1 & 0xFFFF, 0, 0xFFFF, right ^ 0xFFFF):
                self.held(make(head_sum=wrong), make=make.__name__, wrong=wrong)

    def test_every_byte_of_a_head_counts_in_its_sum(self):
        for make in MAKERS:
            sound = make(options=[1, 1, 1, 0])
            for place in range(24):
                changed = list(sound)
                changed[place] ^= 1
                self.held(changed, make=make.__name__, place=place)

    def test_a_head_longer_than_20_bytes(self):
        for make in MAKERS:
            for options in ([1, 1, 1, 0], [7, 39, 4] + [0] * 36 + [0], [0xFF] * 40):
                self.sent(make(options=options), make=make.__name__, options=options)

    def test_pieces(self):
        for make in MAKERS:
            for bits in (0x8000, 0x2000, 0x1000, 1, 0x1FFF, 0xC000, 0x6000, 0x4001, 0xFFFF):
                self.held(make(bits=bits), make=make.__name__, bits=bits)
            self.sent(make(bits=0x4000), make=make.__name__, bits=0x4000)

    def test_other_kinds(self):
        for make in MAKERS:
            for kind in (0, 2, 4, 5, 7, 16, 18, 41, 47, 50, 58, 132, 136, 255):
                self.held(ip(kind, INSIDE, FAR, make()[20:]), make=make.__name__, kind=kind)
        for kind in (0, 2, 5, 7, 16, 18):
            for make, place in ((tcp_out, 16), (udp_out, 6), (icmp_out, 2)):
                body = make()[20:]
                body[place:place + 2] = [0, 0]
                body[place:place + 2] = two(usual_sum(over(kind, INSIDE, FAR, body)))
                self.held(ip(kind, INSIDE, FAR, body), make=make.__name__, kind=kind)

    def test_odd_numbers_of_bytes(self):
        for make in MAKERS:
            for size in (1, 3, 5):
                self.sent(make(data=[200] * size), make=make.__name__, size=size)

    def test_an_odd_last_byte_is_the_greater_half(self):
        body = udp_out(data=[1, 2, 200])[20:]
        body[6:8] = [0, 0]
        wrong = usual_sum(over(UDP, INSIDE, FAR, body)[:-1] + [0, 200])
        self.held(udp_out(data=[1, 2, 200], own_sum=wrong))
        body = tcp_out(data=[200])[20:]
        body[16:18] = [0, 0]
        wrong = usual_sum(over(TCP, INSIDE, FAR, body)[:-1] + [0, 200])
        self.held(tcp_out(data=[200], own_sum=wrong))
        body = icmp_out(data=[200])[20:]
        body[2:4] = [0, 0]
        self.held(icmp_out(data=[200], own_sum=usual_sum(body[:-1] + [0, 200])))

    def test_carries_come_in_again(self):
        for make in MAKERS:
            self.sent(make(data=[255] * 1000), make=make.__name__)
            self.sent(make(data=[255] * 1001), make=make.__name__)

    def test_no_bytes(self):
        self.held([])
        self.held([0x45])


class OwnSums(Reading):
    def test_wrong_sums(self):
        for make, place in ((tcp_out, 36), (udp_out, 26), (icmp_out, 22)):
            sound = make(data=[1, 2, 3])
            right = sound[place] << 8 | sound[place + 1]
            for wrong in (right ^ 1, right ^ 0x8000, right + 1 & 0xFFFF, right ^ 0xFFFF):
                self.held(make(data=[1, 2, 3], own_sum=wrong), make=make.__name__, wrong=wrong)

    def test_every_byte_counts(self):
        for make in MAKERS:
            for options in ([], [1, 1, 1, 0]):
                sound = make(data=[1, 2, 3], options=options)
                for place in range(20 + len(options), len(sound)):
                    changed = list(sound)
                    changed[place] ^= 4
                    self.held(changed, make=make.__name__, place=place)

    def test_only_udp_may_have_none(self):
        self.held(tcp_out(own_sum=0))
        self.held(icmp_out(own_sum=0))
        self.sent(udp_out(own_sum=0))
        self.sent(udp_out(own_sum=0, data=[1, 2, 3]))

    def test_addresses_count_for_kinds_6_and_17_alone(self):
        for make, kind, place in ((tcp_out, TCP, 16), (udp_out, UDP, 6)):
            body = make()[20:]
            body[place:place + 2] = [0, 0]
            self.held(make(own_sum=usual_sum(body)), make=make.__name__)
            self.held(make(own_sum=usual_sum(over(kind, INSIDE, "9.9.9.8", body))), make=make.__name__)
            self.held(make(own_sum=usual_sum(over(kind + 1, INSIDE, FAR, body))), make=make.__name__)
            self.held(make(own_sum=usual_sum(over(kind, INSIDE, FAR, body)[:11] + [0] + body)), make=make.__name__)
        body = icmp_out()[20:]
        body[2:4] = [0, 0]
        self.held(icmp_out(own_sum=usual_sum(over(ICMP, INSIDE, FAR, body))))

    def test_a_udp_sum_that_works_out_as_0(self):
        body = udp_out(data=[0, 0])[20:]
        body[6:8] = [0, 0]
        data = two(usual_sum(over(UDP, INSIDE, FAR, body)))
        self.assertEqual(usual_sum(over(UDP, INSIDE, FAR, body[:8] + data)), 0)
        self.sent(udp_out(data=data, own_sum=0xFFFF))
        self.sent(udp_out(data=data, own_sum=0))
        self.held(udp_out(data=data, own_sum=1))

    def test_sums_that_are_0(self):
        body = tcp_out(data=[0, 0])[20:]
        body[16:18] = [0, 0]
        self.sent(tcp_out(data=two(usual_sum(over(TCP, INSIDE, FAR, body))), own_sum=0))
        body = icmp_out(data=[0, 0])[20:]
        body[2:4] = [0, 0]
        self.sent(icmp_out(data=two(usual_sum(body)), own_sum=0))
        head = udp_out(mark=0)
        head[10:12] = [0, 0]
        self.sent(udp_out(mark=usual_sum(head[:20]), head_sum=0))


class Kind6(Reading):
    def test_20_bytes_at_least(self):
        self.held(tcp_out(cut=1))
        self.held(tcp_out(cut=1, words=4))
        self.held(tcp_out(cut=2))
        self.sent(tcp_out())

    def test_its_own_head(self):
        for words in (0, 1, 4, 6, 7, 15):
            self.held(tcp_out(words=words), words=words)
        for words in (0, 4):
            self.held(tcp_out(words=words, data=[0] * 40), words=words)
        self.held(tcp_out(words=6, data=[0] * 3))
        self.sent(tcp_out(words=6, data=[0] * 4))
        self.sent(tcp_out(words=6, data=[0] * 5))
        self.held(tcp_out(words=15, data=[0] * 39))
        self.sent(tcp_out(words=15, data=[0] * 40))

    def test_the_heads_options_are_not_its_own_head(self):
        self.held(tcp_out(words=6, options=[1, 1, 1, 0]))
        self.sent(tcp_out(own_options=[1, 1, 1, 0], options=[1, 1, 1, 0]))


class Kind17(Reading):
    def test_8_bytes_at_least(self):
        self.held(udp_out(cut=1, own_sum=0))
        self.held(udp_out(cut=1))
        self.held(udp_out(cut=4, own_sum=0))
        self.sent(udp_out())
        self.sent(udp_out(own_sum=0))

    def test_as_long_as_it_says(self):
        for own_sum in (None, 0):
            for length in (0, 7, 8, 11, 13, 268, 65535):
                self.held(udp_out(data=[1, 2, 3, 4], length=length, own_sum=own_sum), length=length)
            self.sent(udp_out(data=[1, 2, 3, 4], length=12, own_sum=own_sum))
        self.held(udp_out(data=[1, 2, 3, 4], length=32))


class Kind1(Reading):
    def test_8_bytes_at_least(self):
        self.held(icmp_out(cut=1))
        self.held(icmp_out(cut=2))
        self.held(icmp_out(cut=4))
        self.sent(icmp_out())

    def test_code(self):
        for code in (1, 8, 255):
            self.held(icmp_out(code=code), code=code)

    def test_questions_and_answers_alone(self):
        for sort in (1, 2, 3, 4, 5, 7, 9, 10, 11, 12, 13, 14, 16, 128, 129, 255):
            self.held(icmp_out(sort=sort), sort=sort)
        self.sent(icmp_out(sort=QUESTION))
        answer = icmp(FAR, OUTER, 1024, sort=ANSWER)
        self.assertEqual(marks_of([], (5, WITHIN, icmp_out()), (5, OUTSIDE, answer)), ["sent", "sent"])
        self.assertEqual(marks_of([], (5, WITHIN, icmp_out(sort=ANSWER))), [5])


class FromOutside(unittest.TestCase):
    def test_read_as_strictly(self):
        door = ["door udp 53 10.0.0.1 5353", "door tcp 80 10.0.0.1 8080", "let in any any any any"]
        sound = (tcp(FAR, 7, OUTER, 80), udp(FAR, 7, OUTER, 53))
        broken = (tcp(FAR, 7, OUTER, 80, own_sum=0), tcp(FAR, 7, OUTER, 80, bits=0x2000), udp(FAR, 7, OUTER, 53) + [0],
                  udp(FAR, 7, OUTER, 53, own_sum=1), tcp(FAR, 7, OUTER, 80, marks=SYN | ACK, version=5),
                  icmp(FAR, OUTER, 1024, code=1))
        for packet in sound:
            self.assertEqual(marks_of(door, (5, OUTSIDE, packet)), ["sent"])
        for packet in broken:
            self.assertEqual(marks_of(door, (5, OUTSIDE, packet)), [1])


if __name__ == "__main__":
    unittest.main()
