"""Packets: which may be let through, and how they are sent on. A Packet is one that may be let through."""

from twonets.kinds import ICMP, TCP, UDP
from twonets.octets import number_at, octets_of, sum_of, with_number

LEAST_HEAD = 20
# The highest bit, more-to-come and the offset; the bit that forbids cutting is free.
PIECE_BITS = 0xBFFF

STEPS_AT = 8
KIND_AT = 9
HEAD_SUM_AT = 10
SOURCE_AT = 12
TARGET_AT = 16

FIN = 1
SYN = 2
RST = 4
ACK = 16

ANSWER = 0
QUESTION = 8


class Packet:
    def __init__(self, data):
        head = head_size(data)
        self.data = data
        self.kind = data[KIND_AT]
        self.steps = data[STEPS_AT]
        self.source = number_at(data, SOURCE_AT, 4)
        self.target = number_at(data, TARGET_AT, 4)
        # The one number of kind 1 stands for both ports.
        self.source_port_at = head + 4 if self.kind == ICMP else head
        self.target_port_at = head + 4 if self.kind == ICMP else head + 2
        self.source_port = number_at(data, self.source_port_at, 2)
        self.target_port = number_at(data, self.target_port_at, 2)
        self.is_answer = self.kind == ICMP and data[head] == ANSWER
        self.is_question = self.kind == ICMP and data[head] == QUESTION
        # Other kinds have no marks, so none ends their connections.
        self.marks = data[head + 13] if self.kind == TCP else 0

    def has_mark(self, mark):
        return self.marks & mark != 0

    def may_open(self):
        if self.kind == TCP:
            return self.has_mark(SYN) and not self.has_mark(ACK)
        return not self.is_answer


def head_size(data):
    return data[0] % 16 * 4


def body_of(data):
    return data[head_size(data):]


def body_sum(data):
    """The sum of what is behind the head, with what of the head counts for its kind."""
    body = body_of(data)
    if data[KIND_AT] == ICMP:
        return sum_of(body)
    addresses = data[SOURCE_AT:TARGET_AT + 4]
    return sum_of(addresses + [0, data[KIND_AT]] + octets_of(len(body), 2) + body)


def body_sum_at(data):
    head = head_size(data)
    if data[KIND_AT] == TCP:
        return head + 16
    if data[KIND_AT] == UDP:
        return head + 6
    return head + 2


def lacks_sum(data):
    return data[KIND_AT] == UDP and number_at(data, body_sum_at(data), 2) == 0


def is_right_head(data):
    if len(data) < LEAST_HEAD or data[0] // 16 != 4:
        return False
    head = head_size(data)
    if head < LEAST_HEAD or head > len(data):
        return False
    if number_at(data, 2, 2) != len(data):
        return False
    if number_at(data, 6, 2) & PIECE_BITS != 0:
        return False
    return sum_of(data[:head]) == 0


def is_right_tcp(data):
    body = body_of(data)
    if len(body) < 20:
        return False
    own_head = body[12] // 16 * 4
    return 20 <= own_head <= len(body) and body_sum(data) == 0


def is_right_udp(data):
    body = body_of(data)
    if len(body) < 8 or number_at(body, 4, 2) != len(body):
        return False
    return lacks_sum(data) or body_sum(data) == 0


def is_right_icmp(data):
    body = body_of(data)
    if len(body) < 8 or body[1] != 0:
        return False
    if body[0] != ANSWER and body[0] != QUESTION:
        return False
    return body_sum(data) == 0


def is_right(data):
    if not is_right_head(data):
        return False
    if data[KIND_AT] == TCP:
        return is_right_tcp(data)
    if data[KIND_AT] == UDP:
        return is_right_udp(data)
    if data[KIND_AT] == ICMP:
        return is_right_icmp(data)
    return False


def with_body_sum(data):
    if lacks_sum(data):
        return data
    place = body_sum_at(data)
    without = with_number(data, place, 2, 0)
    anew = body_sum(without)
    # A UDP sum of 0 would say that there is none.
    if data[KIND_AT] == UDP and anew == 0:
        anew = 65535
    return with_number(without, place, 2, anew)


def with_head_sum(data):
    without = with_number(data, HEAD_SUM_AT, 2, 0)
    return with_number(without, HEAD_SUM_AT, 2, sum_of(without[:head_size(without)]))


def one_step_on(data):
    """The data with its count one less, and its sums anew."""
    nearer = with_number(data, STEPS_AT, 1, data[STEPS_AT] - 1)
    return with_head_sum(with_body_sum(nearer))


def sent_from(packet, address, port):
    """The packet's data as it is sent on from that address and port."""
    data = with_number(packet.data, SOURCE_AT, 4, address)
    return one_step_on(with_number(data, packet.source_port_at, 2, port))


def sent_to(packet, address, port):
    """The packet's data as it is sent on to that address and port."""
    data = with_number(packet.data, TARGET_AT, 4, address)
    return one_step_on(with_number(data, packet.target_port_at, 2, port))
