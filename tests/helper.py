"""Builds texts, packets and what came, and reads what is told. It uses nothing of the program but run."""

from twonets.wall import run

MOST = 4194304
TCP, UDP, ICMP = 6, 17, 1
WITHIN, OUTSIDE = 0, 1
FIN, SYN, RST, PSH, ACK = 1, 2, 4, 8, 16
QUESTION, ANSWER = 8, 0

OUTER = "5.6.7.8"
INSIDE = "10.0.0.1"
INSIDE2 = "10.0.0.2"
FAR = "9.9.9.9"
FAR2 = "9.9.9.10"
LINES = ["outer 5.6.7.8", "inner 10.0.0.0/8"]


def two(number):
    return [number >> 8, number & 255]


def four(number):
    return two(number >> 16) + two(number & 65535)


def address(dotted):
    return [int(part) for part in dotted.split(".")]


def text(*lines):
    return list("".join(line + "\n" for line in lines).encode("latin-1"))


def usual_sum(data):
    even = list(data) + [0] * (len(data) % 2)
    total = 0
    for k in range(0, len(even), 2):
        total += even[k] << 8 | even[k + 1]
        if total > 0xFFFF:
            total -= 0xFFFF
    return total ^ 0xFFFF


def ip(kind, source, target, body, steps=64, options=(), bits=0, version=4, words=None, total=None,
       service=0, mark=0x1234, head_sum=None):
    words = 5 + len(options) // 4 if words is None else words
    total = 20 + len(options) + len(body) if total is None else total
    front = [version << 4 | words, service] + two(total) + two(mark) + two(bits) + [steps, kind]
    back = address(source) + address(target) + list(options)
    whole = front + [0, 0] + back + list(body)
    head_sum = usual_sum(whole[:words * 4]) if head_sum is None else head_sum
    return front + two(head_sum) + back + list(body)


def over(kind, source, target, body):
    """What kinds 6 and 17 are summed over."""
    return address(source) + address(target) + [0, kind] + two(len(body)) + list(body)


def tcp(source, source_port, target, target_port, marks=SYN, data=(), own_options=(), words=None,
        own_sum=None, cut=0, **rest):
    words = 5 + len(own_options) // 4 if words is None else words
    front = two(source_port) + two(target_port) + four(0x01020304) + four(0x05060708)
    front += [words << 4, marks] + two(0x2000)
    back = two(0) + list(own_options) + list(data)
    body = front + [0, 0] + back
    body = body[:len(body) - cut]
    own_sum = usual_sum(over(TCP, source, target, body)) if own_sum is None else own_sum
    body[16:18] = two(own_sum)
    return ip(TCP, source, target, body, **rest)


def udp(source, source_port, target, target_port, data=(), length=None, own_sum=None, cut=0, **rest):
    length = 8 + len(data) - cut if length is None else length
    body = two(source_port) + two(target_port) + two(length) + [0, 0] + list(data)
    body = body[:len(body) - cut]
    if own_sum is None:
        own_sum = usual_sum(over(UDP, source, target, body)) or 0xFFFF
    body[6:8] = two(own_sum)[:len(body) - 6]
    return ip(UDP, source, target, body, **rest)


def icmp(source, target, number, sort=QUESTION, code=0, step=7, data=(), own_sum=None, cut=0, **rest):
    body = [sort, code, 0, 0] + two(number) + two(step) + list(data)
    body = body[:len(body) - cut]
    own_sum = usual_sum(body) if own_sum is None else own_sum
    body[2:4] = two(own_sum)
    return ip(ICMP, source, target, body, **rest)


def arrival(moment, side, packet):
    return four(moment) + [side, 0] + two(len(packet)) + list(packet)


def came(*arrivals):
    octets = []
    for one in arrivals:
        octets += arrival(*one)
    return octets


def read_told(answer):
    """Of each packet the number that it was held for, or the packet as it was sent on."""
    assert answer[0] == len(answer) - 1, answer
    told = answer[1:]
    read = []
    while told:
        size = told[2] << 8 | told[3]
        if told[0] == 0:
            assert size == 0, told
            read.append(told[1])
        else:
            assert told[:2] == [1, 0], told
            read.append(told[4:4 + size])
        assert len(told) >= 4 + size, told
        told = told[4 + size:]
    return read


def tell(lines, *arrivals):
    return read_told(run(MOST, text(*LINES, *lines), came(*arrivals)))


def marks_of(lines, *arrivals):
    """As tell, but "sent" in the place of each packet sent on."""
    return [one if isinstance(one, int) else "sent" for one in tell(lines, *arrivals)]


def port_of(packet, place):
    """The source port (place 0), the target port (2), or the number of kind 1 (4)."""
    at = (packet[0] & 15) * 4 + place
    return packet[at] << 8 | packet[at + 1]
