"""The words of the text: whole numbers, addresses, nets, ports and kinds.

What reads a word gives None where the word isn't one. A Net is an address and how many of its bits count; Ports are
those from the lowest to the highest.
"""

from twonets.kinds import ICMP, TCP, UDP

KNOWN_SIGNS = "\n #-./0123456789abcdefghijklmnopqrstuvwxyz"
# No word that means something has this sign, so it may stand for every other byte.
STRANGE_SIGN = "?"

MOST_DIGITS = 10
MOST_PORT = 65535


class Net:
    def __init__(self, address, bits):
        self.address = address
        self.bits = bits

    def holds(self, address):
        rest = 32 - self.bits
        return self.address >> rest == address >> rest


class Ports:
    def __init__(self, lowest, highest):
        self.lowest = lowest
        self.highest = highest

    def holds(self, port):
        return self.lowest <= port <= self.highest


def text_of(octets):
    signs = {}
    for sign in KNOWN_SIGNS:
        signs[ord(sign)] = sign
    return "".join([signs.get(octet, STRANGE_SIGN) for octet in octets])


def lines_of(octets):
    """The words of each line, one list a line."""
    lines = []
    for line in text_of(octets).split("\n"):
        # Only the blank parts words: split without it would part at other signs too.
        lines.append([word for word in line.split(" ") if word != ""])
    return lines


def read_number(word, most):
    if not word.isdigit() or len(word) > MOST_DIGITS:
        return None
    if word.startswith("0") and word != "0":
        return None
    number = int(word)
    if number > most:
        return None
    return number


def read_address(word):
    parts = word.split(".")
    if len(parts) != 4:
        return None
    address = 0
    for part in parts:
        number = read_number(part, 255)
        if number is None:
            return None
        address = address * 256 + number
    return address


def read_net(word):
    if word == "any":
        return Net(0, 0)
    parts = word.split("/")
    if len(parts) > 2:
        return None
    address = read_address(parts[0])
    bits = 32
    if len(parts) == 2:
        bits = read_number(parts[1], 32)
    if address is None or bits is None:
        return None
    return Net(address, bits)


def read_port(word):
    return read_number(word, MOST_PORT)


def read_ports(word):
    if word == "any":
        return Ports(0, MOST_PORT)
    parts = word.split("-")
    if len(parts) > 2:
        return None
    lowest = read_port(parts[0])
    highest = read_port(parts[-1])
    if lowest is None or highest is None or lowest > highest:
        return None
    return Ports(lowest, highest)


def read_kind(word):
    if word == "tcp":
        return TCP
    if word == "udp":
        return UDP
    if word == "icmp":
        return ICMP
    return None
