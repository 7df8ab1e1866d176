"""What the text says: both nets, how long connections are kept, the doors and the rules.

A Door is where a packet goes that comes to the outer address at the door's port.
"""

from twonets.kinds import ICMP, OUTSIDE, TCP, UDP, WITHIN
from twonets.words import lines_of, read_address, read_kind, read_net, read_number, read_port, read_ports

MOST_WAIT = 1000000000

# No packet that is let through has this kind.
ANY_KIND = 0


class Door:
    def __init__(self, address, port):
        self.address = address
        self.port = port


class Rule:
    def __init__(self, lets, side, kind, source, target, ports):
        self.lets = lets
        self.side = side
        self.kind = kind
        self.source = source
        self.target = target
        self.ports = ports

    def fits(self, side, kind, source, target, port):
        if self.side != side:
            return False
        if self.kind != ANY_KIND and self.kind != kind:
            return False
        if not self.source.holds(source) or not self.target.holds(target):
            return False
        return kind == ICMP or self.ports.holds(port)


class Plan:
    def __init__(self):
        self.outer = None
        self.inner = None
        self.waits = {TCP: 300000, UDP: 30000, ICMP: 10000}
        self.told_waits = {}
        self.doors = {}
        self.rules = []

    def door_at(self, kind, port):
        return self.doors.get((kind, port))

    def lets_through(self, side, kind, source, target, port):
        for rule in self.rules:
            if rule.fits(side, kind, source, target, port):
                return rule.lets
        return side == WITHIN


def take_outer(plan, words):
    if len(words) != 2 or plan.outer is not None:
        return False
    plan.outer = read_address(words[1])
    return plan.outer is not None


def take_inner(plan, words):
    if len(words) != 2 or plan.inner is not None:
        return False
    plan.inner = read_net(words[1])
    return plan.inner is not None


def take_wait(plan, words):
    if len(words) != 3:
        return False
    kind = read_kind(words[1])
    wait = read_number(words[2], MOST_WAIT)
    if kind is None or wait is None or kind in plan.told_waits:
        return False
    plan.waits[kind] = wait
    plan.told_waits[kind] = True
    return True


def take_door(plan, words):
    if len(words) != 5:
        return False
    kind = read_kind(words[1])
    port = read_port(words[2])
    address = read_address(words[3])
    inner_port = read_port(words[4])
    if kind is None or kind == ICMP or port is None or address is None or inner_port is None:
        return False
    if (kind, port) in plan.doors:
        return False
    plan.doors[(kind, port)] = Door(address, inner_port)
    return True


def read_side(word):
    """The side from which what a rule speaks of comes."""
    if word == "out":
        return WITHIN
    if word == "in":
        return OUTSIDE
    return None


def read_rule_kind(word):
    if word == "any":
        return ANY_KIND
    return read_kind(word)


def take_rule(plan, words):
    if len(words) != 6:
        return False
    side = read_side(words[1])
    kind = read_rule_kind(words[2])
    source = read_net(words[3])
    target = read_net(words[4])
    ports = read_ports(words[5])
    if side is None or kind is None or source is None or target is None or ports is None:
        return False
    plan.rules.append(Rule(words[0] == "let", side, kind, source, target, ports))
    return True


def take_line(plan, words):
    """Put into the plan what the line says; False if it isn't a line."""
    if len(words) == 0 or words[0].startswith("#"):
        return True
    if words[0] == "outer":
        return take_outer(plan, words)
    if words[0] == "inner":
        return take_inner(plan, words)
    if words[0] == "wait":
        return take_wait(plan, words)
    if words[0] == "door":
        return take_door(plan, words)
    if words[0] == "let" or words[0] == "stop":
        return take_rule(plan, words)
    return False


def take_text(plan, text):
    """Put into the plan what the text says; the number of the first line that isn't one, or 0."""
    for number, words in enumerate(lines_of(text), start=1):
        if not take_line(plan, words):
            return number
    return 0
