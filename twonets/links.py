"""The connections that there are.

A Link is one: its inner end, its far end, and its port at the outer address. Links are all, in the order they
were made.
"""

from twonets.kinds import ICMP, OUTSIDE, WITHIN
from twonets.packets import FIN, RST

MOST_LINKS = 4096
FIRST_FREE_PORT = 1024
LAST_PORT = 65535


class Link:
    def __init__(self, kind, inner, inner_port, far, far_port, port):
        self.kind = kind
        self.inner = inner
        self.inner_port = inner_port
        self.far = far
        self.far_port = far_port
        self.port = port
        self.last = 0
        self.ended_within = False
        self.ended_outside = False

    def has_far_end(self, address, port):
        return self.far == address and (self.kind == ICMP or self.far_port == port)

    def is_of_packet_within(self, packet):
        if self.kind != packet.kind or self.inner_port != packet.source_port or self.inner != packet.source:
            return False
        return self.has_far_end(packet.target, packet.target_port)

    def is_of_packet_outside(self, packet):
        if self.kind != packet.kind or self.port != packet.target_port:
            return False
        return self.has_far_end(packet.source, packet.source_port)

    def note_end(self, side):
        if side == WITHIN:
            self.ended_within = True
        if side == OUTSIDE:
            self.ended_outside = True

    def is_ended(self):
        return self.ended_within and self.ended_outside


class Links:
    def __init__(self):
        self.made = []

    def are_full(self):
        return len(self.made) >= MOST_LINKS

    def forget_old(self, plan, moment):
        self.made = [link for link in self.made if moment - link.last <= plan.waits[link.kind]]

    def of_packet_within(self, packet):
        for link in self.made:
            if link.is_of_packet_within(packet):
                return link
        return None

    def of_packet_outside(self, packet):
        for link in self.made:
            if link.is_of_packet_outside(packet):
                return link
        return None

    def least_free_port(self, plan, kind):
        """The least port for a new connection from within, or None."""
        taken = {}
        for link in self.made:
            if link.kind == kind:
                taken[link.port] = True
        for port in range(FIRST_FREE_PORT, LAST_PORT + 1):
            if port not in taken and plan.door_at(kind, port) is None:
                return port
        return None

    def make(self, link):
        self.made.append(link)

    def note_sent(self, link, packet, side, moment):
        """Keep what a packet that is sent on says of its connection."""
        link.last = moment
        if packet.has_mark(FIN):
            link.note_end(side)
        if packet.has_mark(RST) or link.is_ended():
            self.made.remove(link)
