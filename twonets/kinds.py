"""Numbers that more than one file speaks of: kinds of packets, and the sides they come from."""

TCP = 6
UDP = 17
ICMP = 1

WITHIN = 0
OUTSIDE = 1
