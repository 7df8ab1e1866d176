"""What came: packets, each with its time and its side."""

from twonets.kinds import OUTSIDE
from twonets.octets import number_at

HEAD_SIZE = 8


class Arrival:
    def __init__(self, moment, side, data):
        self.moment = moment
        self.side = side
        self.data = data


def read_arrivals(came):
    """The arrivals one after another, or None if what came isn't as told."""
    arrivals = []
    place = 0
    before = 0
    while place < len(came):
        start = place + HEAD_SIZE
        if start > len(came):
            return None
        moment = number_at(came, place, 4)
        side = came[place + 4]
        end = start + number_at(came, place + 6, 2)
        if moment < before or side > OUTSIDE or came[place + 5] != 0 or end > len(came):
            return None
        arrivals.append(Arrival(moment, side, came[start:end]))
        before = moment
        place = end
    return arrivals
