"""The wall: what is done with each packet that came, and what is told of it."""

from twonets.arrivals import read_arrivals
from twonets.kinds import OUTSIDE, WITHIN
from twonets.links import Link, Links
from twonets.octets import octets_of
from twonets.packets import Packet, is_right, sent_from, sent_to
from twonets.plan import Plan, take_text

MOST_BYTES = 4194304

BAD_MOST = -2
BAD_PLAN = -100
BAD_CAME = -3
TOO_LONG = -1

NO_PACKET = 1
NO_STEP = 2
WRONG_END = 3
STOPPED = 4
NO_LINK = 5
NO_ROOM = 6


def tell_held(why):
    return [0, why, 0, 0]


def tell_sent(data):
    return [1, 0] + octets_of(len(data), 2) + data


def is_ours(plan, address):
    return address == plan.outer or plan.inner.holds(address)


def send_out(plan, links, link, packet, moment):
    links.note_sent(link, packet, WITHIN, moment)
    return tell_sent(sent_from(packet, plan.outer, link.port))


def send_in(links, link, packet, moment):
    links.note_sent(link, packet, OUTSIDE, moment)
    return tell_sent(sent_to(packet, link.inner, link.inner_port))


def open_out(plan, links, packet, moment):
    """What is told of a packet from within that is of no connection yet."""
    if not plan.lets_through(WITHIN, packet.kind, packet.source, packet.target, packet.target_port):
        return tell_held(STOPPED)
    if not packet.may_open():
        return tell_held(NO_LINK)
    port = links.least_free_port(plan, packet.kind)
    if links.are_full() or port is None:
        return tell_held(NO_ROOM)
    link = Link(packet.kind, packet.source, packet.source_port, packet.target, packet.target_port, port)
    links.make(link)
    return send_out(plan, links, link, packet, moment)


def open_in(plan, links, packet, moment):
    """What is told of a packet from outside that is of no connection yet."""
    door = plan.door_at(packet.kind, packet.target_port)
    if door is None:
        return tell_held(NO_LINK)
    if not plan.lets_through(OUTSIDE, packet.kind, packet.source, door.address, door.port):
        return tell_held(STOPPED)
    if not packet.may_open():
        return tell_held(NO_LINK)
    if links.are_full():
        return tell_held(NO_ROOM)
    link = Link(packet.kind, door.address, door.port, packet.source, packet.source_port, packet.target_port)
    links.make(link)
    return send_in(links, link, packet, moment)


def tell_within(plan, links, packet, moment):
    if not plan.inner.holds(packet.source) or is_ours(plan, packet.target):
        return tell_held(WRONG_END)
    link = links.of_packet_within(packet)
    if link is None:
        return open_out(plan, links, packet, moment)
    if packet.is_answer:
        return tell_held(NO_LINK)
    return send_out(plan, links, link, packet, moment)


def tell_outside(plan, links, packet, moment):
    if packet.target != plan.outer or is_ours(plan, packet.source):
        return tell_held(WRONG_END)
    link = links.of_packet_outside(packet)
    if link is None:
        return open_in(plan, links, packet, moment)
    if packet.is_question:
        return tell_held(NO_LINK)
    return send_in(links, link, packet, moment)


def tell_arrival(plan, links, arrival):
    links.forget_old(plan, arrival.moment)
    if not is_right(arrival.data):
        return tell_held(NO_PACKET)
    packet = Packet(arrival.data)
    if packet.steps <= 1:
        return tell_held(NO_STEP)
    if arrival.side == WITHIN:
        return tell_within(plan, links, packet, arrival.moment)
    return tell_outside(plan, links, packet, arrival.moment)


def tell_all(plan, arrivals):
    links = Links()
    told = []
    for arrival in arrivals:
        told.extend(tell_arrival(plan, links, arrival))
    return told


def run(most, text, came):
    """How many bytes what is told has, then these; or a refusal's number alone."""
    if most < 0 or most > MOST_BYTES:
        return [BAD_MOST]
    plan = Plan()
    bad_line = take_text(plan, text)
    if bad_line > 0:
        return [BAD_PLAN - bad_line]
    if plan.outer is None or plan.inner is None:
        return [BAD_PLAN]
    arrivals = read_arrivals(came)
    if arrivals is None:
        return [BAD_CAME]
    told = tell_all(plan, arrivals)
    if len(told) > most:
        return [TOO_LONG]
    return [len(told)] + told
