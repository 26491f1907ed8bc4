"""The call send."""

from linkpieces.addresses import EVERYBODY, NOBODY
from linkpieces.heads import HEAD_LENGTH, MOST_BODY, UNCUT, Head, is_hops, is_to, is_what
from linkpieces.machine import is_link_number, is_own_address
from linkpieces.outgoing import NO_LINK, is_stuck, sent_by, told_upward
from linkpieces.refusals import NOT_NOW, NOT_THERE, TOO_LONG, WRONG_ARGUMENTS
from linkpieces.ways import own_way, way_to

# Stands for the link where the way tells it.
BY_WAY = -1


def answer_send(machine, what, sender, to, hops, uncut, link, body):
    if not is_what(what) or not is_to(to) or not is_hops(hops) or len(body) > MOST_BODY:
        return [WRONG_ARGUMENTS]
    if not is_sender(machine, sender) or uncut not in (0, 1) or not is_link_or_none(link):
        return [WRONG_ARGUMENTS]
    head = Head(hops, what, uncut * UNCUT, HEAD_LENGTH + len(body), machine.next_name, 0, sender, to)
    if link != BY_WAY:
        return send_by_link(machine, link, head, body)
    if to == EVERYBODY:
        return [NOT_THERE]
    if is_own_address(machine, to):
        return send_upward(machine, head, body)
    return send_by_way(machine, way_to(machine, to), head, body)


def is_sender(machine, sender):
    return sender == NOBODY or is_own_address(machine, sender)


def is_link_or_none(link):
    return link == BY_WAY or is_link_number(link)


def send_by_link(machine, link, head, body):
    if machine.links[link] is None:
        return [NOT_NOW]
    return send_by_way(machine, own_way(machine, link), head, body)


def send_by_way(machine, way, head, body):
    if way is None:
        return [NOT_THERE]
    if is_stuck(machine, way, head):
        return [TOO_LONG]
    if head.sender == NOBODY:
        head.sender = machine.links[way.link].address
    machine.use_name()
    return [0] + sent_by(machine, way, head, body)


def send_upward(machine, head, body):
    if head.sender == NOBODY:
        head.sender = head.to
    machine.use_name()
    return [0] + told_upward(NO_LINK, head, body)
