"""The call error, errors that go back, and which errors that come are right."""

from linkpieces.addresses import EVERYBODY
from linkpieces.heads import ERROR, HEAD_LENGTH, MOST_LENGTH, Head, read_head
from linkpieces.machine import is_for_machine
from linkpieces.octets import as_bytes, number_at, sum_of
from linkpieces.outgoing import NO_LINK, sent_by, told_upward
from linkpieces.refusals import NOT_AS_TOLD, WRONG_ARGUMENTS
from linkpieces.ways import way_to

NO_WAY = 1
HOPS_USED_UP = 2
DOES_NOT_FIT = 3
PIECES_MISSING = 5
MOST_NUMBER = 4294967295
ERROR_HOPS = 64
# How many bytes of the packet that it's about an error has, and how many it has ahead of these.
ABOUT_LENGTH = 28
FRONT_LENGTH = 8


def answer_error(machine, kind, number, data):
    if not is_kind(kind) or not is_number(number) or len(data) > MOST_LENGTH:
        return [WRONG_ARGUMENTS]
    head = read_head(data)
    if head is None or len(data) > head.length:
        return [NOT_AS_TOLD]
    return [0] + error_back(machine, kind, number, head, data)


def is_kind(kind):
    return NO_WAY <= kind <= PIECES_MISSING


def is_number(number):
    return 0 <= number <= MOST_NUMBER


# What's told when an error goes back about the packet with this head; data is that packet as far as it's there.
def error_back(machine, kind, number, head, data):
    if head.what == ERROR or head.place != 0 or head.to == EVERYBODY:
        return []
    way = way_to(machine, head.sender)
    if way is None:
        return []
    body = error_body(kind, number, data[:ABOUT_LENGTH])
    if is_for_machine(machine, head.sender):
        return told_upward(NO_LINK, error_head(machine, head.sender, head.sender, body), body)
    sender = machine.links[way.link].address
    return sent_by(machine, way, error_head(machine, sender, head.sender, body), body)


def error_head(machine, sender, to, body):
    return Head(ERROR_HOPS, ERROR, 0, HEAD_LENGTH + len(body), machine.use_name(), 0, sender, to)


def error_body(kind, number, about):
    front = [kind, 0]
    back = as_bytes(number, 4) + about
    return front + as_bytes(sum_of(front + back), 2) + back


def is_right_error(body):
    if len(body) < FRONT_LENGTH or body[1] != 0:
        return False
    return number_at(body, 2, 2) == sum_of(body[:2] + body[4:])
