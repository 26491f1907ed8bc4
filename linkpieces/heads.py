"""The head of a packet: what it tells, its bytes, and which heads are right."""

from linkpieces.addresses import EVERYBODY, NOBODY, is_one_machine
from linkpieces.octets import as_bytes, number_at, sum_of

HEAD_LENGTH = 20
MOST_LENGTH = 65535
MOST_BODY = 65515
FIRST_BYTE = 81
MOST_HOPS = 255
ERROR = 1
MOST_WHAT = 4
MORE_FOLLOW = 1
UNCUT = 2


class Head:
    def __init__(self, hops, what, flags, length, name, place, sender, to):
        self.hops = hops
        self.what = what
        self.flags = flags
        self.length = length
        self.name = name
        self.place = place
        self.sender = sender
        self.to = to


def head_bytes(head):
    front = [FIRST_BYTE, head.hops, head.what, head.flags]
    front = front + as_bytes(head.length, 2) + as_bytes(head.name, 2) + as_bytes(head.place, 2)
    back = as_bytes(head.sender, 4) + as_bytes(head.to, 4)
    return front + as_bytes(sum_of(front + back), 2) + back


# None if no packet begins so. Of the body only what the head tells is looked at: it needn't be there.
def read_head(data):
    if len(data) < HEAD_LENGTH:
        return None
    head = Head(data[1], data[2], data[3], number_at(data, 4, 2), number_at(data, 6, 2), number_at(data, 8, 2),
                number_at(data, 12, 4), number_at(data, 16, 4))
    # Made anew it has the same bytes only if its first byte and its sum are right.
    if not is_right_head(head) or head_bytes(head) != data[:HEAD_LENGTH]:
        return None
    return head


def is_right_head(head):
    if not is_hops(head.hops) or not is_what(head.what) or head.flags > MORE_FOLLOW + UNCUT:
        return False
    return is_one_machine(head.sender) and is_to(head.to) and is_right_length(head)


def is_right_length(head):
    body = head.length - HEAD_LENGTH
    if body < 0 or head.place * 8 + body > MOST_BODY:
        return False
    return not has_more(head) or (body > 0 and body % 8 == 0)


def is_hops(hops):
    return 1 <= hops <= MOST_HOPS


def is_what(what):
    return ERROR <= what <= MOST_WHAT


def is_to(to):
    return NOBODY < to <= EVERYBODY


def has_more(head):
    return head.flags & MORE_FOLLOW != 0


def is_uncut(head):
    return head.flags & UNCUT != 0


def is_piece(head):
    return has_more(head) or head.place != 0
