"""What's told: packets that are told upward, and packets that are sent by a way, cut where they're too long."""

from linkpieces.heads import HEAD_LENGTH, MORE_FOLLOW, Head, head_bytes, is_uncut
from linkpieces.ways import next_address

UPWARD = 0
SENT = 1
# The link that's told of a packet from this machine.
NO_LINK = 4


def told_upward(link, head, body):
    return [UPWARD, link] + head_bytes(head) + [len(body)] + body


def told_sent(link, address, packet):
    return [SENT, link, address, len(packet)] + packet


def fits_by(machine, way):
    return machine.links[way.link].fits


def is_stuck(machine, way, head):
    return is_uncut(head) and head.length > fits_by(machine, way)


def sent_by(machine, way, head, body):
    address = next_address(way, head.to)
    told = []
    for piece in cut(head, body, fits_by(machine, way)):
        told.extend(told_sent(way.link, address, piece))
    return told


# A packet that fits is its own last piece: place, flags and length stay as they were.
def cut(head, body, fits):
    most = (fits - HEAD_LENGTH) // 8 * 8
    pieces = []
    at = 0
    while HEAD_LENGTH + len(body) - at > fits:
        pieces.append(piece_bytes(head, head.flags | MORE_FOLLOW, at, body[at:at + most]))
        at += most
    pieces.append(piece_bytes(head, head.flags, at, body[at:]))
    return pieces


def piece_bytes(head, flags, at, part):
    place = head.place + at // 8
    piece = Head(head.hops, head.what, flags, HEAD_LENGTH + len(part), head.name, place, head.sender, head.to)
    return head_bytes(piece) + part
