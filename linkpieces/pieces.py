"""Packets in pieces: which pieces are kept, what spoils one, and when all are there."""

from linkpieces.heads import has_more

MOST_GATHERINGS = 64


class Piece:
    def __init__(self, head, body):
        self.head = head
        self.body = body
        self.start = head.place * 8
        self.end = self.start + len(body)
        self.is_last = not has_more(head)


# A packet in pieces, with the pieces of it that have come.
class Gathering:
    def __init__(self, began):
        self.began = began
        self.spoiled = False
        self.pieces = []


def gathering_key(head):
    return (head.sender, head.to, head.what, head.name)


def gathering_for(machine, head):
    key = gathering_key(head)
    if key not in machine.gatherings:
        if len(machine.gatherings) >= MOST_GATHERINGS:
            machine.gatherings.pop(list(machine.gatherings)[0])
        machine.gatherings[key] = Gathering(machine.time)
    return machine.gatherings[key]


def end_gathering(machine, head):
    machine.gatherings.pop(gathering_key(head))


def spoil(gathering):
    gathering.spoiled = True
    gathering.pieces = []


def is_there(gathering, piece):
    return any([is_same(piece, other) for other in gathering.pieces])


def is_same(piece, other):
    return piece.start == other.start and piece.is_last == other.is_last and piece.body == other.body


def is_spoiled_by(gathering, piece):
    return any([lies_over(piece, other) or is_against_end(piece, other) for other in gathering.pieces])


def lies_over(piece, other):
    return piece.start < other.end and other.start < piece.end


def is_against_end(piece, other):
    if piece.is_last and other.is_last:
        return True
    return (other.is_last and piece.end > other.end) or (piece.is_last and other.end > piece.end)


def is_all_there(gathering):
    ends = [piece.end for piece in gathering.pieces if piece.is_last]
    # No two lie over one another and none goes beyond the end: so as many bytes as that leave no gap.
    return ends == [sum([len(piece.body) for piece in gathering.pieces])]


def whole_body(gathering):
    body = []
    for piece in sorted(gathering.pieces, key=lambda one: one.start):
        body.extend(piece.body)
    return body


# None if it hasn't come.
def first_piece(gathering):
    for piece in gathering.pieces:
        if piece.start == 0:
            return piece
    return None
