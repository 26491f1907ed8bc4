"""The calls tick and told: what's given up in time, and how much is kept."""

from linkpieces.errors import PIECES_MISSING, error_back
from linkpieces.heads import head_bytes
from linkpieces.pieces import first_piece
from linkpieces.refusals import WRONG_ARGUMENTS
from linkpieces.taking import DROPPED, ERROR_BACK, PASSED_ON, TOLD_UPWARD

PATIENCE = 30000


def answer_tick(machine, now):
    if now < machine.time:
        return [WRONG_ARGUMENTS]
    machine.time = now
    answer = [0]
    for key in list(machine.gatherings):
        if now - machine.gatherings[key].began >= PATIENCE:
            answer.extend(given_up(machine, machine.gatherings.pop(key)))
    return answer


def given_up(machine, gathering):
    # A spoiled one has no pieces, so no first one either.
    first = first_piece(gathering)
    if first is None:
        return []
    return error_back(machine, PIECES_MISSING, 0, first.head, head_bytes(first.head) + first.body)


def answer_told(machine):
    taken = machine.taken
    kept = [len(machine.ways), len(machine.gatherings), machine.next_name]
    return [0] + kept + [taken[TOLD_UPWARD], taken[PASSED_ON], taken[ERROR_BACK] + taken[DROPPED]]
