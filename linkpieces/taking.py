"""The call take: a packet that comes."""

from linkpieces.errors import DOES_NOT_FIT, HOPS_USED_UP, NO_WAY, error_back, is_right_error
from linkpieces.heads import ERROR, HEAD_LENGTH, MOST_LENGTH, is_piece, read_head
from linkpieces.machine import is_for_machine, is_link_number
from linkpieces.outgoing import fits_by, is_stuck, sent_by, told_upward
from linkpieces.pieces import (Piece, end_gathering, first_piece, gathering_for, is_all_there, is_spoiled_by, is_there,
                               spoil, whole_body)
from linkpieces.refusals import NOT_AS_TOLD, NOT_NOW, WRONG_ARGUMENTS
from linkpieces.ways import way_to

TOLD_UPWARD = 1
PASSED_ON = 2
KEPT = 3
ERROR_BACK = 4
DROPPED = 5


def answer_take(machine, link, data):
    if not is_link_number(link) or len(data) > MOST_LENGTH:
        return [WRONG_ARGUMENTS]
    if machine.links[link] is None:
        return [NOT_NOW]
    head = read_head(data)
    if head is None or head.length != len(data):
        return [NOT_AS_TOLD]
    answer = take_packet(machine, link, head, data)
    machine.taken[answer[0]] += 1
    return answer


def take_packet(machine, link, head, data):
    if not is_for_machine(machine, head.to):
        return take_for_others(machine, head, data)
    body = data[HEAD_LENGTH:]
    if is_piece(head):
        return take_piece(machine, link, Piece(head, body))
    return take_whole(link, head, body)


def take_whole(link, head, body):
    if head.what == ERROR and not is_right_error(body):
        return [DROPPED]
    return [TOLD_UPWARD] + told_upward(link, head, body)


def take_piece(machine, link, piece):
    gathering = gathering_for(machine, piece.head)
    if gathering.spoiled:
        return [DROPPED]
    if is_there(gathering, piece):
        return [KEPT]
    if is_spoiled_by(gathering, piece):
        spoil(gathering)
        return [DROPPED]
    gathering.pieces.append(piece)
    if not is_all_there(gathering):
        return [KEPT]
    end_gathering(machine, piece.head)
    return take_whole(link, first_piece(gathering).head, whole_body(gathering))


def take_for_others(machine, head, data):
    if not machine.passes_on:
        return [DROPPED]
    if head.hops == 1:
        return [ERROR_BACK] + error_back(machine, HOPS_USED_UP, 0, head, data)
    way = way_to(machine, head.to)
    if way is None:
        return [ERROR_BACK] + error_back(machine, NO_WAY, 0, head, data)
    if is_stuck(machine, way, head):
        return [ERROR_BACK] + error_back(machine, DOES_NOT_FIT, fits_by(machine, way), head, data)
    head.hops -= 1
    return [PASSED_ON] + sent_by(machine, way, head, data[HEAD_LENGTH:])
