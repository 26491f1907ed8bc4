"""Reads a list of calls on one machine, and lays out their answers."""

from linkpieces.errors import answer_error
from linkpieces.keeping import answer_tick, answer_told
from linkpieces.machine import Machine
from linkpieces.sending import answer_send
from linkpieces.settings import answer_link, answer_new, answer_pass
from linkpieces.taking import answer_take
from linkpieces.ways import answer_away, answer_best, answer_way

NEW = 0
LINK = 1
PASS = 2
WAY = 3
AWAY = 4
BEST = 5
SEND = 6
TAKE = 7
ERROR = 8
TICK = 9

# How many whole numbers stand behind each call's own, and which calls have a row behind these.
NUMBERS_BEHIND = {0: 0, 1: 4, 2: 1, 3: 4, 4: 2, 5: 1, 6: 6, 7: 1, 8: 2, 9: 1, 10: 0}
WITH_ROW = (6, 7, 8)


def answers(calls):
    machine = Machine()
    laid_out = []
    at = 0
    while at < len(calls):
        call = calls[at]
        behind = at + 1 + NUMBERS_BEHIND[call]
        end = end_of_call(calls, call, behind)
        answer = answer_to(machine, call, calls[at + 1:behind], calls[behind + 1:end])
        laid_out.append(len(answer))
        laid_out.extend(answer)
        at = end
    return laid_out


def end_of_call(calls, call, behind):
    if call in WITH_ROW:
        return behind + 1 + calls[behind]
    return behind


def answer_to(machine, call, numbers, row):
    if call == NEW:
        return answer_new(machine)
    if call == LINK:
        return answer_link(machine, numbers[0], numbers[1], numbers[2], numbers[3])
    if call == PASS:
        return answer_pass(machine, numbers[0])
    if call == WAY:
        return answer_way(machine, numbers[0], numbers[1], numbers[2], numbers[3])
    if call == AWAY:
        return answer_away(machine, numbers[0], numbers[1])
    if call == BEST:
        return answer_best(machine, numbers[0])
    if call == SEND:
        return answer_send(machine, numbers[0], numbers[1], numbers[2], numbers[3], numbers[4], numbers[5], row)
    if call == TAKE:
        return answer_take(machine, numbers[0], row)
    if call == ERROR:
        return answer_error(machine, numbers[0], numbers[1], row)
    if call == TICK:
        return answer_tick(machine, numbers[0])
    # Only told is left: NUMBERS_BEHIND has let no other call through.
    return answer_told(machine)
