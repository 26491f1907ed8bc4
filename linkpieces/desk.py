"""Reads a list of calls on one machine, and lays out their answers."""

from linkpieces.machine import Machine
from linkpieces.settings import answer_link, answer_new, answer_pass
from linkpieces.ways import answer_away, answer_best, answer_way

NEW = 0
LINK = 1
PASS = 2
WAY = 3
AWAY = 4

# How many whole numbers stand behind each call's own; only these calls are there.
NUMBERS_BEHIND = {0: 0, 1: 4, 2: 1, 3: 4, 4: 2, 5: 1}


def answers(calls):
    machine = Machine()
    laid_out = []
    at = 0
    while at < len(calls):
        call = calls[at]
        end = at + 1 + NUMBERS_BEHIND[call]
        answer = answer_to(machine, call, calls[at + 1:end])
        laid_out.append(len(answer))
        laid_out.extend(answer)
        at = end
    return laid_out


def answer_to(machine, call, numbers):
    if call == NEW:
        return answer_new(machine)
    if call == LINK:
        return answer_link(machine, numbers[0], numbers[1], numbers[2], numbers[3])
    if call == PASS:
        return answer_pass(machine, numbers[0])
    if call == WAY:
        return answer_way(machine, numbers[0], numbers[1], numbers[2], numbers[3])
    if call == AWAY:
        return answer_away(machine, numbers[0], numbers[1])
    # Only best is left: NUMBERS_BEHIND has let no other call through.
    return answer_best(machine, numbers[0])
