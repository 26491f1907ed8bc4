"""What the tests share: calls as lists of numbers, and their answers taken apart."""

from linkpieces.desk import answers

EVERYBODY = 2 ** 32 - 1
NET = 0x0A000000
HERE = 0x0A000001
ROUTER = 0x0A0000FE

DONE = [0]
WRONG = [-1]
NOT_THERE = [-2]
NO_ROOM = [-5]


def new():
    return [0]


def link(k, address, bits=24, fits=1500):
    return [1, k, address, bits, fits]


def pass_on(on):
    return [2, on]


def way(address, bits, link_number, next_machine=0):
    return [3, address, bits, link_number, next_machine]


def away(address, bits):
    return [4, address, bits]


def best(address):
    return [5, address]


def found(link_number, next_machine, bits):
    return [0, link_number, next_machine, bits]


def ask(*calls):
    """The answer to each call; fails if the list that's given back isn't laid out as one."""
    numbers = answers([number for call in calls for number in call])
    taken = []
    at = 0
    while at < len(numbers):
        end = at + 1 + numbers[at]
        taken.append(numbers[at + 1:end])
        at = end
    if at != len(numbers) or len(taken) != len(calls):
        raise AssertionError(f"{len(calls)} calls, but answered was {numbers}")
    return taken


def ask_last(*calls):
    return ask(*calls)[-1]
