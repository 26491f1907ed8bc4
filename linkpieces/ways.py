"""The calls way, away and best, and the way to an address."""

from linkpieces.addresses import ADDRESS_BITS, EVERYBODY, NOBODY, first_bits, is_bit_count, is_one_machine
from linkpieces.machine import LINK_COUNT, Way, is_link_number
from linkpieces.refusals import NO_ROOM, NOT_THERE, WRONG_ARGUMENTS

MOST_WAYS = 256


def answer_way(machine, address, bits, link, next_machine):
    if not is_way_start(address, bits) or not is_way_end(link, next_machine):
        return [WRONG_ARGUMENTS]
    start = (address, bits)
    if start not in machine.ways and len(machine.ways) >= MOST_WAYS:
        return [NO_ROOM]
    machine.ways[start] = Way(bits, link, next_machine)
    return [0]


def answer_away(machine, address, bits):
    if not is_way_start(address, bits):
        return [WRONG_ARGUMENTS]
    start = (address, bits)
    if start not in machine.ways:
        return [NOT_THERE]
    machine.ways.pop(start)
    return [0]


def answer_best(machine, address):
    if not is_one_machine(address):
        return [WRONG_ARGUMENTS]
    way = way_to(machine, address)
    if way is None:
        return [NOT_THERE]
    return [0, way.link, next_address(way, address), way.bits]


def is_way_start(address, bits):
    return is_bit_count(bits) and first_bits(address, bits) == address


def is_way_end(link, next_machine):
    return is_link_number(link) and NOBODY <= next_machine < EVERYBODY


def next_address(way, address):
    if way.next_machine == NOBODY:
        return address
    return way.next_machine


# The link has to be on.
def own_way(machine, k):
    return Way(machine.links[k].bits, k, NOBODY)


def way_to(machine, address):
    for others in range(ADDRESS_BITS + 1):
        way = way_with_bits(machine, address, ADDRESS_BITS - others)
        if way is not None:
            return way
    return None


def way_with_bits(machine, address, bits):
    start = first_bits(address, bits)
    # Links come first, from the lowest on: of alike ways a link's own is the one, the lowest link's ahead.
    for k in range(LINK_COUNT):
        link = machine.links[k]
        if link is not None and link.bits == bits and first_bits(link.address, bits) == start:
            return own_way(machine, k)
    told = machine.ways.get((start, bits))
    if told is None or machine.links[told.link] is None:
        return None
    return told
