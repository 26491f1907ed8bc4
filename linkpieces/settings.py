"""The calls new, link and pass."""

from linkpieces.addresses import NOBODY, is_bit_count, is_one_machine
from linkpieces.machine import Link, is_link_number
from linkpieces.refusals import WRONG_ARGUMENTS

LEAST_FITS = 68
MOST_FITS = 1500


def answer_new(machine):
    machine.renew()
    return [0]


def answer_link(machine, k, address, bits, fits):
    if not is_link_number(k):
        return [WRONG_ARGUMENTS]
    # A link that's off has neither bits nor a length that fits, so these may be any numbers then.
    if address == NOBODY:
        machine.links[k] = None
        return [0]
    if not is_link_setting(address, bits, fits):
        return [WRONG_ARGUMENTS]
    machine.links[k] = Link(address, bits, fits)
    return [0]


def is_link_setting(address, bits, fits):
    return is_one_machine(address) and is_bit_count(bits) and LEAST_FITS <= fits <= MOST_FITS


def answer_pass(machine, on):
    if on != 0 and on != 1:
        return [WRONG_ARGUMENTS]
    machine.passes_on = on == 1
    return [0]
