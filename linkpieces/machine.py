"""What a machine keeps from one call to the next, and which addresses are its own."""

from linkpieces.addresses import EVERYBODY

LINK_COUNT = 4
NAME_COUNT = 65536


class Link:
    def __init__(self, address, bits, fits):
        self.address = address
        self.bits = bits
        self.fits = fits


# A way's address is not kept in it: whoever looks a way up has it already.
class Way:
    def __init__(self, bits, link, next_machine):
        self.bits = bits
        self.link = link
        self.next_machine = next_machine


class Machine:
    def __init__(self):
        self.renew()

    def renew(self):
        # None stands for a link that's off.
        self.links = [None] * LINK_COUNT
        # By address and bits.
        self.ways = {}
        self.passes_on = False
        # The packets in pieces by from, to, what and name. A dict keeps the order in which they
        # began, and the time never goes back: so the oldest is always the first.
        self.gatherings = {}
        self.time = 0
        self.next_name = 0
        # How often take has answered each number.
        self.taken = {1: 0, 2: 0, 3: 0, 4: 0, 5: 0}

    def use_name(self):
        name = self.next_name
        self.next_name = (name + 1) % NAME_COUNT
        return name


def is_link_number(k):
    return 0 <= k < LINK_COUNT


def is_own_address(machine, address):
    return address in [link.address for link in machine.links if link is not None]


def is_for_machine(machine, to):
    return to == EVERYBODY or is_own_address(machine, to)
