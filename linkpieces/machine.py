"""What a machine keeps from one call to the next: its links (None: off), its told ways by address and bits."""

LINK_COUNT = 4


class Link:
    def __init__(self, address, bits, fits):
        self.address = address
        self.bits = bits
        self.fits = fits


# A way's address is not kept in it: whoever looks a way up has it already.
class Way:
    def __init__(self, bits, link, next_machine):
        self.bits = bits
        self.link = link
        self.next_machine = next_machine


class Machine:
    def __init__(self):
        self.renew()

    def renew(self):
        self.links = [None] * LINK_COUNT
        self.ways = {}
        self.passes_on = False


def is_link_number(k):
    return 0 <= k < LINK_COUNT
