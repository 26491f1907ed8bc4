"""Promise 3: best, and the way to an address."""

import random
import unittest

from tests.asking import (DONE, EVERYBODY, HERE, NET, NOT_THERE, ROUTER, WRONG, ask, ask_last, best, found, link, way)

FAR = 0xC0000001


def agree(one, other, bits):
    return f"{one:032b}"[:bits] == f"{other:032b}"[:bits]


def looked_up(links, ways, address):
    """The answer to best by trying every way; links: k to (address, bits), ways: (address, bits) to (link, next)."""
    rows = [(-bits, 0, k, address) for k, (own, bits) in links.items() if agree(own, address, bits)]
    for (start, bits), (k, next_machine) in ways.items():
        if k in links and agree(start, address, bits):
            rows.append((-bits, 1, k, next_machine or address))
    if not rows:
        return NOT_THERE
    bits, told, k, handed_to = min(rows)
    return found(k, handed_to, -bits)


class BestTest(unittest.TestCase):
    def test_edges_of_the_address(self):
        for address in (1, EVERYBODY - 1):
            with self.subTest(address=address):
                self.assertEqual(ask(best(address)), [NOT_THERE])
                self.assertEqual(ask_last(link(0, FAR, 0), best(address)), found(0, address, 0))
        for address in (0, EVERYBODY):
            with self.subTest(address=address):
                self.assertEqual(ask(best(address)), [WRONG])
                self.assertEqual(ask_last(link(0, FAR, 0), way(address, 32, 0, 5), best(address)), WRONG)

    def test_a_links_own_way_has_no_next_machine(self):
        self.assertEqual(ask_last(link(2, HERE, 24), best(ROUTER)), found(2, ROUTER, 24))

    def test_the_machines_own_address_has_a_way(self):
        self.assertEqual(ask_last(link(2, HERE, 24), best(HERE)), found(2, HERE, 24))

    def test_a_links_own_way_ends_with_its_bits(self):
        self.assertEqual(ask(link(2, HERE, 24), best(0x0A0000FF), best(0x0A000100), best(0x09FFFFFF))[1:],
                         [found(2, 0x0A0000FF, 24), NOT_THERE, NOT_THERE])

    def test_a_told_way_ends_with_its_bits(self):
        told = ask(link(1, FAR, 32), way(0x0A000100, 25, 1, 5), best(0x0A000100), best(0x0A00017F), best(0x0A000180),
                   best(0x0A0000FF))
        self.assertEqual(told[2:], [found(1, 5, 25), found(1, 5, 25), NOT_THERE, NOT_THERE])

    def test_all_32_bits_count(self):
        told = ask(link(1, FAR, 32), way(HERE, 32, 1, 5), best(HERE), best(HERE - 1), best(HERE + 1), best(FAR),
                   best(FAR + 1))
        self.assertEqual(told[2:], [found(1, 5, 32), NOT_THERE, NOT_THERE, found(1, FAR, 32), NOT_THERE])

    def test_no_bits_agree_with_every_address(self):
        told = ask(link(1, FAR, 32), way(0, 0, 1, 5), best(1), best(HERE), best(EVERYBODY - 1))
        self.assertEqual(told[2:], [found(1, 5, 0)] * 3)

    def test_with_a_next_machine_and_without(self):
        told = ask(link(1, FAR, 32), way(NET, 8, 1, ROUTER), way(0x0B000000, 8, 1, 0), best(HERE), best(0x0B000009))
        self.assertEqual(told[3:], [found(1, ROUTER, 8), found(1, 0x0B000009, 8)])

    def test_a_next_machine_is_not_looked_up_itself(self):
        told = ask_last(link(1, FAR, 32), link(2, HERE, 24), way(0x0B000000, 8, 1, ROUTER), best(0x0B000009))
        self.assertEqual(told, found(1, ROUTER, 8))

    def test_the_most_bits_in_whatever_order_they_were_told(self):
        ways = [way(0, 0, 0, 5), way(NET, 8, 1, 6), way(NET, 24, 2, 7), way(HERE, 32, 3, 8)]
        links = [link(k, FAR + k, 32) for k in range(4)]
        asked = [best(HERE), best(HERE + 1), best(0x0A000100), best(0x0B000000)]
        wanted = [found(3, 8, 32), found(2, 7, 24), found(1, 6, 8), found(0, 5, 0)]
        self.assertEqual(ask(*links, *ways, *asked)[8:], wanted)
        self.assertEqual(ask(*links, *reversed(ways), *asked)[8:], wanted)

    def test_a_told_way_with_more_bits_is_ahead_of_a_links_own(self):
        told = ask(link(0, HERE, 8), link(1, FAR, 32), way(NET, 9, 1, 5), best(HERE), best(0x0A800000))
        self.assertEqual(told[3:], [found(1, 5, 9), found(0, 0x0A800000, 8)])

    def test_a_links_own_with_more_bits_is_ahead_of_a_told_way(self):
        self.assertEqual(ask_last(link(3, HERE, 9), link(1, FAR, 32), way(NET, 8, 1, 5), best(HERE)),
                         found(3, HERE, 9))

    def test_of_links_the_one_with_more_bits_is_ahead_of_a_lower_one(self):
        self.assertEqual(ask_last(link(0, HERE, 8), link(3, HERE + 1, 9), best(HERE)), found(3, HERE, 9))

    def test_of_alike_ones_a_links_own_is_first(self):
        for bits in (0, 8, 32):
            with self.subTest(bits=bits):
                start = HERE >> (32 - bits) << (32 - bits)
                calls = [link(3, HERE, bits), link(0, FAR, 32), way(start, bits, 0, 5)]
                self.assertEqual(ask_last(*calls, best(HERE)), found(3, HERE, bits))
                self.assertEqual(ask_last(*calls, link(3, 0), best(HERE)), found(0, 5, bits))

    def test_a_links_own_is_first_on_the_same_link_too(self):
        self.assertEqual(ask_last(link(1, HERE, 8), way(NET, 8, 1, 5), best(ROUTER)), found(1, ROUTER, 8))

    def test_of_alike_links_the_lowest_is_first(self):
        links = [link(k, HERE + k, 24) for k in range(4)]
        for calls in (links, links[::-1]):
            for k in range(4):
                with self.subTest(k=k):
                    off = [link(lower, 0) for lower in range(k)]
                    self.assertEqual(ask_last(*calls, *off, best(ROUTER)), found(k, ROUTER, 24))

    def test_a_way_whose_link_is_off_is_none(self):
        told = ask(link(0, FAR, 32), way(0, 0, 0, 5), way(NET, 24, 1, 6), best(HERE), link(1, FAR + 1, 32), best(HERE),
                   link(0, 0), link(1, 0), best(HERE))
        self.assertEqual(told[3:], [found(0, 5, 0), DONE, found(1, 6, 24), DONE, DONE, NOT_THERE])

    def test_best_changes_nothing(self):
        calls = [link(0, HERE, 8), way(0, 0, 0, 5)]
        self.assertEqual(ask(*calls, best(HERE), best(0), best(7), best(HERE), best(7))[2:],
                         [found(0, HERE, 8), WRONG, found(0, 5, 0), found(0, HERE, 8), found(0, 5, 0)])

    def test_against_trying_every_way(self):
        pick = random.Random(3)
        for turn in range(200):
            links = {k: (pick.choice((HERE, HERE ^ 4, HERE ^ 2 ** 31)), pick.choice((0, 1, 8, 29, 30, 32)))
                     for k in range(4) if pick.random() < 0.7}
            ways = {}
            for told in range(pick.randrange(12)):
                bits = pick.choice((0, 1, 8, 29, 30, 32))
                address = (HERE ^ pick.choice((0, 4, 2, 2 ** 31))) >> (32 - bits) << (32 - bits)
                ways[address, bits] = (pick.randrange(4), pick.choice((0, 5, 6)))
            asked = [HERE ^ change for change in (0, 2, 3, 4, 6, 2 ** 12, 2 ** 30, 2 ** 31, 2 ** 31 + 4)]
            calls = [link(k, own, bits) for k, (own, bits) in links.items()]
            calls += [way(start, bits, k, handed_to) for (start, bits), (k, handed_to) in ways.items()]
            answered = ask(*calls, *[best(address) for address in asked])[len(calls):]
            self.assertEqual(answered, [looked_up(links, ways, address) for address in asked], (links, ways))
