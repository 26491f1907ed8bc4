"""Promise 2: way, away."""

import unittest

from tests.asking import (DONE, EVERYBODY, HERE, HIGHEST, LOWEST, NET, NOT_THERE, NO_ROOM, ROUTER, WRONG, ask,
                          ask_behind, ask_last, away, best, found, link, way)

LINKS = [link(k, 0xC0000001 + k, 32) for k in range(4)]
FULL = [way(n, 32, 0) for n in range(256)]


def ask_linked(*calls):
    return ask_behind(LINKS, calls)


class WayTest(unittest.TestCase):
    def test_a_way_is_taken_from_then_on(self):
        told = ask_linked(best(HERE), way(NET, 8, 2, ROUTER), best(HERE))
        self.assertEqual(told, [NOT_THERE, DONE, found(2, ROUTER, 8)])

    def test_edges_of_the_bits(self):
        for bits in (0, 1, 31, 32):
            with self.subTest(bits=bits):
                start = 0x80000002 >> (32 - bits) << (32 - bits)
                told = ask_linked(way(start, bits, 1, 5), best(0x80000002), away(start, bits))
                self.assertEqual(told, [DONE, found(1, 5, bits), DONE])
        for bits in (-1, 33, LOWEST, HIGHEST):
            with self.subTest(bits=bits):
                self.assertEqual(ask_linked(way(0, bits, 1), best(1)), [WRONG, NOT_THERE])

    def test_the_address_has_no_other_bits(self):
        for address, bits in ((1, 0), (0x80000000, 0), (EVERYBODY, 0), (0x40000000, 1), (HERE, 31), (HERE, 8),
                              (0x0A800000, 8), (EVERYBODY, 31)):
            with self.subTest(address=address, bits=bits):
                self.assertEqual(ask_linked(way(address, bits, 1), best(HERE)), [WRONG, NOT_THERE])

    def test_edges_of_the_address(self):
        for address in (0, 1, EVERYBODY - 1, EVERYBODY):
            with self.subTest(address=address):
                told = ask_linked(way(address, 32, 1), away(address, 32), away(address, 32))
                self.assertEqual(told, [DONE, DONE, NOT_THERE])
        self.assertEqual(ask_linked(way(1, 32, 1, 9), best(1))[1], found(1, 9, 32))
        self.assertEqual(ask_linked(way(EVERYBODY - 1, 32, 1, 9), best(EVERYBODY - 1))[1], found(1, 9, 32))

    def test_edges_of_the_link(self):
        for k in range(4):
            with self.subTest(k=k):
                self.assertEqual(ask_linked(way(NET, 8, k), best(HERE)), [DONE, found(k, HERE, 8)])
        for k in (-1, 4, LOWEST, HIGHEST):
            with self.subTest(k=k):
                self.assertEqual(ask_linked(way(NET, 8, k), best(HERE)), [WRONG, NOT_THERE])

    def test_edges_of_the_next_machine(self):
        for next_machine in (1, 2, EVERYBODY - 1):
            with self.subTest(next_machine=next_machine):
                told = ask_linked(way(NET, 8, 1, next_machine), best(HERE))
                self.assertEqual(told, [DONE, found(1, next_machine, 8)])
        self.assertEqual(ask_linked(way(NET, 8, 1, 0), best(HERE)), [DONE, found(1, HERE, 8)])
        self.assertEqual(ask_linked(way(NET, 8, 1, EVERYBODY), best(HERE)), [WRONG, NOT_THERE])

    def test_a_way_may_be_told_while_its_link_is_off(self):
        self.assertEqual(ask(way(NET, 8, 3, 5), best(HERE), link(3, 0xC0000001), best(HERE)),
                         [DONE, NOT_THERE, DONE, found(3, 5, 8)])

    def test_the_same_address_and_bits_are_told_anew(self):
        told = ask_linked(way(NET, 8, 1, 5), way(NET, 8, 2, 0), best(HERE), away(NET, 8), best(HERE))
        self.assertEqual(told, [DONE, DONE, found(2, HERE, 8), DONE, NOT_THERE])

    def test_other_bits_make_another_way(self):
        told = ask_linked(way(NET, 8, 1, 5), way(NET, 9, 2, 6), best(HERE), away(NET, 9), best(HERE))
        self.assertEqual(told, [DONE, DONE, found(2, 6, 9), DONE, found(1, 5, 8)])

    def test_a_refused_way_leaves_the_one_that_is_there(self):
        for refused in (way(NET, 8, 4, 6), way(NET, 8, -1, 6), way(NET, 8, 2, EVERYBODY)):
            with self.subTest(refused=refused):
                self.assertEqual(ask_linked(way(NET, 8, 1, 5), refused, best(HERE)), [DONE, WRONG, found(1, 5, 8)])


class RoomTest(unittest.TestCase):
    def test_there_is_room_for_256(self):
        self.assertEqual(ask(*FULL), [DONE] * 256)

    def test_the_257th_is_refused_and_is_not_there(self):
        told = ask_linked(*FULL, way(300, 32, 0, 5), best(300), away(300, 32), best(255))
        self.assertEqual(told[256:], [NO_ROOM, NOT_THERE, NOT_THERE, found(0, 255, 32)])

    def test_the_links_own_ways_do_not_count(self):
        self.assertEqual(ask_linked(*FULL), [DONE] * 256)

    def test_ways_of_links_that_are_off_count(self):
        self.assertEqual(ask(*[way(n, 32, 3) for n in range(256)], link(0, HERE), way(300, 32, 0))[-1], NO_ROOM)

    def test_one_that_is_there_already_is_told_anew_among_256(self):
        for n in (1, 100, 255):
            with self.subTest(n=n):
                told = ask_linked(*FULL, way(n, 32, 3, 9), best(n), way(300, 32, 0))
                self.assertEqual(told[256:], [DONE, found(3, 9, 32), NO_ROOM])

    def test_the_same_address_with_other_bits_is_the_257th(self):
        self.assertEqual(ask_last(*FULL, way(0, 0, 0)), NO_ROOM)

    def test_wrong_arguments_are_told_ahead_of_no_room(self):
        for refused in (way(300, 33, 0), way(300, 24, 0), way(300, 32, 4), way(300, 32, 0, EVERYBODY)):
            with self.subTest(refused=refused):
                self.assertEqual(ask(*FULL, refused, way(300, 32, 0))[256:], [WRONG, NO_ROOM])

    def test_a_way_told_anew_takes_no_more_room(self):
        calls = [way(0, 32, 0), way(0, 32, 1), way(0, 32, 2)] + [way(n, 32, 0) for n in range(1, 257)]
        told = ask(*calls)
        self.assertEqual(told[:-1], [DONE] * 258)
        self.assertEqual(told[-1], NO_ROOM)

    def test_away_makes_room_for_one(self):
        told = ask_linked(*FULL, away(7, 32), way(300, 32, 0, 5), way(301, 32, 0), best(300), best(7))
        self.assertEqual(told[256:], [DONE, DONE, NO_ROOM, found(0, 5, 32), NOT_THERE])

    def test_a_refused_away_makes_no_room(self):
        self.assertEqual(ask(*FULL, away(300, 32), away(7, 33), way(300, 32, 0))[256:], [NOT_THERE, WRONG, NO_ROOM])


class AwayTest(unittest.TestCase):
    def test_a_way_is_gone(self):
        told = ask_linked(way(NET, 8, 1, 5), away(NET, 8), best(HERE), away(NET, 8))
        self.assertEqual(told, [DONE, DONE, NOT_THERE, NOT_THERE])

    def test_the_others_stay(self):
        told = ask_linked(way(0, 0, 1, 5), way(NET, 8, 2, 6), way(NET, 16, 3, 7), away(NET, 8), best(HERE),
                          best(0x0A010000), best(0x0B000000))
        self.assertEqual(told[3:], [DONE, found(3, 7, 16), found(1, 5, 0), found(1, 5, 0)])

    def test_one_that_is_not_there(self):
        told = ask_linked(way(NET, 8, 1, 5), away(NET, 9), away(NET, 7), away(0x0B000000, 8), away(0, 0), best(HERE))
        self.assertEqual(told, [DONE, NOT_THERE, NOT_THERE, NOT_THERE, NOT_THERE, found(1, 5, 8)])

    def test_wrong_bits_or_an_address_with_others(self):
        for address, bits in ((0, -1), (0, 33), (0, LOWEST), (0, HIGHEST), (HERE, 8), (1, 0), (EVERYBODY, 31)):
            with self.subTest(address=address, bits=bits):
                told = ask_linked(way(0, 0, 1, 5), way(NET, 8, 2, 6), away(address, bits), best(7), best(HERE))
                self.assertEqual(told[2:], [WRONG, found(1, 5, 0), found(2, 6, 8)])

    def test_a_links_own_way_is_none_that_was_told(self):
        told = ask(link(0, HERE, 8), away(NET, 8), best(HERE), link(1, HERE, 32), away(HERE, 32))
        self.assertEqual(told, [DONE, NOT_THERE, found(0, HERE, 8), DONE, NOT_THERE])

    def test_a_way_whose_link_is_off(self):
        self.assertEqual(ask(way(NET, 8, 1, 5), away(NET, 8), link(1, 9, 32), best(HERE)),
                         [DONE, DONE, DONE, NOT_THERE])
