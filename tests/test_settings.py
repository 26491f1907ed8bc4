"""Promise 1: new, link, pass."""

import unittest

from tests.asking import (DONE, EVERYBODY, HERE, HIGHEST, LOWEST, NOT_THERE, NO_ROOM, WRONG, ask, ask_last, away, best,
                          found, link, new, pass_on, way)


class NewTest(unittest.TestCase):
    def test_a_machine_has_no_link_on_and_no_way_at_the_beginning(self):
        self.assertEqual(ask(best(HERE), away(0, 0)), [NOT_THERE, NOT_THERE])

    def test_new_answers_0(self):
        self.assertEqual(ask(new(), new()), [DONE, DONE])

    def test_new_turns_every_link_off(self):
        for k in range(4):
            with self.subTest(k=k):
                told = ask(link(k, HERE), best(HERE), new(), best(HERE))
                self.assertEqual(told, [DONE, found(k, HERE, 24), DONE, NOT_THERE])

    def test_new_forgets_the_ways(self):
        calls = [link(0, HERE), way(0, 0, 0), new(), link(0, HERE), best(0x0B000001), away(0, 0)]
        self.assertEqual(ask(*calls)[3:], [DONE, NOT_THERE, NOT_THERE])

    def test_new_makes_room_for_256_ways(self):
        calls = [way(n, 32, 0) for n in range(100)] + [new()] + [way(n, 32, 0) for n in range(100, 357)]
        told = ask(*calls)
        self.assertEqual(told[:-1], [DONE] * 357)
        self.assertEqual(told[-1], NO_ROOM)

    def test_after_new_all_calls_work_as_before(self):
        calls = [link(2, HERE), way(0, 0, 2, 9), best(7), best(HERE)]
        self.assertEqual(ask(*calls, new(), *calls), ask(*calls) + [DONE] + ask(*calls))


class LinkTest(unittest.TestCase):
    def test_each_link_is_turned_on_and_off(self):
        for k in range(4):
            with self.subTest(k=k):
                told = ask(link(k, HERE), best(HERE), link(k, 0), best(HERE))
                self.assertEqual(told, [DONE, found(k, HERE, 24), DONE, NOT_THERE])

    def test_links_are_set_one_by_one(self):
        addresses = [0x0A000001, 0x0B000001, 0x0C000001, 0x0D000001]
        calls = [link(k, addresses[k], 8) for k in range(4)] + [link(1, 0)] + [best(a) for a in addresses]
        self.assertEqual(ask(*calls)[5:], [found(0, addresses[0], 8), NOT_THERE, found(2, addresses[2], 8),
                                           found(3, addresses[3], 8)])

    def test_no_other_link_number(self):
        for k in (-1, 4, 5, LOWEST, HIGHEST):
            with self.subTest(k=k):
                self.assertEqual(ask(link(k, HERE), best(HERE)), [WRONG, NOT_THERE])
                self.assertEqual(ask(link(k, 0)), [WRONG])

    def test_edges_of_the_address(self):
        for address in (1, 2, EVERYBODY - 1):
            with self.subTest(address=address):
                self.assertEqual(ask(link(0, address, 32), best(address)), [DONE, found(0, address, 32)])
        self.assertEqual(ask(link(0, EVERYBODY, 0), best(HERE)), [WRONG, NOT_THERE])

    def test_edges_of_the_bits(self):
        for bits in (0, 1, 31, 32):
            with self.subTest(bits=bits):
                self.assertEqual(ask(link(0, HERE, bits), best(HERE)), [DONE, found(0, HERE, bits)])
        for bits in (-1, 33, LOWEST, HIGHEST):
            with self.subTest(bits=bits):
                self.assertEqual(ask(link(0, HERE, bits), best(HERE)), [WRONG, NOT_THERE])

    def test_edges_of_what_fits(self):
        for fits in (68, 69, 1499, 1500):
            with self.subTest(fits=fits):
                self.assertEqual(ask(link(0, HERE, 24, fits), best(HERE)), [DONE, found(0, HERE, 24)])
        for fits in (67, 1501, 0, -1, LOWEST, HIGHEST):
            with self.subTest(fits=fits):
                self.assertEqual(ask(link(0, HERE, 24, fits), best(HERE)), [WRONG, NOT_THERE])

    def test_turned_off_whatever_bits_and_fits_are(self):
        for bits, fits in ((-1, 1500), (33, 1500), (24, 67), (24, 1501), (LOWEST, HIGHEST), (0, 0)):
            with self.subTest(bits=bits, fits=fits):
                told = ask(link(3, HERE), link(3, 0, bits, fits), best(HERE))
                self.assertEqual(told, [DONE, DONE, NOT_THERE])

    def test_a_link_that_is_off_may_be_turned_off(self):
        self.assertEqual(ask(link(0, 0), link(0, 0)), [DONE, DONE])

    def test_a_link_that_is_on_is_set_anew(self):
        told = ask(link(0, HERE, 8), link(0, 0x0B000001, 16), best(HERE), best(0x0B000001))
        self.assertEqual(told[2:], [NOT_THERE, found(0, 0x0B000001, 16)])

    def test_a_refused_setting_leaves_the_link_on_as_it_was(self):
        for refused in (link(0, EVERYBODY, 16), link(0, 0x0B000001, 33), link(0, 0x0B000001, 16, 67), link(-1, 0),
                        link(4, 0)):
            with self.subTest(refused=refused):
                told = ask(link(0, HERE, 8), link(3, 0x0C000001, 8), refused, best(HERE), best(0x0B000001),
                           best(0x0C000001))
                self.assertEqual(told[2:], [WRONG, found(0, HERE, 8), NOT_THERE, found(3, 0x0C000001, 8)])

    def test_ways_stay_while_their_link_is_off(self):
        told = ask(link(0, HERE), way(0, 0, 0, 5), link(0, 0), best(7), link(0, HERE), best(7))
        self.assertEqual(told[3:], [NOT_THERE, DONE, found(0, 5, 0)])

    def test_two_links_may_have_one_address(self):
        self.assertEqual(ask_last(link(1, HERE), link(2, HERE), link(1, 0), best(HERE)), found(2, HERE, 24))


class PassTest(unittest.TestCase):
    def test_0_and_1(self):
        self.assertEqual(ask(pass_on(0), pass_on(1), pass_on(1), pass_on(0)), [DONE] * 4)

    def test_no_other_number(self):
        for on in (-1, 2, 3, LOWEST, HIGHEST):
            with self.subTest(on=on):
                self.assertEqual(ask(pass_on(on)), [WRONG])

    def test_links_and_ways_stay(self):
        told = ask(link(0, HERE), way(0, 0, 0, 5), pass_on(1), pass_on(2), pass_on(0), best(7), best(HERE))
        self.assertEqual(told[2:], [DONE, WRONG, DONE, found(0, 5, 0), found(0, HERE, 24)])
