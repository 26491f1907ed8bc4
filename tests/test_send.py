"""Promise 4: send, and how a packet that's too long is cut."""

import unittest

from linkpieces.machine import Machine
from linkpieces.sending import answer_send
from linkpieces.settings import answer_link
from tests.asking import (DONE, EVERYBODY, FAR, HERE, HIGHEST, LOWEST, MORE, NOT_NOW, NOT_THERE, OTHER, ROUTER, THERE,
                          TOO_LONG, TWO_LINKS, UNCUT, WRONG, ask, ask_behind, ask_last, counted, filled, link, packet,
                          send, sent, told, upward, way)

# Link 0 leads to the router, link 1 has FAR on it, 2 and 3 are off.
LINKS = [*TWO_LINKS, way(0, 0, 0, ROUTER)]


def ask_linked(*calls):
    return ask_behind(LINKS, calls)


class ArgumentsTest(unittest.TestCase):
    def check_edges(self, right, wrong, make):
        for value in right:
            with self.subTest(value=value):
                self.assertEqual(ask_linked(make(value), told())[0][0], 0)
        for value in wrong:
            with self.subTest(value=value):
                self.assertEqual(ask_linked(make(value), told()), [WRONG, counted(ways=1)])

    def test_what(self):
        self.check_edges((1, 2, 3, 4), (0, 5, -1, LOWEST, HIGHEST), lambda what: send(what=what))

    def test_from(self):
        self.check_edges((0, HERE, THERE), (1, ROUTER, FAR, OTHER, EVERYBODY), lambda sender: send(sender=sender))

    def test_from_a_link_that_is_off_by_now(self):
        answered = ask_linked(send(sender=THERE), link(1, 0), send(sender=THERE, to=OTHER), send(to=OTHER))
        self.assertEqual([answer[0] for answer in answered], [0, 0, -1, 0])

    def test_to(self):
        self.check_edges((1, FAR, EVERYBODY - 1), (0,), lambda to: send(to=to))
        self.check_edges((1, EVERYBODY - 1, EVERYBODY), (0,), lambda to: send(to=to, by=0))

    def test_hops(self):
        self.check_edges((1, 2, 255), (0, 256, -1, LOWEST, HIGHEST), lambda hops: send(hops=hops))

    def test_uncut(self):
        self.check_edges((0, 1), (-1, 2, 3, LOWEST, HIGHEST), lambda uncut: send(uncut=uncut))

    def test_link(self):
        self.check_edges((-1, 0, 1), (-2, 4, LOWEST, HIGHEST), lambda by: send(by=by))

    def test_a_link_that_is_off(self):
        for k in (2, 3):
            with self.subTest(k=k):
                self.assertEqual(ask_linked(send(by=k), told()), [NOT_NOW, counted(ways=1)])

    def test_the_longest_body_and_one_byte_more(self):
        # Lists that are longer than the interface asks for, since no shorter one has such a body.
        self.assertEqual(ask_linked(send([0] * 65515, to=HERE))[0],
                         [0, *upward(4, packet([0] * 65515, sender=HERE, to=HERE))])
        self.assertEqual(ask_linked(send([0] * 65516, to=HERE), told()), [WRONG, counted(ways=1)])


class SentTest(unittest.TestCase):
    def test_by_a_way_with_a_next_machine(self):
        self.assertEqual(ask_linked(send(filled(5), to=OTHER))[0],
                         [0, *sent(0, ROUTER, packet(filled(5), sender=HERE, to=OTHER))])

    def test_by_a_way_without_a_next_machine(self):
        self.assertEqual(ask_linked(send(filled(5)))[0], [0, *sent(1, FAR, packet(filled(5), sender=THERE, to=FAR))])
        answered = ask_linked(way(OTHER, 32, 1), send(filled(5), to=OTHER))
        self.assertEqual(answered[1], [0, *sent(1, OTHER, packet(filled(5), sender=THERE, to=OTHER))])

    def test_each_number_of_the_head(self):
        self.assertEqual(ask_linked(send([255], what=4, sender=HERE, to=FAR, hops=255, uncut=1))[0],
                         [0, *sent(1, FAR, packet([255], 4, HERE, FAR, 255, UNCUT))])
        self.assertEqual(ask_linked(send([0], what=1, sender=THERE, to=OTHER, hops=1))[0],
                         [0, *sent(0, ROUTER, packet([0], 1, THERE, OTHER, 1))])

    def test_number_by_number(self):
        self.assertEqual(ask_last(link(3, 0x01020304, 8), send([9], to=0x01020305)),
                         [0, 1, 3, 0x01020305, 21, 0x51, 64, 2, 0, 0, 21, 0, 0, 0, 0, 0xA4, 0x9D, 1, 2, 3, 4, 1,
                          2, 3, 5, 9])

    def test_no_body(self):
        self.assertEqual(ask_linked(send())[0], [0, *sent(1, FAR, packet(sender=THERE, to=FAR))])

    def test_by_a_link_that_is_named(self):
        self.assertEqual(ask_linked(send([1], by=0))[0], [0, *sent(0, FAR, packet([1], sender=HERE, to=FAR))])
        self.assertEqual(ask_linked(send([1], to=OTHER, by=1))[0],
                         [0, *sent(1, OTHER, packet([1], sender=THERE, to=OTHER))])

    def test_by_a_link_that_is_named_where_there_is_no_way(self):
        self.assertEqual(ask_last(link(3, HERE), send(by=3)), [0, *sent(3, FAR, packet(sender=HERE, to=FAR))])

    def test_no_way(self):
        self.assertEqual(ask(send(), link(0, HERE), send(), told()), [NOT_THERE, DONE, NOT_THERE, counted()])

    def test_a_way_by_a_link_that_is_off(self):
        self.assertEqual(ask(link(0, HERE), way(0, 0, 1, ROUTER), send(), link(1, THERE, 32), send())[2:],
                         [NOT_THERE, DONE, [0, *sent(1, ROUTER, packet(sender=THERE, to=FAR))]])

    def test_to_everybody(self):
        self.assertEqual(ask_linked(send(to=EVERYBODY), told()), [NOT_THERE, counted(ways=1)])
        self.assertEqual(ask_linked(send([1], to=EVERYBODY, by=1))[0],
                         [0, *sent(1, EVERYBODY, packet([1], sender=THERE, to=EVERYBODY))])

    def test_to_everybody_where_a_way_is_told(self):
        self.assertEqual(ask_linked(way(EVERYBODY, 32, 1), send(to=EVERYBODY))[1], NOT_THERE)


class UpwardTest(unittest.TestCase):
    def test_to_the_machine_itself(self):
        for to in (HERE, THERE):
            with self.subTest(to=to):
                self.assertEqual(ask_linked(send(filled(3), to=to))[0],
                                 [0, *upward(4, packet(filled(3), sender=to, to=to))])

    def test_from_an_address_that_is_named(self):
        self.assertEqual(ask_linked(send([7], 3, THERE, HERE, 9, 1))[0],
                         [0, *upward(4, packet([7], 3, THERE, HERE, 9, UNCUT))])

    def test_by_a_link_that_is_named_it_goes_out(self):
        self.assertEqual(ask_linked(send([7], to=HERE, by=1))[0],
                         [0, *sent(1, HERE, packet([7], sender=THERE, to=HERE))])
        self.assertEqual(ask_linked(send([7], to=HERE, by=0))[0],
                         [0, *sent(0, HERE, packet([7], sender=HERE, to=HERE))])

    def test_no_length_is_too_long(self):
        body = filled(5000)
        for uncut in (0, 1):
            with self.subTest(uncut=uncut):
                self.assertEqual(ask_linked(send(body, to=HERE, uncut=uncut))[0],
                                 [0, *upward(4, packet(body, sender=HERE, to=HERE, flags=UNCUT * uncut))])

    def test_an_error_whatever_it_has(self):
        self.assertEqual(ask_linked(send([9], 1, to=HERE))[0], [0, *upward(4, packet([9], 1, HERE, HERE))])

    def test_the_address_of_a_link_that_is_off_is_another_machine(self):
        answered = ask_linked(link(1, 0), send(to=THERE))
        self.assertEqual(answered[1], [0, *sent(0, ROUTER, packet(sender=HERE, to=THERE))])

    def test_take_has_answered_nothing(self):
        self.assertEqual(ask_linked(send(to=HERE), told())[1], counted(ways=1, name=1))


class RefusalTest(unittest.TestCase):
    def test_just_as_long_as_fits_and_one_byte_more(self):
        for fits in (68, 69, 75, 1500):
            with self.subTest(fits=fits):
                whole, longer = filled(fits - 20), filled(fits - 19)
                answered = ask(link(1, THERE, 24, fits), send(whole, uncut=1), send(longer, uncut=1),
                               send(whole, uncut=1, by=1), send(longer, uncut=1, by=1), told())
                self.assertEqual(answered[1:], [
                    [0, *sent(1, FAR, packet(whole, sender=THERE, to=FAR, flags=UNCUT))], TOO_LONG,
                    [0, *sent(1, FAR, packet(whole, sender=THERE, to=FAR, flags=UNCUT, name=1))], TOO_LONG,
                    counted(name=2)])

    def test_what_fits_is_told_by_the_link_that_it_goes_out_by(self):
        self.assertEqual([answer[0] for answer in ask_linked(
            send(filled(1000), uncut=1), send(filled(1000), uncut=1, to=OTHER), send(filled(1000), uncut=1, by=0),
            send(filled(1000), uncut=1, to=OTHER, by=1))], [-7, 0, 0, -7])

    def test_the_one_that_is_told_first(self):
        long = filled(2000)
        self.assertEqual(ask(link(0, HERE), send(long, 0, by=2), send(long, to=0, uncut=1), send(long, uncut=2, by=1),
                             send(long, uncut=1, by=4), send(long, uncut=1, by=2), send(long, uncut=1),
                             send(long, to=EVERYBODY, uncut=1), send(long, to=EVERYBODY, uncut=1, by=0),
                             send(to=EVERYBODY, by=2), send(hops=0), send(sender=FAR, by=2), told())[1:],
                         [WRONG, WRONG, WRONG, WRONG, NOT_NOW, NOT_THERE, NOT_THERE, TOO_LONG, NOT_NOW, WRONG, WRONG,
                          counted()])

    def test_the_next_name(self):
        answered = ask_linked(send(), send(to=HERE), send(by=2), send(what=0), send(to=EVERYBODY), told(),
                              send(filled(2000)), send(to=OTHER), send(filled(2000), uncut=1), told())
        self.assertEqual([answer[0] for answer in answered], [0, 0, -4, -1, -2, 0, 0, 0, -7, 0])
        self.assertEqual(answered[1], [0, *upward(4, packet(sender=HERE, to=HERE, name=1))])
        self.assertEqual(answered[5], counted(ways=1, name=2))
        self.assertEqual(answered[7], [0, *sent(0, ROUTER, packet(sender=HERE, to=OTHER, name=3))])
        self.assertEqual(answered[9], counted(ways=1, name=4))

    def test_behind_the_last_name_is_the_first(self):
        # No list of calls is so long: so it begins at the last name.
        machine = Machine()
        machine.next_name = 65535
        answer_link(machine, 1, THERE, 24, 600)
        for name in (65535, 0, 1):
            self.assertEqual(answer_send(machine, 2, 0, FAR, 64, 0, -1, []),
                             [0, *sent(1, FAR, packet(sender=THERE, to=FAR, name=name))])


class CutTest(unittest.TestCase):
    def cut_for(self, fits, length, what=3, hops=7):
        """The body's parts: each but the last with as many eights as fit."""
        body = filled(length)
        most = (fits - 20) // 8 * 8
        parts = []
        while 20 + len(body) > fits:
            parts.append(body[:most])
            body = body[most:]
        parts.append(body)
        return [packet(part, what, THERE, FAR, hops, MORE if n < len(parts) - 1 else 0, 0, n * most // 8)
                for n, part in enumerate(parts)]

    def test_by_what_fits(self):
        for fits in (68, 69, 70, 75, 76, 77, 100, 576, 599, 600, 1499, 1500):
            for length in (fits - 20, fits - 19, fits - 12, 2 * fits, 3 * fits + 5, 5000):
                with self.subTest(fits=fits, length=length):
                    pieces = self.cut_for(fits, length)
                    self.assertEqual(ask_last(link(1, THERE, 24, fits), send(filled(length), 3, hops=7)),
                                     [0, *sent(1, FAR, *pieces)])

    def test_one_byte_longer_than_fits(self):
        answered = ask(link(1, THERE, 24, 68), send(filled(48)), send(filled(49)))
        self.assertEqual(answered[1], [0, *sent(1, FAR, packet(filled(48), sender=THERE, to=FAR))])
        self.assertEqual(answered[2], [0, *sent(
            1, FAR, packet(filled(49)[:48], sender=THERE, to=FAR, flags=MORE, name=1),
            packet(filled(49)[48:], sender=THERE, to=FAR, place=6, name=1))])

    def test_a_last_piece_as_long_as_fits_that_is_not_of_eights(self):
        # 75 fit: 48 of the body in a piece that's followed by others, but 55 in the last.
        body = filled(48 + 55)
        self.assertEqual(ask_last(link(1, THERE, 24, 75), send(body)),
                         [0, *sent(1, FAR, packet(body[:48], sender=THERE, to=FAR, flags=MORE),
                                   packet(body[48:], sender=THERE, to=FAR, place=6))])
        body = filled(48 + 56)
        self.assertEqual(ask_last(link(1, THERE, 24, 75), send(body)),
                         [0, *sent(1, FAR, packet(body[:48], sender=THERE, to=FAR, flags=MORE),
                                   packet(body[48:96], sender=THERE, to=FAR, flags=MORE, place=6),
                                   packet(body[96:], sender=THERE, to=FAR, place=12))])

    def test_each_piece_goes_to_the_next_machine(self):
        body = filled(1500)
        self.assertEqual(ask_linked(send(body, to=OTHER))[0],
                         [0, *sent(0, ROUTER, packet(body[:1480], sender=HERE, to=OTHER, flags=MORE),
                                   packet(body[1480:], sender=HERE, to=OTHER, place=185))])

    def test_to_everybody_by_a_link(self):
        body = filled(700)
        self.assertEqual(ask_linked(send(body, to=EVERYBODY, by=1))[0],
                         [0, *sent(1, EVERYBODY, packet(body[:576], sender=THERE, to=EVERYBODY, flags=MORE),
                                   packet(body[576:], sender=THERE, to=EVERYBODY, place=72))])

    def test_the_longest_list(self):
        self.assertEqual(ask_last(link(1, THERE, 24, 68), send(filled(15900), 3, hops=7)),
                         [0, *sent(1, FAR, *self.cut_for(68, 15900))])
