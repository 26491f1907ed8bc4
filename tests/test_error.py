"""Promise 6: error."""

import unittest

from tests.asking import (DONE, EVERYBODY, FAR, HERE, HIGHEST, LOWEST, MORE, NOT_AS_TOLD, OTHER, ROUTER, THERE,
                          TWO_LINKS, UNCUT, WRONG, ask, ask_behind, ask_last, checksum, counted, error, error_packet,
                          filled, link, packet, send, sent, told, upward, way)

# FAR is on link 1, all others are reached through the router on link 0.
LINKS = [*TWO_LINKS, way(0, 0, 0, ROUTER)]


def ask_linked(*calls):
    return ask_behind(LINKS, calls)


class ArgumentsTest(unittest.TestCase):
    def test_kind(self):
        data = packet()
        for kind in (1, 2, 3, 4, 5):
            self.assertEqual(ask_linked(error(data, kind))[0], [0, *sent(1, FAR, error_packet(kind, 0, data, THERE))])
        for kind in (0, 6, -1, LOWEST, HIGHEST):
            self.assertEqual(ask_linked(error(data, kind), told()), [WRONG, counted(ways=1)])

    def test_number(self):
        data = packet(filled(3))
        for kind in (3, 4):
            for number in (0, 1, 1500, 65536, 2 ** 31, 2 ** 32 - 1):
                self.assertEqual(ask_linked(error(data, kind, number))[0],
                                 [0, *sent(1, FAR, error_packet(kind, number, data, THERE))])

    def test_no_other_number(self):
        # The interface hands none of these in.
        for number in (-1, 2 ** 32):
            self.assertEqual(ask_linked(error(packet(), 4, number), told()), [WRONG, counted(ways=1)])

    def test_more_bytes_than_a_packet_may_have(self):
        # A list that is longer than the interface asks for, since no shorter one has so many.
        self.assertEqual(ask_linked(error([0] * 65535), error([0] * 65536)), [NOT_AS_TOLD, WRONG])

    def test_the_one_that_is_told_first(self):
        self.assertEqual(ask_linked(error([], 0), error([], 6), error([], 1)), [WRONG, WRONG, NOT_AS_TOLD])


class BeginningTest(unittest.TestCase):
    def check_wrong(self, data):
        self.assertEqual(ask_linked(error(data), told()), [NOT_AS_TOLD, counted(ways=1)], data)

    def test_cut_short_anywhere(self):
        whole = packet(filled(40))
        for length in (20, 21, 27, 28, 29, 59, 60):
            error_back = error_packet(4, 0, whole[:length], THERE)
            self.assertEqual(len(error_back), 28 + min(length, 28))
            self.assertEqual(ask_linked(error(whole[:length]), told()),
                             [[0, *sent(1, FAR, error_back)], counted(ways=1, name=1)])

    def test_more_than_it_tells(self):
        self.check_wrong(packet(filled(40)) + [0])
        self.check_wrong(packet() + [0])
        self.check_wrong(packet() * 2)

    def test_shorter_than_a_head(self):
        for length in (0, 1, 19):
            self.check_wrong(packet(filled(40))[:length])

    def test_the_longest_that_may_be_told(self):
        data = packet(length=65535)
        self.assertEqual(ask_linked(error(data))[0], [0, *sent(1, FAR, error_packet(4, 0, data, THERE))])

    def test_a_head_that_is_no_packets(self):
        right = checksum(packet(wrong_sum=0))
        for data in (packet(first=0x50), packet(hops=0), packet(what=0), packet(what=5), packet(filled(8), flags=4),
                     packet(length=19), packet(length=0), packet(wrong_sum=right ^ 1), packet(sender=0),
                     packet(sender=EVERYBODY), packet(to=0)):
            self.check_wrong(data)

    def test_what_the_head_tells_of_the_body_is_no_packets(self):
        for length in (20, 21, 27, 29, 1001):
            self.check_wrong(packet(flags=MORE, length=length))
        self.check_wrong(packet(place=1, length=65528))
        self.check_wrong(packet(place=8190, length=20))
        data = packet(flags=MORE, length=1020)
        self.assertEqual(ask_linked(error(data))[0], [0, *sent(1, FAR, error_packet(4, 0, data, THERE))])
        self.assertEqual(ask_linked(error(packet(place=1, length=65527)))[0], DONE)


class NoneTest(unittest.TestCase):
    def check_none(self, data):
        self.assertEqual(ask_linked(error(data), told()), [DONE, counted(ways=1)])

    def test_about_an_error(self):
        self.check_none(packet(filled(20), 1))
        self.check_none(packet(filled(24), 1, flags=MORE))

    def test_about_a_later_piece(self):
        self.check_none(packet(filled(20), place=1))
        self.check_none(packet(filled(24), place=1, flags=MORE))

    def test_about_a_packet_to_everybody(self):
        self.check_none(packet(filled(20), to=EVERYBODY))

    def test_no_way(self):
        self.assertEqual(ask(error(packet()), *LINKS[:2], error(packet(sender=OTHER)), told()),
                         [DONE, DONE, DONE, DONE, counted()])


class BackTest(unittest.TestCase):
    def test_about_a_first_piece(self):
        data = packet(filled(24), flags=MORE + UNCUT)
        self.assertEqual(ask_linked(error(data))[0], [0, *sent(1, FAR, error_packet(4, 0, data, THERE))])

    def test_by_a_link(self):
        data = packet(filled(9), 3, FAR, HERE)
        self.assertEqual(ask_linked(error(data))[0], [0, *sent(1, FAR, error_packet(4, 0, data, THERE, FAR))])

    def test_by_a_next_machine(self):
        data = packet(filled(9), 3, OTHER, HERE)
        self.assertEqual(ask_linked(error(data))[0], [0, *sent(0, ROUTER, error_packet(4, 0, data, HERE, OTHER))])

    def test_to_the_machine_itself(self):
        for own in (HERE, THERE):
            data = packet(filled(9), 3, own, OTHER)
            self.assertEqual(ask_linked(error(data), told()),
                             [[0, *upward(4, error_packet(4, 0, data, own, own))], counted(ways=1, name=1)])

    def test_who_it_was_for_is_no_matter(self):
        for to in (HERE, THERE, OTHER, FAR, 1, EVERYBODY - 1):
            data = packet(to=to)
            self.assertEqual(ask_linked(error(data))[0], [0, *sent(1, FAR, error_packet(4, 0, data, THERE))])

    def test_an_error_fits_everywhere(self):
        # 56 bytes at most, and 68 fit on every link: none is ever too long.
        data = packet(filled(100))
        self.assertEqual(ask_last(*LINKS, link(1, THERE, 24, 68), error(data)),
                         [0, *sent(1, FAR, error_packet(4, 0, data, THERE))])

    def test_an_error_that_is_sent_by_the_call_send_is_cut(self):
        body = filled(60)
        self.assertEqual(ask_last(link(1, THERE, 24, 68), send(body, 1)),
                         [0, *sent(1, FAR, packet(body[:48], 1, THERE, FAR, flags=MORE),
                                   packet(body[48:], 1, THERE, FAR, place=6))])

    def test_names_go_on_but_not_where_none_goes_back(self):
        data = packet()
        answered = ask_linked(error(data), error(packet(to=EVERYBODY)), error([]), error(data, 0), error(data), send(),
                              error(data), told())
        self.assertEqual([answered[0], answered[4], answered[6]],
                         [[0, *sent(1, FAR, error_packet(4, 0, data, THERE, FAR, name))] for name in (0, 1, 3)])
        self.assertEqual(answered[7], counted(ways=1, name=4))
