"""Promise 5: take, but for pieces that are kept."""

import unittest

from tests.asking import (DONE, EVERYBODY, FAR, HERE, HIGHEST, LOWEST, MORE, NOT_AS_TOLD, NOT_NOW, OTHER, ROUTER,
                          THERE, TWO_LINKS, UNCUT, WRONG, ask, ask_behind, ask_last, checksum, counted, error_body,
                          error_packet, filled, link, packet, pass_on, send, sent, take, told, upward, way)

# FAR is on link 1, all others are reached through the router on link 0; 2 and 3 are off.
LINKS = [*TWO_LINKS, way(0, 0, 0, ROUTER), pass_on(1)]
STOPPED = [4]
DROPPED = [5]


def ask_linked(*calls):
    return ask_behind(LINKS, calls)


class RefusalTest(unittest.TestCase):
    def test_no_other_link_number(self):
        for k in (-1, 4, LOWEST, HIGHEST):
            with self.subTest(k=k):
                self.assertEqual(ask_linked(take(packet(), k), told()), [WRONG, counted(ways=1)])

    def test_a_link_that_is_off(self):
        self.assertEqual(ask_linked(take(packet(), 2), take(packet(), 3), link(0, 0), take(packet(), 0), told()),
                         [NOT_NOW, NOT_NOW, DONE, NOT_NOW, counted(ways=1)])

    def test_the_one_that_is_told_first(self):
        self.assertEqual(ask_linked(take([], 4), take([], 2), take([], 0)), [WRONG, NOT_NOW, NOT_AS_TOLD])

    def test_more_bytes_than_a_packet_may_have(self):
        # A list that is longer than the interface asks for, since no shorter one has so many.
        self.assertEqual(ask_linked(take([0] * 65535), take([0] * 65536), take([0] * 65536, 2)),
                         [NOT_AS_TOLD, WRONG, WRONG])

    def check_no_packet(self, data, by=0):
        self.assertEqual(ask_linked(take(data, by), told()), [NOT_AS_TOLD, counted(ways=1)], data)

    def check_packet(self, data):
        answered = ask_linked(take(data), told())
        self.assertIn(answered[0][0], (1, 2, 3, 4, 5), data)

    def test_shorter_than_a_head(self):
        for length in (0, 1, 2, 19):
            self.check_no_packet(packet()[:length])
        self.check_no_packet(packet(length=19)[:19])
        self.check_packet(packet())

    def test_longer_or_shorter_than_told(self):
        self.check_packet(packet(filled(9)))
        self.check_no_packet(packet(filled(9)) + [0])
        self.check_no_packet(packet(filled(9))[:-1])
        self.check_no_packet(packet() + [0])

    def test_the_first_byte(self):
        for first in (0, 0x50, 0x52, 0x15, 255):
            self.check_no_packet(packet(first=first))

    def test_hops(self):
        self.check_no_packet(packet(hops=0))
        self.check_packet(packet(hops=1))
        self.check_packet(packet(hops=255))

    def test_what(self):
        for what in (0, 5, 255):
            self.check_no_packet(packet(what=what))
        for what in (1, 2, 3, 4):
            self.check_packet(packet(what=what))

    def test_flags(self):
        for flags in (4, 5, 8, 128, 255):
            self.check_no_packet(packet(filled(8), flags=flags))
        for flags in (0, 1, 2, 3):
            self.check_packet(packet(filled(8), flags=flags))

    def test_length(self):
        for length in (0, 19, 21, 65535):
            self.check_no_packet(packet(length=length))

    def test_the_sum(self):
        right = checksum(packet(wrong_sum=0)[:20])
        self.assertEqual(packet(wrong_sum=right), packet())
        self.check_packet(packet(wrong_sum=right))
        for wrong in (0, right + 1, right - 1, right ^ 0x0100, 65535 - right, 65535):
            self.check_no_packet(packet(wrong_sum=wrong))

    def test_a_sum_of_0_is_not_65535(self):
        # The name is what makes the numbers add up to 65535.
        name = checksum(packet(wrong_sum=0)[:20])
        self.assertEqual(packet(name=name)[10:12], [0, 0])
        self.check_packet(packet(name=name))
        self.check_no_packet(packet(name=name, wrong_sum=65535))

    def test_the_sum_is_the_heads_alone(self):
        self.check_packet(packet(filled(9)))
        self.check_no_packet(packet(filled(8), wrong_sum=checksum(packet(filled(8), wrong_sum=0))))

    def test_every_bit_of_a_head_counts(self):
        data = packet(filled(8), name=0x1234)
        for at in range(20):
            for bit in range(8):
                changed = list(data)
                changed[at] ^= 1 << bit
                self.check_no_packet(changed)

    def test_from(self):
        for sender in (0, EVERYBODY):
            self.check_no_packet(packet(sender=sender))
        for sender in (1, EVERYBODY - 1):
            self.check_packet(packet(sender=sender))

    def test_to(self):
        self.check_no_packet(packet(to=0))
        for to in (1, EVERYBODY - 1, EVERYBODY):
            self.check_packet(packet(to=to))

    def test_place_and_body_beyond_65515(self):
        # 8189 eights are 65512 bytes.
        self.check_packet(packet(filled(3), place=8189))
        self.check_no_packet(packet(filled(4), place=8189))
        self.check_packet(packet(filled(8), place=8188, flags=MORE))
        self.check_no_packet(packet(filled(8), place=8189, flags=MORE))
        self.check_packet(packet(place=8189))
        self.check_no_packet(packet(place=8190))
        self.check_no_packet(packet(place=65535))
        self.check_packet(packet(filled(11), place=8188))
        self.check_no_packet(packet(filled(12), place=8188))

    def test_flag_1_has_a_body_of_eights(self):
        for flags in (MORE, MORE + UNCUT):
            for place in (0, 3):
                for length in (0, 1, 7, 9, 15, 17):
                    self.check_no_packet(packet(filled(length), flags=flags, place=place))
                for length in (8, 16, 800):
                    self.check_packet(packet(filled(length), flags=flags, place=place))

    def test_what_is_not_for_the_machine_is_read_as_strictly(self):
        for wrong in (packet(to=OTHER, hops=0), packet(to=OTHER, what=5), packet(to=OTHER, wrong_sum=0),
                      packet(filled(7), to=OTHER, flags=MORE), packet(to=OTHER) + [0]):
            self.check_no_packet(wrong)
            self.check_no_packet(wrong, 1)


class UpwardTest(unittest.TestCase):
    def test_for_the_machine(self):
        for to in (HERE, THERE, EVERYBODY):
            for by in (0, 1):
                with self.subTest(to=to, by=by):
                    data = packet(filled(5), 3, to=to, hops=1, flags=UNCUT, name=513)
                    self.assertEqual(ask_linked(take(data, by), told()),
                                     [[1, *upward(by, data)], counted(ways=1, upward=1)])

    def test_by_each_link(self):
        links = [link(k, 100 + k, 32) for k in range(4)]
        for k in range(4):
            for by in range(4):
                data = packet(filled(k), to=100 + k)
                self.assertEqual(ask_last(*links, take(data, by)), [1, *upward(by, data)])

    def test_where_nothing_is_passed_on(self):
        self.assertEqual(ask_linked(pass_on(0), take(packet()))[1], [1, *upward(0, packet())])

    def test_no_body_and_a_long_one(self):
        for length in (0, 1, 1480, 1481, 15880):
            data = packet(filled(length))
            self.assertEqual(ask_linked(take(data))[0], [1, *upward(0, data)])

    def test_from_the_machine_itself(self):
        for sender in (HERE, THERE):
            data = packet(sender=sender)
            self.assertEqual(ask_linked(take(data, 1))[0], [1, *upward(1, data)])

    def test_the_address_of_a_link_that_is_off_is_another_machine(self):
        answered = ask_linked(link(1, 0), take(packet(to=THERE)), pass_on(0), take(packet(to=THERE)))
        self.assertEqual(answered[1], [2, *sent(0, ROUTER, packet(to=THERE, hops=63))])
        self.assertEqual(answered[3], DROPPED)


class ErrorTest(unittest.TestCase):
    def check(self, body, right):
        data = packet(body, 1)
        self.assertEqual(ask_linked(take(data), told()),
                         [[1, *upward(0, data)] if right else DROPPED,
                          counted(ways=1, upward=int(right), stopped=int(not right))])

    def test_right_ones(self):
        self.check(error_body(1, 0, packet(filled(20))), True)
        self.check(error_body(3, 1500, packet(filled(1))), True)
        self.check(error_body(5, 0, []), True)

    def test_a_kind_that_is_not_told_and_more_bytes_are_no_matter(self):
        self.check(error_body(0, 0, []), True)
        self.check(error_body(6, 0, []), True)
        body = filled(101)
        body[1:4] = [0, 0, 0]
        body[2:4] = divmod(checksum(body), 256)
        self.check(body, True)

    def test_fewer_than_8_bytes(self):
        for length in range(8):
            body = ([1] + [0] * 7)[:length]
            if length >= 4:
                body[2:4] = divmod(checksum(body), 256)
            self.check(body, False)

    def test_8_bytes(self):
        self.check([1, 0, 0xFE, 0xFF, 0, 0, 0, 0], True)

    def test_another_second_byte(self):
        for second in (1, 255):
            body = [1, second, 0, 0, 0, 0, 0, 0]
            body[2:4] = divmod(checksum(body), 256)
            self.check(body, False)

    def test_a_wrong_sum(self):
        right = error_body(1, 7, packet(filled(9)))
        for at in (0, 2, 3, 4, 7, 8, len(right) - 1):
            wrong = list(right)
            wrong[at] ^= 1
            self.check(wrong, False)

    def test_an_odd_byte_at_the_end(self):
        body = error_body(1, 7, filled(9))
        self.assertEqual(len(body) % 2, 1)
        self.check(body, True)
        self.check(body[:-1] + [body[-1] ^ 255], False)

    def test_a_sum_of_0_is_not_65535(self):
        self.check([255, 0, 0, 0, 0, 255, 0, 0], True)
        self.check([255, 0, 255, 255, 0, 255, 0, 0], False)
        self.check([0, 0, 255, 255, 0, 0, 0, 0], True)
        self.check([0] * 8, False)

    def test_to_everybody(self):
        data = packet(error_body(1, 0, []), 1, to=EVERYBODY)
        self.assertEqual(ask_linked(take(data))[0], [1, *upward(0, data)])

    def test_one_that_is_not_for_the_machine_is_passed_on_whatever_it_has(self):
        self.assertEqual(ask_linked(take(packet([9], 1, to=OTHER)))[0],
                         [2, *sent(0, ROUTER, packet([9], 1, to=OTHER, hops=63))])


class PassedOnTest(unittest.TestCase):
    def test_not_passed_on(self):
        for hops in (1, 64):
            self.assertEqual(ask_linked(pass_on(0), take(packet(to=OTHER, hops=hops)), told())[1:],
                             [DROPPED, counted(ways=1, stopped=1)])

    def test_nothing_is_passed_on_at_first_and_behind_new(self):
        self.assertEqual(ask(*LINKS[:3], take(packet(to=OTHER)))[3], DROPPED)
        self.assertEqual(ask(pass_on(1), [0], *LINKS[:3], take(packet(to=OTHER)))[5], DROPPED)

    def test_with_one_hop_less(self):
        for hops in (2, 3, 64, 255):
            data = packet(filled(9), 4, OTHER, FAR, hops, UNCUT, 77)
            self.assertEqual(ask_linked(take(data), told()),
                             [[2, *sent(1, FAR, packet(filled(9), 4, OTHER, FAR, hops - 1, UNCUT, 77))],
                              counted(ways=1, passed=1)])

    def test_to_a_next_machine(self):
        self.assertEqual(ask_linked(take(packet(to=OTHER), 1))[0], [2, *sent(0, ROUTER, packet(to=OTHER, hops=63))])

    def test_by_the_link_that_it_came_by(self):
        self.assertEqual(ask_linked(take(packet(to=OTHER), 0))[0], [2, *sent(0, ROUTER, packet(to=OTHER, hops=63))])

    def test_from_the_machine_itself(self):
        self.assertEqual(ask_linked(take(packet(sender=HERE, to=FAR)))[0],
                         [2, *sent(1, FAR, packet(sender=HERE, to=FAR, hops=63))])

    def test_cut(self):
        body = filled(1000)
        self.assertEqual(ask_linked(take(packet(body, 3, OTHER, FAR, 9, 0, 77)), told()),
                         [[2, *sent(1, FAR, packet(body[:576], 3, OTHER, FAR, 8, MORE, 77, 0),
                                    packet(body[576:], 3, OTHER, FAR, 8, 0, 77, 72))],
                          counted(ways=1, passed=1)])

    def test_just_as_long_as_fits_and_one_byte_more(self):
        whole, longer = filled(580), filled(581)
        for flags in (0, UNCUT):
            self.assertEqual(ask_linked(take(packet(whole, sender=OTHER, to=FAR, flags=flags)))[0],
                             [2, *sent(1, FAR, packet(whole, sender=OTHER, to=FAR, flags=flags, hops=63))])
        self.assertEqual(ask_linked(take(packet(longer, sender=OTHER, to=FAR)))[0],
                         [2, *sent(1, FAR, packet(longer[:576], sender=OTHER, to=FAR, flags=MORE, hops=63),
                                   packet(longer[576:], sender=OTHER, to=FAR, place=72, hops=63))])

    def test_a_piece_is_passed_on_as_it_is(self):
        for flags, place in ((MORE, 0), (MORE, 5), (0, 5), (MORE + UNCUT, 5)):
            data = packet(filled(16), to=OTHER, flags=flags, place=place)
            self.assertEqual(ask_linked(take(data), told()),
                             [[2, *sent(0, ROUTER, packet(filled(16), to=OTHER, flags=flags, place=place, hops=63))],
                              counted(ways=1, passed=1)])

    def test_a_piece_is_cut_again(self):
        body = filled(1200)
        for flags in (0, MORE):
            data = packet(body, 2, OTHER, FAR, 64, flags, 5, 100)
            self.assertEqual(ask_linked(take(data))[0],
                             [2, *sent(1, FAR, packet(body[:576], 2, OTHER, FAR, 63, MORE, 5, 100),
                                       packet(body[576:1152], 2, OTHER, FAR, 63, MORE, 5, 172),
                                       packet(body[1152:], 2, OTHER, FAR, 63, flags, 5, 244))])

    def test_the_next_name_stays(self):
        answered = ask_linked(take(packet(filled(1000), sender=OTHER, to=FAR)), send())
        self.assertEqual(answered[1], [0, *sent(1, FAR, packet(sender=THERE, to=FAR))])


class ErrorBackTest(unittest.TestCase):
    only_links = [LINKS[0], LINKS[1], pass_on(1)]

    def test_one_hop_left(self):
        data = packet(filled(30), to=OTHER, hops=1)
        self.assertEqual(ask_linked(take(data), told()),
                         [[4, *sent(1, FAR, error_packet(2, 0, data, THERE, FAR))],
                          counted(ways=1, name=1, stopped=1)])

    def test_no_way(self):
        data = packet(filled(30), to=OTHER)
        self.assertEqual(ask(*self.only_links, take(data), told())[3:],
                         [[4, *sent(1, FAR, error_packet(1, 0, data, THERE, FAR))], counted(name=1, stopped=1)])

    def test_too_long_and_not_to_be_cut(self):
        for flags, place in ((UNCUT, 0), (UNCUT + MORE, 0)):
            data = packet(filled(1000), 2, OTHER, FAR, 64, flags)
            self.assertEqual(ask_linked(take(data), told()),
                             [[4, *sent(0, ROUTER, error_packet(3, 600, data, HERE, OTHER))],
                              counted(ways=1, name=1, stopped=1)])

    def test_one_byte_too_long(self):
        data = packet(filled(581), 2, OTHER, FAR, 2, UNCUT)
        self.assertEqual(ask_linked(take(data))[0], [4, *sent(0, ROUTER, error_packet(3, 600, data, HERE, OTHER))])

    def test_which_error_is_first(self):
        long = filled(1000)
        data = packet(long, 2, FAR, OTHER, 1, UNCUT)
        self.assertEqual(ask(*self.only_links, take(data))[3], [4, *sent(1, FAR, error_packet(2, 0, data, THERE))])
        data = packet(long, 2, OTHER, FAR, 1, UNCUT)
        self.assertEqual(ask_linked(take(data))[0], [4, *sent(0, ROUTER, error_packet(2, 0, data, HERE, OTHER))])

    def test_the_first_28_bytes_or_all(self):
        for length in (0, 1, 7, 8, 9, 100):
            data = packet(filled(length), to=OTHER, hops=1)
            error = error_packet(2, 0, data, THERE)
            self.assertEqual(len(error), 28 + min(28, 20 + length))
            self.assertEqual(ask_linked(take(data))[0], [4, *sent(1, FAR, error)])

    def test_about_the_packet_as_it_came(self):
        data = packet(filled(1000), 2, OTHER, FAR, 200, UNCUT)
        answer = ask_linked(take(data))[0]
        self.assertEqual(answer[-28:], data[:28])
        self.assertEqual(answer[-27], 200)

    def test_none_about_an_error(self):
        body = error_body(1, 0, [])
        self.assertEqual(ask_linked(take(packet(body, 1, to=OTHER, hops=1)),
                                    take(packet(filled(1000), 1, OTHER, FAR, flags=UNCUT)), told()),
                         [STOPPED, STOPPED, counted(ways=1, stopped=2)])
        self.assertEqual(ask(*self.only_links, take(packet(body, 1, to=OTHER)), told())[3:],
                         [STOPPED, counted(stopped=1)])

    def test_none_about_a_later_piece(self):
        later = packet(filled(8), to=OTHER, hops=1, place=1)
        middle = packet(filled(8), to=OTHER, hops=1, place=1, flags=MORE)
        first = packet(filled(8), to=OTHER, hops=1, flags=MORE)
        self.assertEqual(ask_linked(take(later), take(middle), take(first), told()),
                         [STOPPED, STOPPED, [4, *sent(1, FAR, error_packet(2, 0, first, THERE))],
                          counted(ways=1, name=1, stopped=3)])

    def test_none_where_no_way_leads_to_who_sent_it(self):
        self.assertEqual(ask(*self.only_links, take(packet(sender=0x0D000001, to=OTHER)),
                             take(packet(sender=0x0D000001, to=FAR, hops=1)), told())[3:],
                         [STOPPED, STOPPED, counted(stopped=2)])

    def test_to_the_machine_itself(self):
        for own in (HERE, THERE):
            data = packet(filled(30), 2, own, OTHER, 1)
            self.assertEqual(ask_linked(take(data, 1), told()),
                             [[4, *upward(4, error_packet(2, 0, data, own, own))],
                              counted(ways=1, name=1, stopped=1)])

    def test_by_a_way_without_a_next_machine(self):
        data = packet(sender=ROUTER, to=OTHER, hops=1)
        self.assertEqual(ask_linked(take(data, 1))[0], [4, *sent(0, ROUTER, error_packet(2, 0, data, HERE, ROUTER))])

    def test_names_go_on(self):
        data = packet(to=OTHER, hops=1)
        answered = ask_linked(take(data), send(), take(data), take(packet(to=HERE)), take(data))
        self.assertEqual([answered[0], answered[2], answered[4]],
                         [[4, *sent(1, FAR, error_packet(2, 0, data, THERE, FAR, name))] for name in (0, 2, 3)])

    def test_an_error_fits_everywhere(self):
        # 56 bytes at most, and 68 fit on every link: none is ever too long.
        data = packet(filled(100), to=OTHER, hops=1)
        self.assertEqual(ask_last(*LINKS, link(1, THERE, 24, 68), take(data)),
                         [4, *sent(1, FAR, error_packet(2, 0, data, THERE))])

    def test_number_by_number(self):
        data = packet([9], 2, 0x01020305, 0x05060708, 1)
        self.assertEqual(ask_last(link(3, 0x01020304, 8), pass_on(1), take(data, 3)),
                         [4, 1, 3, 0x01020305, 49, 0x51, 64, 1, 0, 0, 49, 0, 0, 0, 0, 0xA5, 0x81, 1, 2, 3, 4, 1,
                          2, 3, 5, 2, 0, *divmod(checksum([2, 0, 0, 0, 0, 0, 0, 0, *data]), 256), 0, 0, 0, 0, *data])
