"""Promise 5: take, where pieces are kept and put together."""

import itertools
import unittest

from tests.asking import (DONE, EVERYBODY, FAR, HERE, MORE, OTHER, THERE, TWO_LINKS, UNCUT, ask, ask_behind, ask_last,
                          checksum, counted, error_body, filled, link, new, packet, send, take, tick, told, upward)

LINKS = TWO_LINKS
KEPT = [3]
DROPPED = [5]


def ask_linked(*calls):
    return ask_behind(LINKS, calls)


def more(place, length=8, first=None, **head):
    """A piece that others follow; its body is told by its place, if not otherwise."""
    return packet(filled(length, place if first is None else first), flags=MORE, place=place, **head)


def last(place, length=5, first=None, **head):
    return packet(filled(length, place if first is None else first), place=place, **head)


def joined(*pieces, by=0):
    """What take answers with the last of these pieces, told in the order of their places."""
    body = [byte for piece in pieces for byte in piece[20:]]
    return [1, 0, by, *pieces[0][:20], len(body), *body]


class TogetherTest(unittest.TestCase):
    pieces = [more(0, 16), more(2), more(3, 24), last(6)]

    def test_in_order(self):
        self.assertEqual(ask_linked(*[take(piece) for piece in self.pieces], told()),
                         [KEPT, KEPT, KEPT, joined(*self.pieces), counted(upward=1)])

    def test_in_every_order(self):
        for order in itertools.permutations(self.pieces):
            self.assertEqual(ask_linked(*[take(piece) for piece in order]), [KEPT] * 3 + [joined(*self.pieces)])

    def test_with_a_last_piece_of_any_length(self):
        for length in (0, 1, 7, 8, 9, 1000):
            pieces = [more(0), more(1), last(2, length)]
            for order in itertools.permutations(pieces):
                self.assertEqual(ask_linked(*[take(piece) for piece in order]), [KEPT] * 2 + [joined(*pieces)])

    def test_two_pieces(self):
        for order in ((more(0), last(1)), (last(1), more(0))):
            self.assertEqual(ask_linked(*map(take, order)), [KEPT, joined(more(0), last(1))])

    def test_the_link_is_that_of_the_last_to_come(self):
        first, end = more(0), last(1)
        self.assertEqual(ask_linked(take(first, 0), take(end, 1))[1], joined(first, end, by=1))
        self.assertEqual(ask_linked(take(end, 1), take(first, 0))[1], joined(first, end, by=0))
        self.assertEqual(ask_linked(take(end, 0), take(first, 1))[1], joined(first, end, by=1))

    def test_the_head_is_that_of_the_first_by_place(self):
        first = packet(filled(8), hops=9, flags=MORE + UNCUT)
        end = last(1, hops=200)
        for order in ((first, end), (end, first)):
            self.assertEqual(ask_linked(*map(take, order))[1], joined(first, end))

    def test_number_by_number(self):
        first, end = packet([1, 2, 3, 4, 5, 6, 7, 8], flags=MORE, name=258), packet([9], place=1, name=258)
        self.assertEqual(ask_linked(take(end, 1), take(first, 0)),
                         [[3], [1, 0, 0, *first[:20], 9, 1, 2, 3, 4, 5, 6, 7, 8, 9]])

    def test_to_everybody_and_to_each_own_address(self):
        for to in (HERE, THERE, EVERYBODY):
            first, end = more(0, to=to), last(1, to=to)
            self.assertEqual(ask_linked(take(first, 1), take(end, 0))[1], joined(first, end))

    def test_as_long_as_can_be(self):
        # Bodies are kept short: one piece lies at the very end of what a packet may have.
        first, end = more(0), last(8189, 3)
        self.assertEqual(ask_linked(take(first), take(end), told()), [KEPT, KEPT, counted(pieces=1)])

    def test_a_long_one(self):
        pieces = [more(n * 48, 384) for n in range(39)] + [last(39 * 48, 383)]
        self.assertEqual(ask_linked(*map(take, pieces[::-1]))[-1], joined(*pieces))

    def test_none_is_told_while_one_is_missing(self):
        for missing in range(4):
            others = [piece for n, piece in enumerate(self.pieces) if n != missing]
            for order in (others, others[::-1]):
                self.assertEqual(ask_linked(*map(take, order), told()), [KEPT] * 3 + [counted(pieces=1)])

    def test_the_same_name_again_once_it_is_over(self):
        again = [more(0, 8, 70), last(1, 9, 80)]
        answered = ask_linked(take(more(0)), take(last(1)), take(again[1]), told(), take(again[0]),
                              take(again[0]), told())
        self.assertEqual(answered, [KEPT, joined(more(0), last(1)), KEPT, counted(pieces=1, upward=1),
                                    joined(*again), KEPT, counted(pieces=1, upward=2)])

    def test_nothing_is_sent_and_no_name_used(self):
        answered = ask_linked(take(more(0)), take(last(1)), send(to=HERE))
        self.assertEqual(answered[2], [0, *upward(4, packet(sender=HERE, to=HERE))])

    def test_kept_while_the_link_is_off(self):
        answered = ask_linked(take(more(0), 1), link(0, 0), take(last(1), 1), link(0, HERE), take(last(1), 0))
        self.assertEqual(answered, [KEPT, DONE, DROPPED, DONE, joined(more(0), last(1))])


class ApartTest(unittest.TestCase):
    def test_different_from_to_what_or_name(self):
        plain = {"sender": FAR, "to": HERE, "what": 2, "name": 7}
        for changed in ({"sender": OTHER}, {"to": THERE}, {"to": EVERYBODY}, {"what": 3}, {"name": 8}):
            with self.subTest(changed=changed):
                other = {**plain, **changed}
                mine, theirs = [more(0, **plain), last(1, **plain)], [more(0, 8, 90, **other), last(1, 8, 95, **other)]
                answered = ask_linked(take(mine[0]), take(theirs[1]), told(), take(theirs[0]), told(), take(mine[1]),
                                      told())
                self.assertEqual(answered, [KEPT, KEPT, counted(pieces=2), joined(*theirs),
                                            counted(pieces=1, upward=1), joined(*mine), counted(upward=2)])

    def test_one_that_is_spoiled_spoils_no_other(self):
        answered = ask_linked(take(more(0, name=1)), take(more(0, name=2)), take(more(0, 16, name=1)),
                              take(last(1, name=2)), take(last(1, name=1)))
        self.assertEqual(answered, [KEPT, KEPT, DROPPED, joined(more(0, name=2), last(1, name=2)), DROPPED])

    def test_a_whole_packet_of_the_same_name_is_another(self):
        whole = packet(filled(3))
        self.assertEqual(ask_linked(take(more(0)), take(whole), take(last(1))),
                         [KEPT, [1, *upward(0, whole)], joined(more(0), last(1))])


class NothingNewTest(unittest.TestCase):
    def test_twice_the_same(self):
        for piece in (more(0), more(5), last(5), last(5, 0)):
            self.assertEqual(ask_linked(take(piece), take(piece), take(piece, 1), told()),
                             [KEPT, KEPT, KEPT, counted(pieces=1)])

    def test_it_is_put_together_all_the_same(self):
        first, middle, end = more(0), more(1), last(2)
        self.assertEqual(ask_linked(*map(take, (end, end, first, end, first, middle))),
                         [KEPT] * 5 + [joined(first, middle, end)])

    def test_other_hops_or_another_flag_2_make_no_other_piece(self):
        first = more(0, hops=9)
        again = packet(filled(8, 0), hops=8, flags=MORE + UNCUT)
        self.assertEqual(ask_linked(take(first), take(again), take(last(1))), [KEPT, KEPT, joined(first, last(1))])

    def test_it_begins_no_sooner_or_later(self):
        answered = ask_linked(take(last(5)), tick(10000), take(last(5)), tick(30000), told())
        self.assertEqual(answered, [KEPT, DONE, KEPT, DONE, counted()])


class SpoiledTest(unittest.TestCase):
    def check_spoils(self, kept, spoiling):
        """The last is the one that spoils it; nothing that comes of it is kept from then on."""
        calls = [take(piece) for piece in kept]
        answered = ask_linked(*calls, take(spoiling), *calls, take(spoiling), take(more(0)), take(last(50)), told())
        dropped = len(kept) + 4
        self.assertEqual(answered, [KEPT] * len(kept) + [DROPPED] * dropped + [counted(pieces=1, stopped=dropped)])

    def check_kept(self, kept, piece):
        calls = [take(one) for one in kept]
        self.assertEqual(ask_linked(*calls, take(piece), told()), [KEPT] * (len(kept) + 1) + [counted(pieces=1)])

    def test_one_that_lies_over_another(self):
        there = more(10, 24)
        for place, length in ((10, 8), (10, 16), (10, 32), (8, 24), (8, 40), (8, 48), (11, 8), (12, 8), (12, 16),
                              (0, 800)):
            with self.subTest(place=place, length=length):
                self.check_spoils([there], more(place, length))
                self.check_spoils([more(place, length)], there)
        self.check_kept([there], more(8, 16))
        self.check_kept([there], more(13, 8))

    def test_one_with_the_same_place_and_length_but_another_body(self):
        self.check_spoils([more(10)], more(10, 8, 99))
        self.check_spoils([last(10)], last(10, 5, 99))

    def test_one_with_the_same_place_and_body_but_another_flag(self):
        self.check_spoils([more(10)], last(10, 8))
        self.check_spoils([last(10, 8)], more(10))

    def test_one_beyond_an_end_that_is_known(self):
        for end in (last(10, 5), last(10, 8), last(10, 0)):
            self.check_spoils([end], more(11))
            self.check_spoils([end], more(20))
            self.check_spoils([end], more(8, 24))
            self.check_kept([end], more(8, 16))
        self.check_spoils([last(10, 0)], more(10))

    def test_an_end_where_another_goes_beyond(self):
        for there in (more(10), more(20)):
            for length in (0, 1, 7, 8):
                self.check_spoils([there], last(9 if length else 10, length))
        self.check_spoils([more(10, 16)], last(11, 0))
        self.check_kept([more(10)], last(11, 0))
        self.check_kept([more(10)], last(11, 1))

    def test_a_second_end(self):
        self.check_spoils([last(10)], last(11))
        self.check_spoils([last(10)], last(9))
        self.check_spoils([last(10)], last(9, 8))
        self.check_spoils([last(10, 8)], last(12))

    def test_a_second_end_at_the_same_place(self):
        self.check_spoils([last(10, 8)], last(11, 0))
        self.check_spoils([last(11, 0)], last(10, 8))
        self.check_spoils([last(10, 0)], last(11, 0))
        self.check_spoils([last(11, 0)], last(10, 0))

    def test_a_piece_without_a_body_that_ends_it(self):
        first, end = more(0), last(1, 0)
        self.assertEqual(ask_linked(take(first), take(end)), [KEPT, joined(first)])
        self.assertEqual(ask_linked(take(end), take(first)), [KEPT, joined(first)])

    def test_a_spoiled_one_of_several_pieces(self):
        self.check_spoils([more(0), more(4), last(9)], more(3, 16))
        self.check_spoils([more(4), last(9), more(0)], more(10))

    def test_it_never_comes_together(self):
        pieces = [more(0), more(1), last(2)]
        self.assertEqual(ask_linked(take(pieces[0]), take(more(0, 8, 9)), *map(take, pieces), told()),
                         [KEPT] + [DROPPED] * 4 + [counted(pieces=1, stopped=4)])

    def test_the_same_name_again_once_it_is_given_up(self):
        first, end = more(0), last(1)
        answered = ask_linked(take(first), take(more(0, 16)), tick(29999), take(first), tick(30000), told(),
                              take(first), take(end), told())
        self.assertEqual(answered, [KEPT, DROPPED, DONE, DROPPED, DONE, counted(stopped=2), KEPT, joined(first, end),
                                    counted(upward=1, stopped=2)])


class ErrorTest(unittest.TestCase):
    def test_a_right_one(self):
        body = error_body(2, 0, filled(40))
        first, end = packet(body[:16], 1, flags=MORE), packet(body[16:], 1, place=2)
        for order in ((first, end), (end, first)):
            self.assertEqual(ask_linked(*map(take, order), told()), [KEPT, joined(first, end), counted(upward=1)])

    def test_wrong_ones(self):
        wrong_sum, wrong_second = error_body(2, 0, filled(40)), error_body(2, 0, filled(40))
        wrong_sum[30] ^= 1
        wrong_second[1] = 1
        wrong_second[2:4] = [0, 0]
        wrong_second[2:4] = divmod(checksum(wrong_second), 256)
        for body in (wrong_sum, wrong_second):
            first, end = packet(body[:16], 1, flags=MORE), packet(body[16:], 1, place=2)
            for order in ((first, end), (end, first)):
                self.assertEqual(ask_linked(*map(take, order), told(), take(first), told()),
                                 [KEPT, DROPPED, counted(stopped=1), KEPT, counted(pieces=1, stopped=1)])

    def test_each_piece_is_kept_whatever_it_has(self):
        self.assertEqual(ask_linked(take(packet([9], 1, place=1))), [KEPT])

    def test_the_shortest(self):
        first, end = packet([1, 0, 0xFE, 0xFF, 0, 0, 0, 0], 1, flags=MORE), packet([], 1, place=1)
        self.assertEqual(ask_linked(take(first), take(end)), [KEPT, joined(first)])


class RoomTest(unittest.TestCase):
    full = [take(more(0, name=n)) for n in range(64)]

    def test_64_are_kept(self):
        answered = ask_linked(*self.full, told(), *[take(last(1, name=n)) for n in range(64)], told())
        self.assertEqual(answered[64], counted(pieces=64))
        self.assertEqual(answered[65:-1], [joined(more(0, name=n), last(1, name=n)) for n in range(64)])
        self.assertEqual(answered[-1], counted(upward=64))

    def test_the_65th_is_begun_and_the_oldest_given_up(self):
        answered = ask_linked(*self.full, take(more(0, name=64)), told(), take(last(1, name=64)), take(last(1, name=1)),
                              told(), take(last(1, name=0)), told())
        self.assertEqual(answered[64:], [KEPT, counted(pieces=64), joined(more(0, name=64), last(1, name=64)),
                                         joined(more(0, name=1), last(1, name=1)), counted(pieces=62, upward=2),
                                         KEPT, counted(pieces=63, upward=2)])

    def test_another_piece_makes_it_no_younger(self):
        answered = ask_linked(*self.full, tick(5), take(more(2, name=0)), take(more(0, name=64)), take(last(1, name=0)),
                              take(more(0, name=0)))
        # The piece that comes for the one that was given up is the first of another, for which the next one is.
        self.assertEqual(answered[66:], [KEPT, KEPT, joined(more(0, name=0), last(1, name=0))])

    def test_one_piece_more_of_one_that_is_there_gives_up_none(self):
        answered = ask_linked(*self.full, take(more(2, name=0)), take(more(2, name=63)), take(last(1, name=5)))
        self.assertEqual(answered[64:], [KEPT, KEPT, joined(more(0, name=5), last(1, name=5))])

    def test_a_spoiled_one_counts_and_is_given_up_as_the_oldest(self):
        spoiled = [take(more(0, name=0)), take(more(0, 16, name=0))]
        answered = ask_linked(*spoiled, *self.full[1:], told(), take(more(0, name=64)), told(), take(more(0, name=0)),
                              take(last(1, name=0)), take(last(1, name=1)))
        self.assertEqual(answered[65:], [counted(pieces=64, stopped=1), KEPT, counted(pieces=64, stopped=1), KEPT,
                                         joined(more(0, name=0), last(1, name=0)), KEPT])

    def test_one_that_is_over_makes_room(self):
        answered = ask_linked(*self.full, take(last(1, name=30)), take(more(0, name=64)), take(last(1, name=0)), told())
        self.assertEqual(answered[64:], [joined(more(0, name=30), last(1, name=30)), KEPT,
                                         joined(more(0, name=0), last(1, name=0)), counted(pieces=63, upward=2)])

    def test_new_forgets_all(self):
        answered = ask(*LINKS, *self.full, new(), told(), *LINKS, take(last(1, name=3)), told())
        self.assertEqual(answered[66:], [DONE, counted(), DONE, DONE, KEPT, counted(pieces=1)])

    def test_new_forgets_that_one_was_spoiled(self):
        first, end = more(0), last(1)
        self.assertEqual(ask_last(*LINKS, take(first), take(more(0, 16)), new(), *LINKS, take(first), take(end)),
                         joined(first, end))
