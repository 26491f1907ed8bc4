"""Promises 7 and 8: tick and told."""

import unittest

from tests.asking import (DONE, EVERYBODY, FAR, HERE, MORE, OTHER, ROUTER, THERE, TWO_LINKS, UNCUT, WRONG, ask,
                          ask_behind, away, best, counted, error, error_packet, filled, link, new, packet, pass_on,
                          send, sent, take, tick, told, upward, way)

LINKS = TWO_LINKS
KEPT = [3]
DROPPED = [5]
LATEST = 2 ** 63 - 1


def ask_linked(*calls):
    return ask_behind(LINKS, calls)


def first(name=0, **head):
    return packet(filled(16, name), flags=MORE, name=name, **head)


def later(name=0, **head):
    return packet(filled(16, name), place=2, flags=MORE, name=name, **head)


def missing(data, name=0):
    """What's told of the error about pieces that didn't come."""
    return sent(1, FAR, error_packet(5, 0, data, THERE, FAR, name))


class TimeTest(unittest.TestCase):
    def test_never_back(self):
        self.assertEqual(ask(tick(0), tick(5), tick(4), tick(0), tick(5), tick(6), tick(5)),
                         [DONE, DONE, WRONG, WRONG, DONE, DONE, WRONG])

    def test_the_latest(self):
        self.assertEqual(ask(tick(LATEST), tick(LATEST - 1), tick(LATEST)), [DONE, WRONG, DONE])

    def test_behind_new_it_is_0(self):
        self.assertEqual(ask(tick(5), new(), tick(4), tick(3)), [DONE, DONE, DONE, WRONG])

    def test_a_refused_one_gives_nothing_up(self):
        self.assertEqual(ask_linked(tick(50000), take(first()), tick(49999), tick(0), tick(79999), told(), tick(80000)),
                         [DONE, KEPT, WRONG, WRONG, DONE, counted(pieces=1), [0, *missing(first())]])


class GivenUpTest(unittest.TestCase):
    def test_29999_and_30000_behind_its_beginning(self):
        for began in (0, 1, 123456, 2 ** 40, LATEST - 30000):
            answered = ask_linked(tick(began), take(first()), tick(began + 29999), told(), tick(began + 30000), told())
            self.assertEqual(answered, [DONE, KEPT, DONE, counted(pieces=1), [0, *missing(first())], counted(name=1)])

    def test_much_later(self):
        self.assertEqual(ask_linked(take(first()), tick(LATEST)), [KEPT, [0, *missing(first())]])

    def test_the_latest_time_itself(self):
        self.assertEqual(ask_linked(tick(LATEST), take(first()), tick(LATEST), told()),
                         [DONE, KEPT, DONE, counted(pieces=1)])

    def test_the_beginning_is_the_first_to_come(self):
        self.assertEqual(ask_linked(take(later()), tick(20000), take(first()), tick(29999), tick(30000)),
                         [KEPT, DONE, KEPT, DONE, [0, *missing(first())]])

    def test_one_that_was_over_is_not_given_up(self):
        end = packet([1], place=2)
        self.assertEqual(ask_linked(take(first()), take(end), tick(30000), told())[2:], [DONE, counted(upward=1)])

    def test_the_same_name_again_begins_anew(self):
        end = packet([1], place=2)
        answered = ask_linked(take(first()), take(end), tick(20000), take(first()), tick(30000), tick(49999),
                              tick(50000))
        self.assertEqual(answered[2:], [DONE, KEPT, DONE, DONE, [0, *missing(first())]])

    def test_several_at_once_the_oldest_first(self):
        calls = []
        for n, name in enumerate((7, 3, 9, 1)):
            calls += [tick(n), take(first(name)), take(later(name))]
        answered = ask_linked(*calls, tick(30001), told(), tick(30003), told())
        self.assertEqual(answered[12:], [[0, *missing(first(7), 0), *missing(first(3), 1)], counted(pieces=2, name=2),
                                         [0, *missing(first(9), 2), *missing(first(1), 3)], counted(name=4)])

    def test_several_of_one_time_in_the_order_that_they_began_in(self):
        names = (7, 3, 9, 1)
        answered = ask_linked(*[take(later(name)) for name in names], *[take(first(name)) for name in sorted(names)],
                              tick(30000))
        self.assertEqual(answered[-1], [0] + [number for n, name in enumerate(names)
                                              for number in missing(first(name), n)])

    def test_64_at_once(self):
        calls = [take(first(name)) for name in range(64)]
        answered = ask_linked(*calls, tick(30000), told())
        self.assertEqual(answered[64], [0] + [number for n in range(64) for number in missing(first(n), n)])
        self.assertEqual(answered[65], counted(name=64))

    def test_about_the_oldest_of_65_no_error_goes_back(self):
        calls = [take(first(name)) for name in range(65)]
        answered = ask_linked(*calls, tick(30000))
        self.assertEqual(answered[64], KEPT)
        self.assertEqual(answered[65], [0] + [number for n in range(64) for number in missing(first(n + 1), n)])

    def test_one_that_is_spoiled(self):
        spoiling = packet(filled(8), flags=MORE)
        self.assertEqual(ask_linked(take(first()), take(spoiling), take(first(1)), tick(30000), told()),
                         [KEPT, DROPPED, KEPT, [0, *missing(first(1))], counted(name=1, stopped=1)])

    def test_one_without_its_first_piece(self):
        self.assertEqual(ask_linked(take(later()), take(first(1)), tick(30000), told())[2:],
                         [[0, *missing(first(1))], counted(name=1)])

    def test_what_was_given_up_is_forgotten(self):
        end = packet([1], place=2)
        self.assertEqual(ask_linked(take(first()), tick(30000), take(end), take(first()))[2:],
                         [KEPT, [1, 0, 0, *first()[:20], 17, *first()[20:], 1]])


class ErrorBackTest(unittest.TestCase):
    def test_about_the_first_piece_as_it_came(self):
        data = packet(filled(80), 4, hops=3, flags=MORE + UNCUT, name=99)
        again = packet(filled(80), 4, hops=2, flags=MORE, name=99)
        behind = packet(filled(8), 4, flags=MORE, name=99, place=10)
        self.assertEqual(ask_linked(take(behind), take(data), take(again), tick(30000))[3], [0, *missing(data)])

    def test_none_about_an_error_or_what_was_to_everybody(self):
        self.assertEqual(ask_linked(take(first(what=1)), take(first(to=EVERYBODY)), tick(30000), told()),
                         [KEPT, KEPT, DONE, counted()])

    def test_none_where_no_way_leads_to_who_sent_it(self):
        self.assertEqual(ask_linked(take(first(sender=OTHER)), tick(30000), told()), [KEPT, DONE, counted()])

    def test_by_the_way_that_is_there_then(self):
        data = first(sender=OTHER)
        self.assertEqual(ask_linked(take(data), way(0, 0, 0, ROUTER), tick(30000))[2],
                         [0, *sent(0, ROUTER, error_packet(5, 0, data, HERE, OTHER))])

    def test_to_the_machine_itself(self):
        data = first(sender=THERE)
        self.assertEqual(ask_linked(take(data), tick(30000)),
                         [KEPT, [0, *upward(4, error_packet(5, 0, data, THERE, THERE))]])

    def test_where_its_link_is_off_by_then(self):
        data = first(to=THERE, sender=HERE + 1)
        self.assertEqual(ask_linked(take(data), link(1, 0), tick(30000))[2],
                         [0, *sent(0, HERE + 1, error_packet(5, 0, data, HERE, HERE + 1))])


class ToldTest(unittest.TestCase):
    def test_at_first_and_behind_new(self):
        self.assertEqual(ask(told(), told()), [counted(), counted()])
        calls = [*LINKS, pass_on(1), way(0, 0, 0, ROUTER), send(), take(packet()), take(packet(to=OTHER)),
                 take(packet(to=OTHER, hops=1)), take(first())]
        self.assertEqual(ask(*calls, told(), new(), told())[-3:], [counted(1, 1, 2, 1, 1, 1), DONE, counted()])

    def test_ways(self):
        answered = ask(way(0, 0, 0), told(), way(0, 0, 1), told(), way(0, 1, 1), told(), away(0, 0), told(), away(0, 0),
                       told(), link(0, HERE), told())
        self.assertEqual(answered[1::2], [counted(ways=n) for n in (1, 1, 2, 1, 1, 1)])

    def test_how_often_take_has_answered_what(self):
        answered = ask(*LINKS, pass_on(1), take(packet()), take(packet()), told(), take(packet(to=FAR)), told(),
                       take(packet(to=OTHER)), told(), take(packet([1], 1)), told(), take(first()), take(first()),
                       told(), take(packet(to=FAR, hops=1), 1), told())
        self.assertEqual([answer for answer in answered if len(answer) == 7],
                         [counted(upward=2), counted(upward=2, passed=1),
                          counted(name=1, upward=2, passed=1, stopped=1),
                          counted(name=1, upward=2, passed=1, stopped=2),
                          counted(name=1, pieces=1, upward=2, passed=1, stopped=2),
                          counted(name=2, pieces=1, upward=2, passed=1, stopped=3)])

    def test_what_is_told_upward_or_sent_otherwise_counts_nothing(self):
        self.assertEqual(ask_linked(send(to=HERE), send(), error(packet(sender=HERE)), error(packet()), take(first()),
                                    tick(30000), told())[-1], counted(name=5))

    def test_refusals_count_nothing(self):
        refused = [take(packet(), 4), take(packet(), 2), take([]), send(what=0), send(by=2), send(to=EVERYBODY),
                   send(to=OTHER), send(filled(600), uncut=1), error([]), error(packet(), 6), way(1, 0, 0), away(0, 0),
                   best(OTHER), pass_on(2), link(4, 0)]
        answered = ask_linked(*refused, told())
        self.assertEqual([len(answer) for answer in answered[:-1]], [1] * len(refused))
        self.assertTrue(all(answer[0] < 0 for answer in answered[:-1]))
        self.assertEqual(answered[-1], counted())
