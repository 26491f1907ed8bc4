"""The interface: how calls and answers are laid out, and what a list of calls leaves behind."""

import contextlib
import io
import unittest

from linkpieces.desk import answers
from tests.asking import (DONE, EVERYBODY, FAR, HERE, MORE, NET, NOT_AS_TOLD, NOT_THERE, OTHER, ROUTER, THERE, WRONG,
                          ask, away, best, counted, error, error_packet, filled, found, link, new, packet, pass_on,
                          send, sent, take, tick, told, upward, way)

# A head from 0.0.0.9 to HERE, number by number, with a body of three.
COMES = [0x51, 64, 2, 0, 0, 23, 0, 0, 0, 0, 0xA2, 0x9E, 0, 0, 0, 9, 10, 0, 0, 1, 1, 2, 3]
SOME_OF_ALL = [1, 0, HERE, 8, 1500, 2, 1, 3, 0, 0, 0, ROUTER, 5, 7, 5, 0, 7, 0, 23, *COMES, 7, 0, 1, 0, 6, 2, 0, HERE,
               64, 0, -1, 1, 8, 6, 2, 0, HERE, 0, 0, -1, 0, 8, 4, 0, 0, 9, 7, 9, 6, 10, 4, 0, 0, 4, 0, 0, 0, 5, HERE]
GOES_UPWARD = [0x51, 64, 2, 0, 0, 21, 0, 0, 0, 0, 0x98, 0xA8, 10, 0, 0, 1, 10, 0, 0, 1]
THEIR_ANSWERS = [1, 0, 1, 0, 1, 0, 4, 0, 0, ROUTER, 0, 1, -1, 27, 1, 0, 0, *COMES[:20], 3, 1, 2, 3, 1, -3,
                 25, 0, 0, 4, *GOES_UPWARD, 1, 8, 1, -1, 1, -3, 1, 0, 1, -1, 7, 0, 1, 0, 1, 1, 0, 0,
                 1, 0, 1, -2, 1, 0, 1, -2]


class LayoutTest(unittest.TestCase):
    def test_each_call_alone(self):
        self.assertEqual(answers([0]), [1, 0])
        self.assertEqual(answers([1, 0, HERE, 24, 1500]), [1, 0])
        self.assertEqual(answers([2, 1]), [1, 0])
        self.assertEqual(answers([3, NET, 8, 0, 0]), [1, 0])
        self.assertEqual(answers([4, NET, 8]), [1, -2])
        self.assertEqual(answers([5, HERE]), [1, -2])
        self.assertEqual(answers([6, 2, 0, HERE, 64, 0, -1, 0]), [1, -2])
        self.assertEqual(answers([6, 2, 0, HERE, 64, 0, -1, 3, 7, 8, 9]), [1, -2])
        self.assertEqual(answers([7, 0, 0]), [1, -4])
        self.assertEqual(answers([7, 0, 2, 8, 9]), [1, -4])
        self.assertEqual(answers([8, 4, 0, 0]), [1, -3])
        self.assertEqual(answers([8, 4, 0, 2, 8, 9]), [1, -3])
        self.assertEqual(answers([9, 2 ** 63 - 1]), [1, 0])
        self.assertEqual(answers([10]), [7, 0, 0, 0, 0, 0, 0, 0])

    def test_a_refused_calls_row_is_read_over(self):
        for row in ([], [0], [10], [5, 5, 5], filled(500)):
            calls = [6, 0, 0, 0, 0, 0, 0, len(row), *row, 7, 9, len(row), *row, 8, 9, 0, len(row), *row, 10]
            self.assertEqual(answers(calls), [1, -1, 1, -1, 1, -1, 7, 0, 0, 0, 0, 0, 0, 0])

    def test_one_behind_another(self):
        self.assertEqual(answers(list(SOME_OF_ALL)), THEIR_ANSWERS)

    def test_what_best_answers(self):
        self.assertEqual(answers([1, 3, HERE, 24, 68, 5, ROUTER]), [1, 0, 4, 0, 3, ROUTER, 24])

    def test_a_refusal_stands_alone(self):
        self.assertEqual(answers([5, 0, 5, EVERYBODY, 2, 2]), [1, -1, 1, -1, 1, -1])

    def test_400_calls(self):
        self.assertEqual(answers([0] * 400), [1, 0] * 400)

    def test_answers_are_a_list_of_plain_whole_numbers(self):
        answered = answers(list(SOME_OF_ALL))
        self.assertIs(type(answered), list)
        self.assertEqual({type(number) for number in answered}, {int})


class KeptTest(unittest.TestCase):
    def test_the_list_is_as_it_was(self):
        calls = list(SOME_OF_ALL)
        answers(calls)
        self.assertEqual(calls, SOME_OF_ALL)

    def test_the_answers_are_another_list(self):
        calls = [0]
        answered = answers(calls)
        answered.append(7)
        self.assertEqual(calls, [0])
        self.assertEqual(answers(calls), [1, 0])

    def test_asked_twice_the_answers_are_the_same(self):
        calls = list(SOME_OF_ALL)
        self.assertEqual([answers(calls), answers(calls)], [THEIR_ANSWERS, THEIR_ANSWERS])

    def test_nothing_is_kept_from_one_list_to_the_next(self):
        ask(link(0, HERE), way(0, 0, 0, 5), pass_on(1))
        self.assertEqual(ask(best(HERE), away(0, 0), link(0, HERE), best(7)), [NOT_THERE, NOT_THERE, DONE, NOT_THERE])

    def test_no_packet_piece_name_time_or_count_is_kept_from_one_list_to_the_next(self):
        calls = [link(0, HERE), way(0, 0, 0, ROUTER), pass_on(1), tick(5), send(filled(2000)), take(packet()),
                 take(packet(filled(8), flags=MORE)), take(packet(to=OTHER)), take(packet(to=OTHER, hops=1)),
                 error(packet()), told()]
        numbers = [number for call in calls for number in call]
        as_it_was = list(numbers)
        answered = answers(numbers)
        self.assertEqual(numbers, as_it_was)
        self.assertEqual(answered[-8:], [7, *counted(1, 1, 3, 1, 1, 1)])
        self.assertEqual(answers(numbers), answered)
        self.assertEqual(numbers, as_it_was)
        self.assertEqual(ask(told(), tick(0), link(0, HERE), take(packet(filled(3), place=1)), told()),
                         [counted(), DONE, DONE, [3], counted(pieces=1)])

    def test_nothing_is_printed(self):
        out, err = io.StringIO(), io.StringIO()
        with contextlib.redirect_stdout(out), contextlib.redirect_stderr(err):
            answers(list(SOME_OF_ALL))
        self.assertEqual((out.getvalue(), err.getvalue()), ("", ""))


class SequenceTest(unittest.TestCase):
    refused_later = [send(what=0), send(what=5), send(sender=EVERYBODY), send(to=0), send(hops=0), send(hops=256),
                     send(uncut=2), send(by=-2), send(by=4), send(by=3), send(to=EVERYBODY), send(to=0x0D000001),
                     send(filled(800), uncut=1), take(packet(), 4), take(packet(), 3), take(packet()[:19]),
                     take(packet(wrong_sum=0)), take(packet(filled(7), flags=MORE)), error(packet(), 0),
                     error(packet(), 6), error(packet() + [0]), error(packet(wrong_sum=0)), tick(0)]
    refused = [link(4, HERE), link(0, EVERYBODY), link(0, HERE, 33), link(0, HERE, 8, 67), link(-1, 0), pass_on(2),
               way(HERE, 8, 0), way(0, 33, 0), way(0, 0, 4), way(0, 0, 1, EVERYBODY), away(HERE, 8), away(0, -1),
               away(NET, 9), best(0), best(EVERYBODY)]

    def test_refusals_leave_all_as_it_was(self):
        calls = [link(0, HERE, 8), link(1, 0x0B000001, 16), pass_on(1), way(0, 0, 1, 5), way(NET, 16, 1, 6),
                 away(0, 0), way(0, 0, 0, 7), best(HERE), best(0x0A010000), best(0x0B000002), best(9)]
        mixed = [part for call in calls for part in (*self.refused, call)]
        answered = ask(*mixed)
        behind = len(self.refused)
        self.assertEqual(answered[behind::behind + 1], ask(*calls))
        wanted = [NOT_THERE if call == away(NET, 9) else WRONG for call in self.refused]
        for at in range(0, len(answered), behind + 1):
            self.assertEqual(answered[at:at + behind], wanted)

    def test_refusals_leave_packets_pieces_names_and_counts_as_they_were(self):
        first, end = packet(filled(8), flags=MORE), packet(filled(3), place=1)
        calls = [send(filled(1000)), take(first), take(packet(to=OTHER)), take(packet(to=OTHER, hops=1)), told(),
                 take(end), take(packet(filled(8), flags=MORE, name=9)), error(packet()), send(to=HERE, uncut=1),
                 take(packet([1], 1)), told(), tick(30001), told()]
        # Told way by way, so that 0x0D000001 has none; and a time to go back from.
        before = [link(0, HERE), link(1, THERE, 24, 600), way(OTHER, 32, 0, ROUTER), pass_on(1), tick(1)]
        plain = ask(*before, *calls)[len(before):]
        behind = len(self.refused_later)
        mixed = [part for call in calls for part in (*self.refused_later, call)]
        answered = ask(*before, *mixed)[len(before):]
        self.assertEqual(answered[behind::behind + 1], plain)
        wanted = [[-1]] * 9 + [[-4], [-2], [-2], [-7], [-1], [-4], [-3], [-3], [-3], [-1], [-1], [-3], [-3], [-1]]
        for at in range(0, len(answered), behind + 1):
            self.assertEqual(answered[at:at + behind], wanted)
        self.assertEqual([answer[0] for answer in plain], [0, 3, 2, 4, 0, 1, 3, 0, 0, 5, 0, 0, 0])
        self.assertEqual(plain[-1], counted(1, 0, 5, 1, 1, 2))

    def test_a_machine_through_all_it_does(self):
        longer = filled(700)
        coming = packet(filled(30), to=OTHER, hops=1)
        pieces = [packet(longer[:400], 3, flags=MORE), packet(longer[400:], 3, place=50)]
        answered = ask(link(0, HERE), link(1, THERE, 24, 600), way(0, 0, 0, ROUTER), send(longer), take(coming, 1),
                       pass_on(1), take(coming, 1), take(pieces[1]), take([0]), take(pieces[0], 1), send(to=HERE),
                       told(), link(1, 0), send(), take(packet(), 1), best(FAR), new(), told(), send())
        self.assertEqual(answered[3], [0, *sent(1, FAR, packet(longer[:576], sender=THERE, to=FAR, flags=MORE),
                                                packet(longer[576:], sender=THERE, to=FAR, place=72))])
        self.assertEqual(answered[4:9], [[5], DONE, [4, *sent(1, FAR, error_packet(2, 0, coming, THERE, FAR, 1))], [3],
                                         NOT_AS_TOLD])
        self.assertEqual(answered[9], [1, 0, 1, *pieces[0][:20], 700, *longer])
        self.assertEqual(answered[10:13], [[0, *upward(4, packet(sender=HERE, to=HERE, name=2))],
                                           counted(ways=1, name=3, upward=1, stopped=2), DONE])
        self.assertEqual(answered[13:], [[0, *sent(0, ROUTER, packet(sender=HERE, to=FAR, name=3))], [-4],
                                         found(0, ROUTER, 0), DONE, counted(), NOT_THERE])

    def test_what_one_machine_sends_another_takes(self):
        body = filled(3000)
        for fits in (68, 75, 1500):
            answer = ask(link(0, FAR, 8, fits), send(body, 3, to=FAR + 1))[1]
            packets = []
            at = 1
            while at < len(answer):
                self.assertEqual(answer[at:at + 3], [1, 0, FAR + 1])
                packets.append(answer[at + 4:at + 4 + answer[at + 3]])
                at += 4 + answer[at + 3]
            taken = ask(link(2, FAR + 1, 8, 68), *[take(data, 2) for data in packets])[1:]
            self.assertEqual(taken[:-1], [[3]] * (len(packets) - 1))
            self.assertEqual(taken[-1], [1, 0, 2, *packets[0][:20], 3000, *body])

    def test_what_each_call_leaves_is_there_for_the_next(self):
        told = ask(way(NET, 8, 1, 5), best(HERE), link(1, 9, 32), best(HERE), link(0, HERE, 8), best(HERE),
                   link(0, 0), best(HERE), away(NET, 8), best(HERE), best(9))
        self.assertEqual(told, [DONE, NOT_THERE, DONE, found(1, 5, 8), DONE, found(0, HERE, 8), DONE, found(1, 5, 8),
                                DONE, NOT_THERE, found(1, 9, 32)])

    def test_new_in_the_middle_sets_back_what_is_kept(self):
        calls = [tick(7), link(0, HERE), pass_on(1), way(0, 0, 0, ROUTER), send(uncut=1),
                 take(packet(filled(8), flags=MORE)), take(packet(to=OTHER)), take(packet(to=OTHER, hops=1)),
                 take(packet(filled(3), place=1, name=1)), told(), take(packet(filled(3), place=1)), tick(8), told()]
        self.assertEqual(ask(*calls, new(), *calls), ask(*calls) + [DONE] + ask(*calls))
        self.assertEqual(ask(*calls)[-1], counted(1, 1, 2, 1, 1, 1))
        behind = [take(packet()), link(0, HERE), take(packet(to=OTHER)), tick(0), told()]
        self.assertEqual(ask(*calls, new(), *behind)[14:], [[-4], DONE, [5], DONE, counted(stopped=1)])

    def test_new_in_the_middle(self):
        told = ask(link(1, 9, 32), way(0, 0, 1, 5), best(HERE), new(), best(HERE), best(9), link(1, 9, 32),
                   best(HERE), way(0, 0, 1, 6), best(HERE))
        self.assertEqual(told, [DONE, DONE, found(1, 5, 0), DONE, NOT_THERE, NOT_THERE, DONE, NOT_THERE, DONE,
                                found(1, 6, 0)])
