"""The interface: how calls and answers are laid out, and what a list of calls leaves behind."""

import contextlib
import io
import unittest

from linkpieces.desk import answers
from tests.asking import (DONE, EVERYBODY, HERE, NET, NOT_THERE, ROUTER, WRONG, ask, away, best, found, link, new,
                          pass_on, way)

SOME_OF_ALL = [1, 0, HERE, 8, 1500, 2, 1, 3, 0, 0, 0, ROUTER, 5, 7, 5, 0, 4, 0, 0, 4, 0, 0, 0, 5, HERE]
THEIR_ANSWERS = [1, 0, 1, 0, 1, 0, 4, 0, 0, ROUTER, 0, 1, -1, 1, 0, 1, -2, 1, 0, 1, -2]


class LayoutTest(unittest.TestCase):
    def test_each_call_alone(self):
        self.assertEqual(answers([0]), [1, 0])
        self.assertEqual(answers([1, 0, HERE, 24, 1500]), [1, 0])
        self.assertEqual(answers([2, 1]), [1, 0])
        self.assertEqual(answers([3, NET, 8, 0, 0]), [1, 0])
        self.assertEqual(answers([4, NET, 8]), [1, -2])
        self.assertEqual(answers([5, HERE]), [1, -2])

    def test_one_behind_another(self):
        self.assertEqual(answers(list(SOME_OF_ALL)), THEIR_ANSWERS)

    def test_what_best_answers(self):
        self.assertEqual(answers([1, 3, HERE, 24, 68, 5, ROUTER]), [1, 0, 4, 0, 3, ROUTER, 24])

    def test_a_refusal_stands_alone(self):
        self.assertEqual(answers([5, 0, 5, EVERYBODY, 2, 2]), [1, -1, 1, -1, 1, -1])

    def test_400_calls(self):
        self.assertEqual(answers([0] * 400), [1, 0] * 400)

    def test_answers_are_a_list_of_plain_whole_numbers(self):
        answered = answers(list(SOME_OF_ALL))
        self.assertIs(type(answered), list)
        self.assertEqual({type(number) for number in answered}, {int})


class KeptTest(unittest.TestCase):
    def test_the_list_is_as_it_was(self):
        calls = list(SOME_OF_ALL)
        answers(calls)
        self.assertEqual(calls, SOME_OF_ALL)

    def test_the_answers_are_another_list(self):
        calls = [0]
        answered = answers(calls)
        answered.append(7)
        self.assertEqual(calls, [0])
        self.assertEqual(answers(calls), [1, 0])

    def test_asked_twice_the_answers_are_the_same(self):
        calls = list(SOME_OF_ALL)
        self.assertEqual([answers(calls), answers(calls)], [THEIR_ANSWERS, THEIR_ANSWERS])

    def test_nothing_is_kept_from_one_list_to_the_next(self):
        ask(link(0, HERE), way(0, 0, 0, 5), pass_on(1))
        self.assertEqual(ask(best(HERE), away(0, 0), link(0, HERE), best(7)), [NOT_THERE, NOT_THERE, DONE, NOT_THERE])

    def test_nothing_is_printed(self):
        out, err = io.StringIO(), io.StringIO()
        with contextlib.redirect_stdout(out), contextlib.redirect_stderr(err):
            answers(list(SOME_OF_ALL))
        self.assertEqual((out.getvalue(), err.getvalue()), ("", ""))


class SequenceTest(unittest.TestCase):
    refused = [link(4, HERE), link(0, EVERYBODY), link(0, HERE, 33), link(0, HERE, 8, 67), link(-1, 0), pass_on(2),
               way(HERE, 8, 0), way(0, 33, 0), way(0, 0, 4), way(0, 0, 1, EVERYBODY), away(HERE, 8), away(0, -1),
               away(NET, 9), best(0), best(EVERYBODY)]

    def test_refusals_leave_all_as_it_was(self):
        calls = [link(0, HERE, 8), link(1, 0x0B000001, 16), pass_on(1), way(0, 0, 1, 5), way(NET, 16, 1, 6),
                 away(0, 0), way(0, 0, 0, 7), best(HERE), best(0x0A010000), best(0x0B000002), best(9)]
        mixed = [part for call in calls for part in (*self.refused, call)]
        answered = ask(*mixed)
        behind = len(self.refused)
        self.assertEqual(answered[behind::behind + 1], ask(*calls))
        wanted = [NOT_THERE if call == away(NET, 9) else WRONG for call in self.refused]
        for at in range(0, len(answered), behind + 1):
            self.assertEqual(answered[at:at + behind], wanted)

    def test_what_each_call_leaves_is_there_for_the_next(self):
        told = ask(way(NET, 8, 1, 5), best(HERE), link(1, 9, 32), best(HERE), link(0, HERE, 8), best(HERE),
                   link(0, 0), best(HERE), away(NET, 8), best(HERE), best(9))
        self.assertEqual(told, [DONE, NOT_THERE, DONE, found(1, 5, 8), DONE, found(0, HERE, 8), DONE, found(1, 5, 8),
                                DONE, NOT_THERE, found(1, 9, 32)])

    def test_new_in_the_middle(self):
        told = ask(link(1, 9, 32), way(0, 0, 1, 5), best(HERE), new(), best(HERE), best(9), link(1, 9, 32),
                   best(HERE), way(0, 0, 1, 6), best(HERE))
        self.assertEqual(told, [DONE, DONE, found(1, 5, 0), DONE, NOT_THERE, NOT_THERE, DONE, NOT_THERE, DONE,
                                found(1, 6, 0)])
