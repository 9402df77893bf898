"""Points 4 and 1 and the interface of benchrota/hands.py: the foremost of some hands."""

import inspect
import itertools
import unittest

from benchrota.hands import foremost_of

HUGE = 10 ** 100 - 1


class Foremost(unittest.TestCase):
    def check(self, ranks, some, expected):
        # In every order, as the order in which the hands are named is no matter.
        for order in itertools.permutations(some):
            answer = foremost_of(ranks, list(order))
            self.assertEqual(answer, expected, (ranks, order))
            self.assertIs(type(answer), type(expected))

    def test_none_of_no_hands(self):
        self.check([], [], None)
        self.check([5], [], None)
        self.check([3, 1, 2], [], None)

    def test_one_place(self):
        self.check([7], [0], 0)
        self.check([0], [0], 0)
        self.check([-7], [0], 0)
        self.check([9, 1, 5], [1], 1)
        self.check([9, 1, 5], [2], 2)

    def test_the_greatest_rank_wherever_it_stands(self):
        self.check([1, 2, 3], [0, 1, 2], 2)
        self.check([3, 2, 1], [0, 1, 2], 0)
        self.check([1, 3, 2], [0, 1, 2], 1)

    def test_the_least_place_of_the_same_greatest_rank(self):
        self.check([4, 4], [0, 1], 0)
        self.check([1, 4, 4, 4], [0, 1, 2, 3], 1)
        self.check([4, 1, 4], [0, 1, 2], 0)
        self.check([0, 0, 0, 0], [1, 2, 3], 1)

    def test_the_same_lesser_rank_is_no_matter(self):
        self.check([2, 2, 3, 2], [0, 1, 2, 3], 2)

    def test_only_the_hands_that_are_named(self):
        self.check([9, 1, 5, 5, 8], [1, 2, 3], 2)
        self.check([9, 9, 5, 3], [2, 3], 2)
        self.check([9, 1, 5, 5, 8], [0, 1, 2, 3, 4], 0)

    def test_ranks_below_nought(self):
        self.check([-3, -1, -2], [0, 1, 2], 1)
        self.check([-3, -1, -1], [0, 1, 2], 1)
        self.check([-1, 0, 1], [0, 1], 1)
        self.check([-5, 4, -6], [0, 2], 0)

    def test_ranks_of_a_hundred_figures(self):
        self.assertEqual(len(str(HUGE)), 100)
        self.check([HUGE - 1, HUGE, HUGE - 1], [0, 1, 2], 1)
        self.check([-HUGE, 1 - HUGE, -HUGE], [0, 1, 2], 1)
        self.check([-HUGE, HUGE], [0, 1], 1)
        self.check([HUGE, -HUGE], [0, 1], 0)
        self.check([-HUGE, 0, HUGE, HUGE], [0, 1, 2, 3], 2)
        self.check([0, -HUGE, -HUGE], [1, 2], 1)

    def test_a_hundred_hands(self):
        ranks = [place * 37 % 100 for place in range(100)]
        self.assertEqual(foremost_of(ranks, list(range(100))), ranks.index(99))
        self.assertEqual(foremost_of(ranks, list(range(99, -1, -1))), ranks.index(99))
        self.assertEqual(foremost_of([6] * 100, list(range(99, -1, -1))), 0)
        self.assertEqual(foremost_of([6] * 100, list(range(99, 41, -1))), 42)

    def test_beyond_the_bounds_nothing_is_refused(self):
        beyond = 10 ** 120
        self.check([beyond, beyond + 1, -beyond], [0, 1, 2], 1)
        self.assertEqual(foremost_of(list(range(130)), list(range(130))), 129)
        self.assertEqual(foremost_of([0] * 130, list(range(129, 99, -1))), 100)

    def test_every_small_case_against_the_words_of_point_4(self):
        for many in range(1, 5):
            for ranks in itertools.product((-1, 0, 1), repeat=many):
                for length in range(1, many + 1):
                    for some in itertools.permutations(range(many), length):
                        greatest = max(ranks[place] for place in some)
                        expected = [place for place in range(many) if place in some and ranks[place] == greatest][0]
                        self.assertEqual(foremost_of(list(ranks), list(some)), expected, (ranks, some))


class HowItIsCalled(unittest.TestCase):
    def test_the_arguments_have_their_names_and_no_defaults(self):
        parameters = inspect.signature(foremost_of).parameters
        self.assertEqual(list(parameters), ["ranks", "some"])
        for parameter in parameters.values():
            self.assertIs(parameter.default, inspect.Parameter.empty)
        self.assertEqual(foremost_of(ranks=[1, 2], some=[0, 1]), 1)

    def test_both_lists_are_as_they_were(self):
        for ranks, some in (([3, 1, 3, -2], [3, 2, 0, 1]), ([HUGE, -HUGE], [1, 0]), ([1, 2], []), ([], [])):
            ranks_before, some_before = list(ranks), list(some)
            foremost_of(ranks, some)
            self.assertEqual(ranks, ranks_before)
            self.assertEqual(some, some_before)

    def test_nothing_is_kept_from_call_to_call(self):
        self.assertEqual(foremost_of([1, 9], [0, 1]), 1)
        self.assertEqual(foremost_of([1, 0], [1, 0]), 0)
        self.assertIsNone(foremost_of([1, 0], []))
        self.assertEqual(foremost_of([1, 9], [0, 1]), 1)


if __name__ == "__main__":
    unittest.main()
