"""Points 1, 6, 7, 9 and 13 and the interface of benchrota/chains.py: rows, rings, lent ranks and heirs."""

import copy
import inspect
import itertools
import random
import unittest

from benchrota.chains import heir_of, led_to, lent_rank, ring_of
from words import callers_by_the_words, heir_by_the_words, ring_by_the_words, row_by_the_words

HUGE = 10 ** 100 - 1

# 0 waits for 1, and 1 for 2, which doesn't wait; 3 has nothing to do with them.
LINE_HELD = [(10, 1), (20, 2)]
LINE_WAITS = [(0, 10), (1, 20)]

# 0 waits for 2, 2 for 1, and 1 for 0; 3 waits for 1, and 4 for 3, so that both hang on the ring.
RING_HELD = [(10, 0), (11, 1), (12, 2), (13, 3)]
RING_WAITS = [(0, 12), (1, 10), (2, 11), (3, 11), (4, 13)]

# 5 waits for 2, 2 for 7, and 7 for 5; 0 waits for 5, and 6 doesn't wait.
LATE_RING_HELD = [(1, 5), (2, 2), (3, 7), (4, 6)]
LATE_RING_WAITS = [(0, 1), (5, 2), (2, 3), (7, 1)]

# 1 waits for itself, and 0 waits for 1.
ALONE_HELD = [(4, 1), (5, 2)]
ALONE_WAITS = [(1, 4), (0, 4)]


class Orders(unittest.TestCase):
    def check(self, asked, held, waits, expected):
        # Every order of so short lists, as they may be handed in in any.
        for some_held in itertools.permutations(held):
            for some_waits in itertools.permutations(waits):
                answer = asked(list(some_held), list(some_waits))
                self.assertEqual(answer, expected, (some_held, some_waits))
                self.assertIs(type(answer), type(expected))


class Rows(Orders):
    def check_row(self, held, waits, hand, expected):
        self.check(lambda some_held, some_waits: led_to(some_held, some_waits, hand), held, waits, expected)

    def test_who_does_not_wait_is_alone(self):
        self.check_row([], [], 0, [0])
        self.check_row([], [], 7, [7])
        self.check_row([(3, 0)], [], 0, [0])
        self.check_row(LINE_HELD, LINE_WAITS, 2, [2])
        self.check_row(LINE_HELD, LINE_WAITS, 3, [3])

    def test_ends_with_the_first_that_does_not_wait(self):
        self.check_row(LINE_HELD, LINE_WAITS, 0, [0, 1, 2])
        self.check_row(LINE_HELD, LINE_WAITS, 1, [1, 2])

    def test_from_within_a_ring(self):
        self.check_row(RING_HELD, RING_WAITS, 0, [0, 2, 1])
        self.check_row(RING_HELD, RING_WAITS, 1, [1, 0, 2])
        self.check_row(RING_HELD, RING_WAITS, 2, [2, 1, 0])

    def test_from_outside_into_a_ring(self):
        self.check_row(RING_HELD, RING_WAITS, 3, [3, 1, 0, 2])
        self.check_row(RING_HELD, RING_WAITS, 4, [4, 3, 1, 0, 2])
        self.check_row(LATE_RING_HELD, LATE_RING_WAITS, 0, [0, 5, 2, 7])

    def test_of_one_that_waits_for_itself(self):
        self.check_row(ALONE_HELD, ALONE_WAITS, 1, [1])
        self.check_row(ALONE_HELD, ALONE_WAITS, 0, [0, 1])
        self.check_row([(0, 0)], [(0, 0)], 0, [0])

    def test_two_that_wait_for_one_tool_or_for_two_of_one_hand(self):
        for held, waits in (([(5, 2)], [(0, 5), (1, 5)]), ([(5, 2), (6, 2)], [(0, 5), (1, 6)])):
            self.check_row(held, waits, 0, [0, 2])
            self.check_row(held, waits, 1, [1, 2])

    def test_tools_of_a_hundred_figures_and_any_sign(self):
        held = [(HUGE, 1), (-HUGE, 2), (HUGE - 1, 3)]
        self.check_row(held, [(0, HUGE), (1, -HUGE)], 0, [0, 1, 2])
        self.check_row(held, [(0, HUGE - 1), (1, -HUGE)], 0, [0, 3])


class Rings(Orders):
    def check_ring(self, held, waits, hand, expected):
        self.check(lambda some_held, some_waits: ring_of(some_held, some_waits, hand), held, waits, expected)

    def test_none_where_the_row_ends(self):
        self.check_ring([], [], 0, None)
        self.check_ring([(3, 0)], [], 0, None)
        for hand in range(4):
            self.check_ring(LINE_HELD, LINE_WAITS, hand, None)

    def test_from_the_least_place_in_the_order_of_waiting(self):
        for hand in range(3):
            self.check_ring(RING_HELD, RING_WAITS, hand, [0, 2, 1])
        for hand in (2, 5, 7):
            self.check_ring(LATE_RING_HELD, LATE_RING_WAITS, hand, [2, 7, 5])

    def test_of_those_who_hang_on_it_without_being_part(self):
        self.check_ring(RING_HELD, RING_WAITS, 3, [0, 2, 1])
        self.check_ring(RING_HELD, RING_WAITS, 4, [0, 2, 1])
        self.check_ring(LATE_RING_HELD, LATE_RING_WAITS, 0, [2, 7, 5])

    def test_none_for_one_beside_a_ring(self):
        self.check_ring(RING_HELD, RING_WAITS, 5, None)
        self.check_ring(LATE_RING_HELD, LATE_RING_WAITS, 6, None)
        self.check_ring(LATE_RING_HELD, LATE_RING_WAITS, 1, None)

    def test_one_that_waits_for_itself(self):
        self.check_ring(ALONE_HELD, ALONE_WAITS, 1, [1])
        self.check_ring(ALONE_HELD, ALONE_WAITS, 0, [1])
        self.check_ring(ALONE_HELD, ALONE_WAITS, 2, None)
        self.check_ring([(0, 0)], [(0, 0)], 0, [0])

    def test_two_rings(self):
        held = [(1, 0), (2, 3), (3, 1), (4, 2)]
        waits = [(0, 2), (3, 1), (1, 4), (2, 3)]
        self.check_ring(held, waits, 0, [0, 3])
        self.check_ring(held, waits, 3, [0, 3])
        self.check_ring(held, waits, 1, [1, 2])
        self.check_ring(held, waits, 2, [1, 2])


class LentRanks(Orders):
    def check_lent(self, ranks, held, waits, expected):
        for hand, lent in enumerate(expected):
            self.check(lambda some_held, some_waits: lent_rank(ranks, some_held, some_waits, hand), held, waits, lent)

    def test_its_own_where_nobody_calls(self):
        self.check_lent([4], [], [], [4])
        self.check_lent([4, -6, 0], [(1, 1)], [], [4, -6, 0])

    def test_along_a_line(self):
        self.check_lent([9, 1, 2, 50], LINE_HELD, LINE_WAITS, [9, 9, 9, 50])
        self.check_lent([1, 9, 2, 50], LINE_HELD, LINE_WAITS, [1, 9, 9, 50])
        self.check_lent([1, 2, 9, 50], LINE_HELD, LINE_WAITS, [1, 2, 9, 50])

    def test_of_several_that_wait_for_one(self):
        self.check_lent([-5, -3, -9], [(1, 2)], [(0, 1), (1, 1)], [-5, -3, -3])
        self.check_lent([-3, -5, -9], [(1, 2), (2, 2)], [(0, 1), (1, 2)], [-3, -5, -3])

    def test_round_a_ring_and_from_outside_it(self):
        self.check_lent([1, 2, 3, 0, 0], RING_HELD, RING_WAITS, [3, 3, 3, 0, 0])
        self.check_lent([1, 2, 3, 7, 0], RING_HELD, RING_WAITS, [7, 7, 7, 7, 0])
        self.check_lent([1, 2, 3, 7, 8], RING_HELD, RING_WAITS, [8, 8, 8, 8, 8])
        self.check_lent([6, 5, 9], ALONE_HELD, ALONE_WAITS, [6, 6, 9])

    def test_ranks_of_a_hundred_figures(self):
        self.check_lent([HUGE, -HUGE, 0, 1], LINE_HELD, LINE_WAITS, [HUGE, HUGE, HUGE, 1])
        self.check_lent([-HUGE, 1 - HUGE, -HUGE, 1], LINE_HELD, LINE_WAITS, [-HUGE, 1 - HUGE, 1 - HUGE, 1])


class Heirs(Orders):
    def check_heir(self, ranks, held, waits, tool, expected):
        self.check(lambda some_held, some_waits: heir_of(ranks, some_held, some_waits, tool), held, waits, expected)

    def test_none_where_nobody_waits_for_it(self):
        self.check_heir([1], [], [], 4, None)
        self.check_heir([1, 2], [(4, 0)], [], 4, None)
        self.check_heir([1, 2, 3], [(4, 0), (5, 0)], [(1, 5), (2, 5)], 4, None)
        self.check_heir([1, 2, 3], [(5, 0)], [(1, 5)], 4, None)

    def test_the_one_that_waits(self):
        self.check_heir([9, 1], [(4, 0)], [(1, 4)], 4, 1)
        self.check_heir([1, 9], [(4, 1)], [(0, 4)], 4, 0)
        self.check_heir([1, 9, 9], [(4, 1), (5, 1)], [(0, 4), (2, 5)], 4, 0)

    def test_the_greatest_rank_of_several(self):
        self.check_heir([3, 5, 4, 9], [(4, 3)], [(0, 4), (1, 4), (2, 4)], 4, 1)
        self.check_heir([-3, -5, -2, 9], [(4, 3)], [(0, 4), (1, 4), (2, 4)], 4, 2)

    def test_the_least_place_of_the_same_rank(self):
        self.check_heir([9, 5, 5, 5], [(4, 0)], [(1, 4), (2, 4), (3, 4)], 4, 1)
        self.check_heir([9, 4, 5, 5], [(4, 0)], [(1, 4), (2, 4), (3, 4)], 4, 2)
        self.check_heir([0, 0], [(4, 1)], [(0, 4)], 4, 0)

    def test_a_lesser_one_whose_caller_is_the_foremost(self):
        # 3 waits for 2, so that 2 is called by rank 7, and 1 by its own rank 5 alone.
        held = [(1, 0), (2, 2)]
        waits = [(1, 1), (2, 1), (3, 2)]
        self.check_heir([0, 5, 3, 7], held, waits, 1, 2)
        self.check_heir([0, 5, 3, 4], held, waits, 1, 1)
        self.check_heir([0, 5, 3, 5], held, waits, 1, 1)
        self.check_heir([0, 5, 3, 7], held, waits, 2, 3)

    def test_a_caller_that_calls_through_others(self):
        # 4 waits for 3, 3 for 2, and 2 for the tool 1; 0 waits for it by itself.
        held = [(1, 5), (2, 2), (3, 3)]
        waits = [(0, 1), (2, 1), (3, 2), (4, 3)]
        self.check_heir([5, 0, 1, 2, 6, 0], held, waits, 1, 2)
        self.check_heir([7, 0, 1, 2, 6, 0], held, waits, 1, 0)

    def test_of_callers_with_the_same_rank_the_place_of_the_caller_tells(self):
        # 2 calls 1, and 0 calls 4; both callers have rank 5, and 0 is the least of them.
        held = [(9, 3), (1, 1), (4, 4)]
        waits = [(1, 9), (4, 9), (2, 1), (0, 4)]
        self.check_heir([5, 0, 5, 0, 0], held, waits, 9, 4)
        self.check_heir([4, 0, 5, 0, 0], held, waits, 9, 1)

    def test_the_rank_of_the_one_that_holds_it_is_no_matter(self):
        self.check_heir([HUGE, 1, 2], [(4, 0)], [(1, 4), (2, 4)], 4, 2)
        self.check_heir([-HUGE, 1, 2], [(4, 0)], [(1, 4), (2, 4)], 4, 2)

    def test_a_ring_beside_it_is_no_matter(self):
        # 3 and 4 wait for one another, whatever their ranks.
        held = [(4, 0), (7, 3), (8, 4)]
        self.check_heir([0, 1, 2, 50, 60], held, [(1, 4), (2, 4), (3, 8), (4, 7)], 4, 2)

    def test_numbers_of_a_hundred_figures(self):
        ranks = [0, HUGE - 1, HUGE, -HUGE]
        self.check_heir(ranks, [(-HUGE, 0)], [(1, -HUGE), (2, -HUGE), (3, -HUGE)], -HUGE, 2)
        self.check_heir(ranks, [(-HUGE, 0), (HUGE, 0)], [(1, -HUGE), (2, HUGE)], -HUGE, 1)


class ByTheWords(unittest.TestCase):
    def some_standings(self):
        chance = random.Random(20)
        for _ in range(1500):
            many = chance.randrange(1, 8)
            ranks = [chance.randrange(-2, 3) for _ in range(many)]
            held = [(tool, chance.randrange(many)) for tool in chance.sample(range(-6, 7), chance.randrange(7))]
            hands = chance.sample(range(many), chance.randrange(many + 1)) if held else []
            waits = [(hand, chance.choice(held)[0]) for hand in hands]
            yield ranks, held, waits

    def test_rows_rings_and_lent_ranks(self):
        for ranks, held, waits in self.some_standings():
            for hand in range(len(ranks)):
                told = (ranks, held, waits, hand)
                self.assertEqual(led_to(held, waits, hand), row_by_the_words(held, waits, hand)[0], told)
                self.assertEqual(ring_of(held, waits, hand), ring_by_the_words(held, waits, hand), told)
                lent = max(ranks[one] for one in callers_by_the_words(ranks, held, waits, hand))
                self.assertEqual(lent_rank(ranks, held, waits, hand), lent, told)

    def test_heirs(self):
        seen = 0
        for ranks, held, waits in self.some_standings():
            waiting = [hand for hand, tool in waits]
            for tool, holder in held:
                if holder not in waiting:
                    answer = heir_of(ranks, held, waits, tool)
                    self.assertEqual(answer, heir_by_the_words(ranks, held, waits, tool), (ranks, held, waits, tool))
                    seen += answer is not None
        self.assertGreater(seen, 300)


class ManyHands(unittest.TestCase):
    def check_line(self, many):
        # Each waits for the one behind it; the last doesn't wait.
        ranks = list(range(many, 0, -1))
        held = [(hand, hand) for hand in range(many)]
        waits = [(hand, hand + 1) for hand in range(many - 1)]
        self.assertEqual(led_to(held, waits, 0), list(range(many)))
        self.assertIsNone(ring_of(held, waits, 0))
        self.assertEqual(lent_rank(ranks, held, waits, many - 1), many)
        self.assertEqual(heir_of(ranks, held, waits, many - 1), many - 2)

    def check_round(self, many):
        # Each waits for the one ahead of it, and the first for the last.
        held = [(hand, hand) for hand in range(many)]
        waits = [(hand, (hand - 1) % many) for hand in range(many)]
        backwards = [0] + list(range(many - 1, 0, -1))
        self.assertEqual(led_to(held, waits, 0), backwards)
        self.assertEqual(led_to(held, waits, many - 1), list(range(many - 1, -1, -1)))
        for hand in range(many):
            self.assertEqual(ring_of(held, waits, hand), backwards)
            self.assertEqual(lent_rank(list(range(many)), held, waits, hand), many - 1)

    def test_a_hundred(self):
        self.check_line(100)
        self.check_round(100)

    def test_somewhat_beyond_nothing_is_refused(self):
        self.check_line(150)
        self.check_round(150)
        beyond = 10 ** 120
        self.assertEqual(lent_rank([beyond, -beyond], [(beyond, 1)], [(0, beyond)], 1), beyond)
        self.assertEqual(heir_of([beyond, -beyond], [(beyond, 1)], [(0, beyond)], beyond), 0)


class HowTheyAreCalled(unittest.TestCase):
    def test_the_arguments_have_their_names_and_no_defaults(self):
        for asked, names in (
            (led_to, ["held", "waits", "hand"]),
            (ring_of, ["held", "waits", "hand"]),
            (lent_rank, ["ranks", "held", "waits", "hand"]),
            (heir_of, ["ranks", "held", "waits", "tool"]),
        ):
            parameters = inspect.signature(asked).parameters
            self.assertEqual(list(parameters), names)
            for parameter in parameters.values():
                self.assertIs(parameter.default, inspect.Parameter.empty)
        self.assertEqual(led_to(held=[(1, 1)], waits=[(0, 1)], hand=0), [0, 1])
        self.assertIsNone(ring_of(held=[(1, 1)], waits=[(0, 1)], hand=0))
        self.assertEqual(lent_rank(ranks=[5, 2], held=[(1, 1)], waits=[(0, 1)], hand=1), 5)
        self.assertEqual(heir_of(ranks=[5, 2], held=[(1, 1)], waits=[(0, 1)], tool=1), 0)

    def test_all_that_is_handed_in_is_as_it_was(self):
        ranks = [3, 1, 4, 1, 5, 9, 2, 6]
        for held, waits in (
            (LINE_HELD, LINE_WAITS), (RING_HELD, RING_WAITS), (LATE_RING_HELD, LATE_RING_WAITS),
            (ALONE_HELD, ALONE_WAITS), ([], []),
        ):
            given = (list(ranks), list(reversed(held)), list(reversed(waits)))
            before = copy.deepcopy(given)
            for hand in range(len(ranks)):
                led_to(given[1], given[2], hand)
                self.assertEqual(given, before)
                ring_of(given[1], given[2], hand)
                self.assertEqual(given, before)
                lent_rank(given[0], given[1], given[2], hand)
                self.assertEqual(given, before)
            for tool, holder in held:
                if holder not in [hand for hand, wanted in waits]:
                    heir_of(given[0], given[1], given[2], tool)
                    self.assertEqual(given, before)

    def test_an_answer_is_a_list_of_its_own(self):
        led_to(RING_HELD, RING_WAITS, 0).append(99)
        ring_of(RING_HELD, RING_WAITS, 0).append(99)
        self.assertEqual(led_to(RING_HELD, RING_WAITS, 0), [0, 2, 1])
        self.assertEqual(ring_of(RING_HELD, RING_WAITS, 0), [0, 2, 1])


if __name__ == "__main__":
    unittest.main()
