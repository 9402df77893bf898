"""Points 2, 3, 5 to 8, 10 to 12, 15 and 16 and the interface of benchrota/day.py: days reckoned by hand."""

import copy
import inspect
import unittest

from benchrota.day import diary, pages_of, rings

HUGE = 10 ** 100 - 1
WORK = ("work",)
IDLE = (None, "idle")


def take(tool):
    return ("take", tool)


def give(tool):
    return ("give", tool)


class Days(unittest.TestCase):
    def check(self, hands, pages, lines, found):
        before = copy.deepcopy(hands)
        self.assertEqual(pages_of(hands), pages)
        self.assertEqual(hands, before)
        self.assertEqual(diary(hands), lines)
        self.assertEqual(hands, before)
        self.assertEqual(rings(hands), found)
        self.assertEqual(hands, before)


class QuietDays(Days):
    def test_no_hands(self):
        self.check([], [([], [], [], [])], [], [])

    def test_hands_without_steps(self):
        self.check([(5, 0, [])], [([], [], [], [0])], [], [])
        self.check([(5, 0, []), (HUGE, 7, []), (-1, 1000, [])], [([], [], [], [0, 0, 0])], [], [])

    def test_one_hand_does_its_steps_in_their_order(self):
        self.check(
            [(0, 0, [WORK, take(4), WORK, give(4)])],
            [
                ([0], [], [], [0]),
                ([0], [], [], [1]),
                ([0], [(4, 0)], [], [2]),
                ([0], [(4, 0)], [], [3]),
                ([], [], [], [4]),
            ],
            [(0, "worked"), (0, "took"), (0, "worked"), (0, "gave")],
            [],
        )

    def test_a_tool_may_be_taken_again_behind_a_give(self):
        self.check(
            [(0, 0, [take(4), give(4), take(4), give(4)])],
            [
                ([0], [], [], [0]), ([0], [(4, 0)], [], [1]), ([0], [], [], [2]), ([0], [(4, 0)], [], [3]),
                ([], [], [], [4]),
            ],
            [(0, "took"), (0, "gave"), (0, "took"), (0, "gave")],
            [],
        )

    def test_the_foremost_is_told_anew_for_each_tick(self):
        self.check(
            [(1, 0, [WORK, WORK]), (2, 1, [WORK]), (1, 0, [WORK])],
            [
                ([0], [], [], [0, 0, 0]),
                ([1], [], [], [1, 0, 0]),
                ([0], [], [], [1, 1, 0]),
                ([2], [], [], [2, 1, 0]),
                ([], [], [], [2, 1, 1]),
            ],
            [(0, "worked"), (1, "worked"), (0, "worked"), (2, "worked")],
            [],
        )

    def test_of_the_same_rank_the_least_place_goes_to_its_end(self):
        self.check(
            [(-4, 0, []), (-4, 0, [WORK, WORK]), (-4, 0, [WORK])],
            [
                ([1], [], [], [0, 0, 0]), ([1], [], [], [0, 1, 0]), ([2], [], [], [0, 2, 0]),
                ([], [], [], [0, 2, 1]),
            ],
            [(1, "worked"), (1, "worked"), (2, "worked")],
            [],
        )


class LateHands(Days):
    def test_idle_ticks_ahead_of_the_first(self):
        self.check(
            [(1, 2, [WORK])],
            [([], [], [], [0]), ([], [], [], [0]), ([0], [], [], [0]), ([], [], [], [1])],
            [IDLE, IDLE, (0, "worked")],
            [],
        )

    def test_idle_ticks_between_two(self):
        self.check(
            [(1, 3, [WORK]), (1, 0, [WORK])],
            [
                ([1], [], [], [0, 0]), ([], [], [], [0, 1]), ([], [], [], [0, 1]), ([0], [], [], [0, 1]),
                ([], [], [], [1, 1]),
            ],
            [(1, "worked"), IDLE, IDLE, (0, "worked")],
            [],
        )

    def test_one_without_steps_is_not_waited_for(self):
        self.check(
            [(1, 0, [WORK]), (1, 5, [])],
            [([0], [], [], [0, 0]), ([], [], [], [1, 0])],
            [(0, "worked")],
            [],
        )

    def test_who_comes_late_is_not_there_ahead_of_it(self):
        self.check(
            [(1, 0, [WORK, WORK, WORK]), (9, 1, [WORK])],
            [
                ([0], [], [], [0, 0]), ([1], [], [], [1, 0]), ([0], [], [], [1, 1]), ([0], [], [], [2, 1]),
                ([], [], [], [3, 1]),
            ],
            [(0, "worked"), (1, "worked"), (0, "worked"), (0, "worked")],
            [],
        )

    def test_as_late_as_a_thousand(self):
        self.assertEqual(diary([(1, 1000, [WORK])]), [IDLE] * 1000 + [(0, "worked")])
        self.assertEqual(
            pages_of([(1, 1000, [WORK])]), [([], [], [], [0])] * 1000 + [([0], [], [], [0]), ([], [], [], [1])]
        )
        self.assertEqual(rings([(1, 1000, [WORK])]), [])

    def test_idle_ticks_where_all_that_are_there_hang_on_a_ring(self):
        self.check(
            [(9, 0, [take(3), take(3)]), (1, 4, [WORK])],
            [
                ([0], [], [], [0, 0]),
                ([0], [(3, 0)], [], [1, 0]),
                ([], [(3, 0)], [(0, 3)], [1, 0]),
                ([], [(3, 0)], [(0, 3)], [1, 0]),
                ([1], [(3, 0)], [(0, 3)], [1, 0]),
                ([], [(3, 0)], [(0, 3)], [1, 1]),
            ],
            [(0, "took"), (0, "waits"), IDLE, IDLE, (1, "worked")],
            [[0]],
        )


class HoldingAndGiving(Days):
    def test_a_take_that_waits_is_done_by_the_give(self):
        self.check(
            [(1, 0, [take(7), WORK, give(7), WORK]), (2, 1, [take(7), WORK])],
            [
                ([0], [], [], [0, 0]),
                ([1], [(7, 0)], [], [1, 0]),
                ([1, 0], [(7, 0)], [(1, 7)], [1, 0]),
                ([1, 0], [(7, 0)], [(1, 7)], [2, 0]),
                ([1], [(7, 1)], [], [3, 1]),
                ([0], [], [], [3, 2]),
                ([], [], [], [4, 2]),
            ],
            [(0, "took"), (1, "waits"), (0, "worked"), (0, "gave"), (1, "worked"), (0, "worked")],
            [],
        )

    def test_who_waits_without_being_foremost_waits_on(self):
        # 1 waits for 0, but 2 is foremost and has nothing to do with the tool.
        self.check(
            [(1, 0, [take(7), WORK]), (2, 1, [take(7)]), (3, 2, [WORK, WORK])],
            [
                ([0], [], [], [0, 0, 0]),
                ([1], [(7, 0)], [], [1, 0, 0]),
                ([2], [(7, 0)], [(1, 7)], [1, 0, 0]),
                ([2], [(7, 0)], [(1, 7)], [1, 0, 1]),
                ([1, 0], [(7, 0)], [(1, 7)], [1, 0, 2]),
                ([], [], [], [2, 1, 2]),
            ],
            [(0, "took"), (1, "waits"), (2, "worked"), (2, "worked"), (0, "worked")],
            [],
        )

    def test_a_give_of_what_nobody_or_another_holds(self):
        self.check(
            [(1, 0, [take(5), WORK]), (3, 1, [give(5), give(9)])],
            [
                ([0], [], [], [0, 0]),
                ([1], [(5, 0)], [], [1, 0]),
                ([1], [(5, 0)], [], [1, 1]),
                ([0], [(5, 0)], [], [1, 2]),
                ([], [], [], [2, 2]),
            ],
            [(0, "took"), (1, "gave"), (1, "gave"), (0, "worked")],
            [],
        )

    def test_a_give_of_what_another_holds_lets_nobody_have_it(self):
        self.check(
            [(1, 0, [take(5), WORK, WORK]), (2, 1, [take(5)]), (3, 2, [give(5)])],
            [
                ([0], [], [], [0, 0, 0]),
                ([1], [(5, 0)], [], [1, 0, 0]),
                ([2], [(5, 0)], [(1, 5)], [1, 0, 0]),
                ([1, 0], [(5, 0)], [(1, 5)], [1, 0, 1]),
                ([1, 0], [(5, 0)], [(1, 5)], [2, 0, 1]),
                ([], [], [], [3, 1, 1]),
            ],
            [(0, "took"), (1, "waits"), (2, "gave"), (0, "worked"), (0, "worked")],
            [],
        )

    def test_a_give_twice(self):
        # By the second one the tool is free already.
        self.check(
            [(1, 0, [take(5), give(5), give(5), WORK]), (0, 0, [take(5), WORK])],
            [
                ([0], [], [], [0, 0]), ([0], [(5, 0)], [], [1, 0]), ([0], [], [], [2, 0]), ([0], [], [], [3, 0]),
                ([1], [], [], [4, 0]), ([1], [(5, 1)], [], [4, 1]), ([], [], [], [4, 2]),
            ],
            [(0, "took"), (0, "gave"), (0, "gave"), (0, "worked"), (1, "took"), (1, "worked")],
            [],
        )

    def test_others_who_wait_for_the_tool_wait_on(self):
        # 1 and 2 wait for the tool of 0; 2 has the greater rank, and 1 waits for 2 from then on.
        self.check(
            [(0, 0, [take(5), give(5), WORK]), (1, 1, [take(5), WORK]), (2, 2, [take(5), WORK])],
            [
                ([0], [], [], [0, 0, 0]),
                ([1], [(5, 0)], [], [1, 0, 0]),
                ([2], [(5, 0)], [(1, 5)], [1, 0, 0]),
                ([2, 0], [(5, 0)], [(1, 5), (2, 5)], [1, 0, 0]),
                ([2], [(5, 2)], [(1, 5)], [2, 0, 1]),
                ([1], [(5, 1)], [], [2, 1, 2]),
                ([0], [], [], [2, 2, 2]),
                ([], [], [], [3, 2, 2]),
            ],
            [
                (0, "took"), (1, "waits"), (2, "waits"), (0, "gave"), (2, "worked"), (1, "worked"), (0, "worked"),
            ],
            [],
        )

    def test_of_the_same_rank_the_least_place_is_the_heir(self):
        # 2 began to wait first, but 1 has the lesser place.
        self.check(
            [(0, 0, [take(5), give(5)]), (1, 2, [take(5), WORK]), (1, 1, [take(5), WORK])],
            [
                ([0], [], [], [0, 0, 0]),
                ([2], [(5, 0)], [], [1, 0, 0]),
                ([1], [(5, 0)], [(2, 5)], [1, 0, 0]),
                ([1, 0], [(5, 0)], [(1, 5), (2, 5)], [1, 0, 0]),
                ([1], [(5, 1)], [(2, 5)], [2, 1, 0]),
                ([2], [(5, 2)], [], [2, 2, 1]),
                ([], [], [], [2, 2, 2]),
            ],
            [(0, "took"), (2, "waits"), (1, "waits"), (0, "gave"), (1, "worked"), (2, "worked")],
            [],
        )

    def test_an_heir_of_lesser_rank_by_its_caller(self):
        # 2 has rank 3 alone and 1 has 5, but 3 with rank 7 waits for 2: the tool 1 goes to 2 first.
        held = [(1, 0), (2, 2)]
        self.check(
            [
                (0, 0, [take(1), WORK, give(1)]),
                (5, 3, [take(1), WORK]),
                (3, 1, [take(2), take(1), give(1)]),
                (7, 4, [take(2), WORK]),
            ],
            [
                ([0], [], [], [0, 0, 0, 0]),
                ([2], [(1, 0)], [], [1, 0, 0, 0]),
                ([2], held, [], [1, 0, 1, 0]),
                ([1], held, [(2, 1)], [1, 0, 1, 0]),
                ([3], held, [(1, 1), (2, 1)], [1, 0, 1, 0]),
                ([3, 2, 0], held, [(1, 1), (2, 1), (3, 2)], [1, 0, 1, 0]),
                ([3, 2, 0], held, [(1, 1), (2, 1), (3, 2)], [2, 0, 1, 0]),
                ([3, 2], [(1, 2), (2, 2)], [(1, 1), (3, 2)], [3, 0, 2, 0]),
                ([3], [(1, 1), (2, 3)], [], [3, 1, 3, 1]),
                ([1], [(1, 1)], [], [3, 1, 3, 2]),
                ([], [], [], [3, 2, 3, 2]),
            ],
            [
                (0, "took"), (2, "took"), (2, "waits"), (1, "waits"), (3, "waits"), (0, "worked"), (0, "gave"),
                (2, "gave"), (3, "worked"), (1, "worked"),
            ],
            [],
        )


class FinishedHands(Days):
    def test_all_that_is_held_is_given_back(self):
        self.check(
            [(1, 0, [take(9), take(-2), WORK])],
            [
                ([0], [], [], [0]), ([0], [(9, 0)], [], [1]), ([0], [(-2, 0), (9, 0)], [], [2]),
                ([], [], [], [3]),
            ],
            [(0, "took"), (0, "took"), (0, "worked")],
            [],
        )

    def test_a_take_as_the_last_step(self):
        self.check(
            [(1, 0, [take(4)]), (1, 0, [take(4), give(4)])],
            [([0], [], [], [0, 0]), ([1], [], [], [1, 0]), ([1], [(4, 1)], [], [1, 1]), ([], [], [], [1, 2])],
            [(0, "took"), (1, "took"), (1, "gave")],
            [],
        )

    def test_each_tool_goes_to_its_own_heir(self):
        # 0 ends with the tools 3 and 8; 1 waits for 8, and 2 for 3.
        self.check(
            [(0, 0, [take(8), take(3), WORK]), (1, 2, [take(8), WORK]), (2, 3, [take(3), WORK])],
            [
                ([0], [], [], [0, 0, 0]),
                ([0], [(8, 0)], [], [1, 0, 0]),
                ([1], [(3, 0), (8, 0)], [], [2, 0, 0]),
                ([2], [(3, 0), (8, 0)], [(1, 8)], [2, 0, 0]),
                ([2, 0], [(3, 0), (8, 0)], [(1, 8), (2, 3)], [2, 0, 0]),
                ([2], [(3, 2), (8, 1)], [], [3, 1, 1]),
                ([1], [(8, 1)], [], [3, 1, 2]),
                ([], [], [], [3, 2, 2]),
            ],
            [(0, "took"), (0, "took"), (1, "waits"), (2, "waits"), (0, "worked"), (2, "worked"), (1, "worked")],
            [],
        )

    def test_an_heir_that_is_finished_by_its_take_gives_back_in_turn(self):
        # 0 ends and 1 gets the tool 1, is finished by it, and gives the tool 2 on to 2.
        held = [(1, 0), (2, 1)]
        self.check(
            [(1, 0, [take(1), WORK]), (2, 1, [take(2), take(1)]), (3, 3, [take(2), WORK])],
            [
                ([0], [], [], [0, 0, 0]),
                ([1], [(1, 0)], [], [1, 0, 0]),
                ([1], held, [], [1, 1, 0]),
                ([2], held, [(1, 1)], [1, 1, 0]),
                ([2, 1, 0], held, [(1, 1), (2, 2)], [1, 1, 0]),
                ([2], [(2, 2)], [], [2, 2, 1]),
                ([], [], [], [2, 2, 2]),
            ],
            [(0, "took"), (1, "took"), (1, "waits"), (2, "waits"), (0, "worked"), (2, "worked")],
            [],
        )

    def test_an_heir_that_is_finished_by_a_give_of_one_that_goes_on(self):
        # 0 gives the tool to 1, which is finished by it and gives it back at once to 2.
        self.check(
            [(1, 0, [take(1), give(1), WORK]), (3, 2, [take(1)]), (2, 1, [take(1), WORK])],
            [
                ([0], [], [], [0, 0, 0]),
                ([2], [(1, 0)], [], [1, 0, 0]),
                ([1], [(1, 0)], [(2, 1)], [1, 0, 0]),
                ([1, 0], [(1, 0)], [(1, 1), (2, 1)], [1, 0, 0]),
                ([2], [(1, 2)], [], [2, 1, 1]),
                ([0], [], [], [2, 1, 2]),
                ([], [], [], [3, 1, 2]),
            ],
            [(0, "took"), (2, "waits"), (1, "waits"), (0, "gave"), (2, "worked"), (0, "worked")],
            [],
        )

    def test_one_tool_goes_through_several_that_are_finished_by_it(self):
        # 1, 2 and 3 want nothing but the tool: all of them are finished in the tick in which 0 is.
        self.check(
            [(0, 0, [take(6), WORK]), (1, 1, [take(6)]), (2, 2, [take(6)]), (3, 3, [take(6)])],
            [
                ([0], [], [], [0, 0, 0, 0]),
                ([1], [(6, 0)], [], [1, 0, 0, 0]),
                ([2], [(6, 0)], [(1, 6)], [1, 0, 0, 0]),
                ([3], [(6, 0)], [(1, 6), (2, 6)], [1, 0, 0, 0]),
                ([3, 0], [(6, 0)], [(1, 6), (2, 6), (3, 6)], [1, 0, 0, 0]),
                ([], [], [], [2, 1, 1, 1]),
            ],
            [(0, "took"), (1, "waits"), (2, "waits"), (3, "waits"), (0, "worked")],
            [],
        )


class DaysWithRings(Days):
    def test_one_that_waits_for_itself(self):
        self.check(
            [(5, 0, [take(3), take(3), WORK])],
            [([0], [], [], [0]), ([0], [(3, 0)], [], [1]), ([], [(3, 0)], [(0, 3)], [1])],
            [(0, "took"), (0, "waits")],
            [[0]],
        )

    def test_two_that_wait_for_one_another(self):
        held = [(1, 0), (2, 1)]
        self.check(
            [(1, 0, [take(1), WORK, take(2)]), (2, 1, [take(2), take(1)])],
            [
                ([0], [], [], [0, 0]),
                ([1], [(1, 0)], [], [1, 0]),
                ([1], held, [], [1, 1]),
                ([1, 0], held, [(1, 1)], [1, 1]),
                ([1, 0], held, [(1, 1)], [2, 1]),
                ([], held, [(0, 2), (1, 1)], [2, 1]),
            ],
            [(0, "took"), (1, "took"), (1, "waits"), (0, "worked"), (0, "waits")],
            [[0, 1]],
        )

    def test_three_in_the_order_in_which_waiting_leads(self):
        # 2 waits for 1, 1 for 0, and 0 for 2.
        held = [(1, 0), (2, 1), (3, 2)]
        self.check(
            [(1, 0, [take(1), take(3)]), (2, 1, [take(2), take(1)]), (3, 2, [take(3), take(2)])],
            [
                ([0], [], [], [0, 0, 0]),
                ([1], [(1, 0)], [], [1, 0, 0]),
                ([2], [(1, 0), (2, 1)], [], [1, 1, 0]),
                ([2], held, [], [1, 1, 1]),
                ([2, 1], held, [(2, 2)], [1, 1, 1]),
                ([2, 1, 0], held, [(1, 1), (2, 2)], [1, 1, 1]),
                ([], held, [(0, 3), (1, 1), (2, 2)], [1, 1, 1]),
            ],
            [(0, "took"), (1, "took"), (2, "took"), (2, "waits"), (1, "waits"), (0, "waits")],
            [[0, 2, 1]],
        )

    def test_hands_that_hang_on_a_ring_without_being_part(self):
        # 0 and 1 are the ring; 2 and 3 come to hang on it, and 3 works where it can ahead of that.
        held = [(1, 0), (2, 1)]
        self.check(
            [
                (1, 0, [take(1), WORK, take(2)]),
                (2, 1, [take(2), take(1)]),
                (9, 6, [take(1)]),
                (0, 0, [WORK, WORK, take(2), WORK]),
            ],
            [
                ([0], [], [], [0, 0, 0, 0]),
                ([1], [(1, 0)], [], [1, 0, 0, 0]),
                ([1], held, [], [1, 1, 0, 0]),
                ([1, 0], held, [(1, 1)], [1, 1, 0, 0]),
                ([1, 0], held, [(1, 1)], [2, 1, 0, 0]),
                ([3], held, [(0, 2), (1, 1)], [2, 1, 0, 0]),
                ([2], held, [(0, 2), (1, 1)], [2, 1, 0, 1]),
                ([3], held, [(0, 2), (1, 1), (2, 1)], [2, 1, 0, 1]),
                ([3], held, [(0, 2), (1, 1), (2, 1)], [2, 1, 0, 2]),
                ([], held, [(0, 2), (1, 1), (2, 1), (3, 2)], [2, 1, 0, 2]),
            ],
            [
                (0, "took"), (1, "took"), (1, "waits"), (0, "worked"), (0, "waits"), (3, "worked"), (2, "waits"),
                (3, "worked"), (3, "waits"),
            ],
            [[0, 1]],
        )

    def test_who_waits_already_hangs_on_the_ring_from_its_beginning_on(self):
        # 2 waits for 0, which then waits for itself: 2 is the foremost, but no longer going.
        self.check(
            [(1, 0, [take(1), take(1)]), (0, 0, [WORK]), (9, 1, [take(1)])],
            [
                ([0], [], [], [0, 0, 0]),
                ([2], [(1, 0)], [], [1, 0, 0]),
                ([2, 0], [(1, 0)], [(2, 1)], [1, 0, 0]),
                ([1], [(1, 0)], [(0, 1), (2, 1)], [1, 0, 0]),
                ([], [(1, 0)], [(0, 1), (2, 1)], [1, 1, 0]),
            ],
            [(0, "took"), (2, "waits"), (0, "waits"), (1, "worked")],
            [[0]],
        )

    def test_two_rings_from_the_least_first_hand_on(self):
        # 1 and 2 are a ring first, then 0 and 3; in the answer the one with 0 stands first.
        self.check(
            [
                (1, 5, [take(10), WORK, take(13)]),
                (2, 1, [take(11), take(12)]),
                (1, 0, [take(12), WORK, take(11)]),
                (2, 6, [take(13), take(10)]),
            ],
            [
                ([2], [], [], [0, 0, 0, 0]),
                ([1], [(12, 2)], [], [0, 0, 1, 0]),
                ([1], [(11, 1), (12, 2)], [], [0, 1, 1, 0]),
                ([1, 2], [(11, 1), (12, 2)], [(1, 12)], [0, 1, 1, 0]),
                ([1, 2], [(11, 1), (12, 2)], [(1, 12)], [0, 1, 2, 0]),
                ([0], [(11, 1), (12, 2)], [(1, 12), (2, 11)], [0, 1, 2, 0]),
                ([3], [(10, 0), (11, 1), (12, 2)], [(1, 12), (2, 11)], [1, 1, 2, 0]),
                ([3], [(10, 0), (11, 1), (12, 2), (13, 3)], [(1, 12), (2, 11)], [1, 1, 2, 1]),
                ([3, 0], [(10, 0), (11, 1), (12, 2), (13, 3)], [(1, 12), (2, 11), (3, 10)], [1, 1, 2, 1]),
                ([3, 0], [(10, 0), (11, 1), (12, 2), (13, 3)], [(1, 12), (2, 11), (3, 10)], [2, 1, 2, 1]),
                ([], [(10, 0), (11, 1), (12, 2), (13, 3)], [(0, 13), (1, 12), (2, 11), (3, 10)], [2, 1, 2, 1]),
            ],
            [
                (2, "took"), (1, "took"), (1, "waits"), (2, "worked"), (2, "waits"),
                (0, "took"), (3, "took"), (3, "waits"), (0, "worked"), (0, "waits"),
            ],
            [[0, 3], [1, 2]],
        )


class Pages(Days):
    def test_held_from_the_least_tool_whatever_its_sign_and_length(self):
        self.check(
            [(1, 0, [take(10), take(-HUGE), take(0), take(HUGE), take(9), WORK])],
            [
                ([0], [], [], [0]),
                ([0], [(10, 0)], [], [1]),
                ([0], [(-HUGE, 0), (10, 0)], [], [2]),
                ([0], [(-HUGE, 0), (0, 0), (10, 0)], [], [3]),
                ([0], [(-HUGE, 0), (0, 0), (10, 0), (HUGE, 0)], [], [4]),
                ([0], [(-HUGE, 0), (0, 0), (9, 0), (10, 0), (HUGE, 0)], [], [5]),
                ([], [], [], [6]),
            ],
            [(0, "took")] * 5 + [(0, "worked")],
            [],
        )

    def test_held_behind_a_give_from_the_midst(self):
        self.assertEqual(
            pages_of([(1, 0, [take(5), take(3), take(7), give(5), give(3), WORK])])[3:],
            [
                ([0], [(3, 0), (5, 0), (7, 0)], [], [3]), ([0], [(3, 0), (7, 0)], [], [4]), ([0], [(7, 0)], [], [5]),
                ([], [], [], [6]),
            ],
        )

    def test_waits_from_the_least_hand_whoever_waited_first(self):
        hands = [(0, 4, [take(1)]), (3, 2, [take(1)]), (2, 1, [take(1)]), (-1, 0, [take(1), WORK, WORK])]
        # Tick 0 lets 3 take it, 1 lets 2 wait, 2 lets 1 wait; 0 comes when 3 is already finished in their names.
        self.assertEqual(
            pages_of(hands),
            [
                ([3], [], [], [0, 0, 0, 0]),
                ([2], [(1, 3)], [], [0, 0, 0, 1]),
                ([1], [(1, 3)], [(2, 1)], [0, 0, 0, 1]),
                ([1, 3], [(1, 3)], [(1, 1), (2, 1)], [0, 0, 0, 1]),
                ([1, 3], [(1, 3)], [(1, 1), (2, 1)], [0, 0, 0, 2]),
                ([0], [], [], [0, 1, 1, 3]),
                ([], [], [], [1, 1, 1, 3]),
            ],
        )

    def test_kinds(self):
        hands = [(1, 1, [take(1), WORK, take(2)]), (2, 2, [take(2), take(1)])]
        pages = pages_of(hands)
        self.assertIs(type(pages), list)
        for page in pages:
            self.assertIs(type(page), tuple)
            self.assertEqual([type(part) for part in page], [list] * 4)
            for pair in page[1] + page[2]:
                self.assertIs(type(pair), tuple)
            for number in page[0] + page[3]:
                self.assertIs(type(number), int)
        lines = diary(hands)
        self.assertIs(type(lines), list)
        self.assertEqual([type(line) for line in lines], [tuple] * len(lines))
        self.assertEqual(len(pages), len(lines) + 1)
        found = rings(hands)
        self.assertIs(type(found), list)
        self.assertEqual([type(ring) for ring in found], [list])

    def test_each_page_has_lists_of_its_own(self):
        hands = [(1, 2, [take(1), WORK, WORK, take(1)])]
        pages = pages_of(hands)
        expected = copy.deepcopy(pages)
        for place, page in enumerate(pages):
            for part in page:
                part.append("changed")
            self.assertEqual(pages[place + 1:], expected[place + 1:])
        self.assertEqual(hands, [(1, 2, [take(1), WORK, WORK, take(1)])])
        self.assertEqual(pages_of(hands), expected)


class HowTheyAreCalled(unittest.TestCase):
    def test_the_argument_has_its_name_and_no_default(self):
        for asked in (pages_of, diary, rings):
            parameters = inspect.signature(asked).parameters
            self.assertEqual(list(parameters), ["hands"])
            self.assertIs(parameters["hands"].default, inspect.Parameter.empty)
            asked(hands=[(1, 0, [WORK])])

    def test_nothing_is_kept_from_call_to_call(self):
        alone = [(1, 0, [take(1), take(1)])]
        other = [(1, 0, [take(1), WORK])]
        for asked in (pages_of, diary, rings):
            first = asked(alone)
            asked(other)
            self.assertEqual(asked(alone), first)

    def test_steps_that_are_shared_by_hands_are_each_hand_s_own(self):
        steps = [WORK, WORK]
        self.assertEqual(diary([(1, 0, steps), (2, 0, steps)]), [(1, "worked")] * 2 + [(0, "worked")] * 2)
        self.assertEqual(steps, [WORK, WORK])


if __name__ == "__main__":
    unittest.main()
