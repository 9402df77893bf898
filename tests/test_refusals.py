"""Point 17: what each function of benchrota/day.py refuses, and what it doesn't."""

import copy
import unittest

from benchrota.day import diary, pages_of, rings
from benchrota.errors import NoComing, NoStep, RotaError

HUGE = 10 ** 100 - 1
WORK = ("work",)
RIGHT = (1, 0, [WORK, ("take", 1), ("give", 1)])

WRONG_STEPS = (
    (), ("",), ("rest",), ("rest", 1), ("works",), ("Work",), ("WORK",), (" work",), ("work ",), ("worked",),
    ("work", 1), ("work", 0), ("work", "work"), ("work", None), ("work", 1, 2),
    ("take",), ("take", 1, 2), ("take", 1, 1, 1), ("Take", 1), ("took", 1), ("taken", 1), ("tak", 1),
    ("give",), ("give", 1, 2), ("give", 1, 1, 1), ("GIVE", 1), ("gave", 1), ("gives", 1), ("", 1), ("waits", 1),
    ("idle",), ("len",), ("t",), ("takegive", 1),
)


class Refusals(unittest.TestCase):
    def check_refused(self, hands, error):
        for asked in (pages_of, diary, rings):
            before = copy.deepcopy(hands)
            with self.assertRaises(RotaError) as taken:
                asked(hands)
            self.assertIs(type(taken.exception), error, (asked.__name__, hands))
            self.assertEqual(hands, before)

    def check_allowed(self, hands):
        for asked in (pages_of, diary, rings):
            before = copy.deepcopy(hands)
            self.assertIs(type(asked(hands)), list)
            self.assertEqual(hands, before)

    def test_a_coming_below_nought(self):
        for comes in (-1, -2, -1000, -HUGE):
            wrong = (1, comes, [WORK])
            self.check_refused([wrong], NoComing)
            self.check_refused([wrong, RIGHT], NoComing)
            self.check_refused([RIGHT, RIGHT, wrong], NoComing)
            self.check_refused([(1, comes, [])], NoComing)

    def test_a_wrong_step(self):
        for step in WRONG_STEPS:
            self.check_refused([(1, 0, [step])], NoStep)

    def test_a_wrong_step_wherever_it_stands(self):
        for step in (("rest",), (), ("take",), ("give", 1, 2), ("work", 1)):
            for steps in ([step, WORK, WORK], [WORK, step, WORK], [WORK, WORK, step]):
                self.check_refused([(1, 0, steps), RIGHT], NoStep)
                self.check_refused([RIGHT, RIGHT, (1, 0, steps)], NoStep)
                self.check_refused([(1, 1000, steps)], NoStep)

    def test_a_wrong_step_that_would_never_be_come_to(self):
        self.check_refused([(1, 0, [("take", 1), ("take", 1), ("rest",)])], NoStep)
        self.check_refused([(2, 0, [("take", 1), ("take", 1)]), (1, 0, [("take", 1), ("take",)])], NoStep)

    def test_both_in_different_hands_in_either_order(self):
        early = (1, -1, [WORK])
        for step in WRONG_STEPS:
            wrong = (1, 0, [step])
            self.check_refused([early, wrong], NoComing)
            self.check_refused([wrong, early], NoComing)
            self.check_refused([wrong, RIGHT, wrong, early, RIGHT], NoComing)

    def test_both_in_one_hand(self):
        for step in WRONG_STEPS:
            self.check_refused([(1, -1, [step])], NoComing)
            self.check_refused([RIGHT, (1, -1, [WORK, step])], NoComing)

    def test_what_is_right_is_not_refused(self):
        self.check_allowed([])
        self.check_allowed([RIGHT])
        self.check_allowed([(0, 0, [])])
        self.check_allowed([(0, 1000, [WORK])])

    def test_what_is_unusual_but_allowed(self):
        self.check_allowed([(HUGE, 0, [WORK]), (-HUGE, 0, [WORK]), (0, 0, [WORK])])
        for tool in (-1, 0, HUGE, -HUGE):
            self.check_allowed([(1, 0, [("take", tool), ("give", tool), ("give", tool), ("take", tool)])])
            self.check_allowed([(1, 0, [("give", tool)])])

    def test_what_lies_somewhat_beyond_a_bound(self):
        beyond = 10 ** 120
        self.assertEqual(
            diary([(-beyond, 0, [("take", -beyond), WORK]), (beyond, 0, [("give", beyond)])]),
            [(1, "gave"), (0, "took"), (0, "worked")],
        )
        self.assertEqual(diary([(0, 1010, [WORK])]), [(None, "idle")] * 1010 + [(0, "worked")])
        self.assertEqual(diary([(0, 0, [WORK] * 120)]), [(0, "worked")] * 120)
        self.assertEqual(diary([(0, 0, [WORK])] * 120), [(hand, "worked") for hand in range(120)])


if __name__ == "__main__":
    unittest.main()
