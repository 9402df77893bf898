"""Points 1, 9 and 11 to 16 over whole days: many days beside the document's words, and days of the greatest size."""

import copy
import itertools
import random
import time
import unittest

from benchrota.chains import heir_of, led_to, lent_rank, ring_of
from benchrota.day import diary, pages_of, rings
from benchrota.hands import foremost_of
from words import DayByTheWords

HUGE = 10 ** 100 - 1
WORK = ("work",)
REASONABLE_SECONDS = 20


def take(tool):
    return ("take", tool)


def give(tool):
    return ("give", tool)


def some_steps(chance, tools, many):
    # Mostly takes of what the hand doesn't hold and gives of what it does: else it soon waits for itself.
    steps, mine = [], []
    for _ in range(many):
        tool = chance.choice(tools)
        if chance.randrange(12) == 0:
            steps.append(chance.choice((WORK, take(tool), give(tool))))
        elif mine and chance.randrange(3) == 0:
            steps.append(give(mine.pop(chance.randrange(len(mine)))))
        elif tool in mine or chance.randrange(4) == 0:
            steps.append(WORK)
        else:
            steps.append(take(tool))
            mine.append(tool)
    return steps


def some_hands(chance):
    tools = chance.choice(([1, 2], [5, -3, 0, 12], [1, 2, 3, 4, 5, 6, 7, 8, 9], [HUGE, -HUGE, HUGE - 1]))
    ranks = chance.choice(([0], [-1, 0, 1], [1, 2, 3, 4, 5, 6, 7, 8, 9], [HUGE, -HUGE, 1 - HUGE]))
    late = chance.choice((1, 4, 12))
    return [
        (chance.choice(ranks), chance.randrange(late), some_steps(chance, tools, chance.randrange(8)))
        for _ in range(chance.randrange(1, 8))
    ]


def some_days(seed, many):
    chance = random.Random(seed)
    return [some_hands(chance) for _ in range(many)]


def is_finished(hands, page, hand):
    return page[3][hand] == len(hands[hand][2])


def there_at(hands, tick):
    return [hand for hand in range(len(hands)) if hands[hand][1] <= tick]


def is_going(hands, page, hand):
    return not is_finished(hands, page, hand) and ring_of(page[1], page[2], hand) is None


class BesideTheWords(unittest.TestCase):
    def check(self, hands):
        before = copy.deepcopy(hands)
        told = DayByTheWords(hands)
        self.assertEqual(pages_of(hands), told.pages, hands)
        self.assertEqual(diary(hands), told.lines, hands)
        self.assertEqual(rings(hands), told.rings, hands)
        self.assertEqual(hands, before)
        return told

    def test_every_day_of_two_hands_of_two_steps(self):
        choices = (WORK, take(1), take(2), give(1), give(2))
        rows = [list(steps) for many in range(3) for steps in itertools.product(choices, repeat=many)]
        for first, second in itertools.product(rows, repeat=2):
            for rank, comes in ((0, 0), (1, 0), (1, 1), (1, 3)):
                self.check([(0, 0, first), (rank, comes, second)])

    def test_many_days(self):
        waits, heirs, found = 0, 0, 0
        for hands in some_days(1, 2500):
            told = self.check(hands)
            waits += sum(word == "waits" for hand, word in told.lines)
            heirs += sum(len(here[2]) < len(ahead[2]) for ahead, here in zip(told.pages, told.pages[1:]))
            found += len(told.rings)
        # Else the days would be too quiet to tell anything.
        self.assertGreater(min(waits, heirs, found), 300)

    def test_days_with_many_that_wait(self):
        chance = random.Random(2)
        for _ in range(300):
            # Tools are taken from the least on, so that no ring comes to be and rows grow long.
            hands = []
            for _ in range(chance.randrange(4, 10)):
                tools = sorted(chance.sample(range(8), chance.randrange(1, 5)))
                steps = [take(tool) for tool in tools] + [WORK] + [give(tool) for tool in tools[::2]]
                hands.append((chance.randrange(6), chance.randrange(15), steps))
            told = self.check(hands)
            self.assertEqual(told.rings, [])
            self.assertEqual(told.pages[-1][1:3], ([], []))
            self.assertEqual(told.pages[-1][3], [len(steps) for rank, comes, steps in hands])


class WhatHoldsOnEachPage(unittest.TestCase):
    def test_the_chain_is_the_row_of_the_foremost_that_is_going(self):
        for hands in some_days(3, 400):
            ranks = [hand[0] for hand in hands]
            pages = pages_of(hands)
            for tick, page in enumerate(pages[:-1]):
                here = [hand for hand in there_at(hands, tick) if is_going(hands, page, hand)]
                foremost = foremost_of(ranks, here)
                self.assertEqual(page[0], [] if foremost is None else led_to(page[1], page[2], foremost))
                self.assertTrue(any(is_going(hands, page, hand) for hand in range(len(hands))))
            self.assertFalse(any(is_going(hands, pages[-1], hand) for hand in range(len(hands))))

    def test_the_served_one_has_the_greatest_lent_rank(self):
        for hands in some_days(4, 400):
            ranks = [hand[0] for hand in hands]
            for tick, page in enumerate(pages_of(hands)):
                chain, held, waits, done = page
                if chain:
                    waiting = [hand for hand, tool in waits]
                    lent = [
                        lent_rank(ranks, held, waits, hand) for hand in there_at(hands, tick)
                        if hand not in waiting and not is_finished(hands, page, hand)
                    ]
                    self.assertEqual(lent_rank(ranks, held, waits, chain[-1]), max(lent))

    def test_while_one_is_foremost_only_those_it_depends_on_are_served(self):
        for hands in some_days(5, 400):
            pages = [page for page in pages_of(hands) if page[0]]
            for foremost, stretch in itertools.groupby(pages, key=lambda page: page[0][0]):
                stretch = list(stretch)
                chain, held, waits, done = stretch[0]
                some = {foremost} | {hand for tool, hand in held} | {hand for hand, tool in waits}
                self.assertLessEqual({page[0][-1] for page in stretch}, some)
                self.assertLessEqual(len(stretch), sum(len(hands[hand][2]) - done[hand] for hand in some))

    def test_the_diary_tells_what_happens_from_page_to_page(self):
        for hands in some_days(6, 400):
            pages = pages_of(hands)
            lines = diary(hands)
            self.assertEqual(len(pages), len(lines) + 1)
            for ahead, here, (hand, word) in zip(pages, pages[1:], lines):
                if word == "idle":
                    self.assertEqual((hand, ahead[0]), (None, []))
                    self.assertEqual(here[1:], ahead[1:])
                    continue
                self.assertEqual(hand, ahead[0][-1])
                step = hands[hand][2][ahead[3][hand]]
                if word == "waits":
                    self.assertEqual((step[0], here[1], here[3]), ("take", ahead[1], ahead[3]))
                    self.assertEqual(here[2], sorted(ahead[2] + [(hand, step[1])]))
                else:
                    self.assertEqual(word, {"work": "worked", "take": "took", "give": "gave"}[step[0]])
                    self.assertEqual(here[3][hand], ahead[3][hand] + 1)

    def test_a_give_goes_to_the_heir_that_is_told_by_chains(self):
        seen = 0
        for hands in some_days(7, 600):
            ranks = [hand[0] for hand in hands]
            pages = pages_of(hands)
            for ahead, here, (hand, word) in zip(pages, pages[1:], diary(hands)):
                if word == "gave":
                    tool = hands[hand][2][ahead[3][hand]][1]
                    heir = heir_of(ranks, ahead[1], ahead[2], tool)
                    if (tool, hand) in ahead[1] and heir is not None:
                        self.assertEqual(here[3][heir], ahead[3][heir] + 1)
                        self.assertNotIn((heir, tool), here[2])
                        seen += 1
        self.assertGreater(seen, 50)

    def test_the_rings_are_those_of_the_last_page(self):
        for hands in some_days(8, 400):
            chain, held, waits, done = pages_of(hands)[-1]
            found = []
            for hand in range(len(hands)):
                ring = ring_of(held, waits, hand)
                if ring is not None and ring not in found:
                    found.append(ring)
            self.assertEqual(rings(hands), sorted(found))


class TheGreatestDays(unittest.TestCase):
    def setUp(self):
        self.begun = time.perf_counter()

    def tearDown(self):
        self.assertLess(time.perf_counter() - self.begun, REASONABLE_SECONDS)

    def test_a_hundred_hands_that_only_work(self):
        hands = [(hand % 2, 0, [WORK] * 100) for hand in range(100)]
        order = list(range(1, 100, 2)) + list(range(0, 100, 2))
        self.assertEqual(diary(hands), [(hand, "worked") for hand in order for _ in range(100)])
        self.assertEqual(len(pages_of(hands)), 10001)
        self.assertEqual(rings(hands), [])

    def test_a_hundred_hands_that_share_tools(self):
        chance = random.Random(9)
        hands = []
        for _ in range(100):
            tools = sorted(chance.sample(range(-30, 30), 33))
            steps = [take(tool) for tool in tools] + [WORK] * 34 + [give(tool) for tool in tools]
            hands.append((chance.randrange(-HUGE, HUGE), chance.randrange(1001), steps))
        pages = pages_of(hands)
        self.assertEqual(pages[-1], ([], [], [], [100] * 100))
        self.assertEqual(len(diary(hands)), len(pages) - 1)
        self.assertEqual(rings(hands), [])

    def test_a_ring_of_a_hundred_with_thousands_of_tools(self):
        # The later comes the greater rank: each takes the tool of its own number first. Then 0, the foremost, takes 97
        # more and waits for 1, which does likewise in its name, and so on; in the end 99 waits for 0.
        hands = []
        for hand in range(100):
            others = [take(1000 + hand * 97 + more) for more in range(97)]
            hands.append((-hand, 99 - hand, [take(hand)] + others + [take((hand + 1) % 100), WORK]))
        lines = [(hand, "took") for hand in range(99, -1, -1)]
        for hand in range(100):
            lines += [(hand, "took")] * 97 + [(hand, "waits")]
        self.assertEqual(diary(hands), lines)
        self.assertEqual(rings(hands), [list(range(100))])

    def test_a_hundred_that_are_finished_by_one_step(self):
        # As above, but without other tools, and 99 works in the end: each is finished by the tool that it gets.
        hands = [(-hand, 99 - hand, [take(hand), take(hand + 1)]) for hand in range(99)]
        hands.append((-99, 0, [take(99), WORK]))
        pages = pages_of(hands)
        self.assertEqual(len(pages), 201)
        self.assertEqual(pages[199][0], list(range(100)))
        self.assertEqual(pages[199][3], [1] * 100)
        self.assertEqual(pages[200], ([], [], [], [2] * 100))
        self.assertEqual(diary(hands)[198:], [(98, "waits"), (99, "worked")])

    def test_hands_that_come_as_late_as_a_thousand(self):
        hands = [(0, 1000, [WORK] * 100) for _ in range(100)]
        self.assertEqual(
            diary(hands), [(None, "idle")] * 1000 + [(hand, "worked") for hand in range(100) for _ in range(100)]
        )
        self.assertEqual(len(pages_of(hands)), 11001)
        self.assertEqual(rings(hands), [])


if __name__ == "__main__":
    unittest.main()
