"""Point 10: the order in which tools are given back, which pages don't show; and the parts of benchrota/floor.py."""

import unittest

from benchrota.floor import Floor, place_for

WORK = ("work",)


def take(tool):
    return ("take", tool)


class NotedFloor(Floor):
    """Notes each tool that goes away from a hand, as a pair with that hand."""

    def __init__(self, hands):
        Floor.__init__(self, hands)
        self.noted = []

    def pass_on(self, tool):
        self.noted.append((self.holders[tool], tool))
        return Floor.pass_on(self, tool)


def whole_day(hands):
    floor = NotedFloor(hands)
    lines = []
    while floor.going:
        lines.append(floor.pass_tick(floor.find_chain()))
    return floor, lines


class GivingBack(unittest.TestCase):
    def test_from_the_least_number_on(self):
        floor, lines = whole_day([(0, 0, [take(8), take(-3), take(10), take(9), WORK])])
        self.assertEqual(floor.noted, [(0, -3), (0, 8), (0, 9), (0, 10)])

    def test_the_served_one_first_then_heirs_in_their_order(self):
        # The last step of 0 lets 1 be heir of 5; then 0, being finished, gives 3 to 3 and 8 to 2. All are finished.
        floor, lines = whole_day([
            (0, 0, [take(8), take(3), take(5), ("give", 5)]),
            (1, 3, [take(1), take(5)]),
            (2, 5, [take(22), take(8)]),
            (3, 7, [take(23), take(3)]),
        ])
        self.assertEqual(lines, [
            (0, "took"), (0, "took"), (0, "took"), (1, "took"), (1, "waits"), (2, "took"), (2, "waits"),
            (3, "took"), (3, "waits"), (0, "gave"),
        ])
        self.assertEqual(
            floor.noted, [(0, 5), (0, 3), (0, 8), (1, 1), (1, 5), (3, 3), (3, 23), (2, 8), (2, 22)]
        )
        self.assertEqual(floor.done, [4, 2, 2, 2])

    def test_an_heir_of_an_heir_comes_behind_those_who_were_heirs_ahead_of_it(self):
        # 0 gives 3 to 1 and 8 to 3; then 1 gives 21 to 2, which has to come behind 3.
        floor, lines = whole_day([
            (0, 0, [take(3), take(8), WORK]),
            (1, 2, [take(21), take(3)]),
            (2, 4, [take(30), take(21)]),
            (3, 6, [take(22), take(8)]),
        ])
        self.assertEqual(lines[8:], [(0, "worked")])
        self.assertEqual(
            floor.noted, [(0, 3), (0, 8), (1, 3), (1, 21), (3, 8), (3, 22), (2, 21), (2, 30)]
        )

    def test_who_is_not_finished_keeps_what_it_holds(self):
        floor, lines = whole_day([(0, 0, [take(3), ("give", 3), WORK]), (1, 1, [take(4), take(3), WORK])])
        self.assertEqual(lines[:4], [(0, "took"), (1, "took"), (1, "waits"), (0, "gave")])
        self.assertEqual(floor.noted, [(0, 3), (1, 3), (1, 4)])

    def test_who_hangs_on_a_ring_gives_nothing(self):
        floor, lines = whole_day([(0, 0, [take(3), take(4), take(3)])])
        self.assertEqual(floor.noted, [])
        self.assertEqual(floor.holders, {3: 0, 4: 0})


class WhereAToolStands(unittest.TestCase):
    def test_each_place_of_a_row(self):
        held = [(-4, 0), (0, 1), (7, 0), (9, 2)]
        for tool, place in ((-5, 0), (-4, 0), (-1, 1), (0, 1), (3, 2), (7, 2), (8, 3), (9, 3), (10, 4)):
            self.assertEqual(place_for(held, tool), place)
        self.assertEqual(place_for([], 5), 0)

    def test_the_pairs_and_the_holders_tell_the_same_at_each_tick(self):
        floor = Floor([
            (0, 0, [take(5), take(1), take(9), ("give", 5), WORK, ("give", 1), WORK]),
            (1, 2, [take(7), take(5), take(1), WORK]),
            (2, 4, [take(6), take(7), WORK]),
        ])
        ticks = 0
        while floor.going:
            floor.pass_tick(floor.find_chain())
            self.assertEqual(floor.held, sorted(floor.holders.items()))
            ticks += 1
        self.assertGreater(ticks, 10)
        self.assertEqual(floor.held, [])


if __name__ == "__main__":
    unittest.main()
