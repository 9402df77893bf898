"""The points of the document gone through word by word, slowly, for tests that compare the program with them.

Nothing here is drawn from the program. `held` and `waits` are lists of pairs, as on a page.
"""


def foremost_by_the_words(ranks, some):
    greatest = max(ranks[hand] for hand in some)
    return min(hand for hand in some if ranks[hand] == greatest)


def row_by_the_words(held, waits, hand):
    """The row, and the hand that would stand in it a second time, or None."""
    row = [hand]
    while True:
        tools = [tool for one, tool in waits if one == row[-1]]
        if not tools:
            return row, None
        (ahead,) = [holder for tool, holder in held if tool == tools[0]]
        if ahead in row:
            return row, ahead
        row.append(ahead)


def ring_by_the_words(held, waits, hand):
    row, again = row_by_the_words(held, waits, hand)
    if again is None:
        return None
    ring = row[row.index(again):]
    while ring[0] != min(ring):
        ring = ring[1:] + ring[:1]
    return ring


def callers_by_the_words(ranks, held, waits, hand):
    return [one for one in range(len(ranks)) if hand in row_by_the_words(held, waits, one)[0]]


def heir_by_the_words(ranks, held, waits, tool):
    waiters = [hand for hand, wanted in waits if wanted == tool]
    if not waiters:
        return None
    looked_at = {}
    for hand in waiters:
        looked_at[foremost_by_the_words(ranks, callers_by_the_words(ranks, held, waits, hand))] = hand
    return looked_at[foremost_by_the_words(ranks, list(looked_at))]


class DayByTheWords:
    """All pages, the diary and the rings of a day."""

    def __init__(self, hands):
        self.hands = hands
        self.ranks = [rank for rank, comes, steps in hands]
        self.held = []
        self.waits = []
        self.done = [0] * len(hands)
        self.pages = []
        self.lines = []
        self.heirs = []
        while any(self.is_going(hand) for hand in range(len(hands))):
            self.go_through_tick(len(self.lines))
        self.write_page([])
        self.rings = []
        for hand in range(len(hands)):
            ring = ring_by_the_words(self.held, self.waits, hand)
            if ring is not None and ring not in self.rings:
                self.rings.append(ring)
        self.rings.sort(key=lambda ring: ring[0])

    def is_finished(self, hand):
        return self.done[hand] == len(self.hands[hand][2])

    def is_going(self, hand):
        return not self.is_finished(hand) and ring_by_the_words(self.held, self.waits, hand) is None

    def write_page(self, chain):
        self.pages.append((chain, sorted(self.held), sorted(self.waits), list(self.done)))

    def go_through_tick(self, tick):
        here = [hand for hand, (rank, comes, steps) in enumerate(self.hands) if comes <= tick and self.is_going(hand)]
        if not here:
            self.write_page([])
            self.lines.append((None, "idle"))
            return
        chain = row_by_the_words(self.held, self.waits, foremost_by_the_words(self.ranks, here))[0]
        self.write_page(chain)
        self.lines.append((chain[-1], self.do_step(chain[-1])))

    def do_step(self, hand):
        step = self.hands[hand][2][self.done[hand]]
        if step[0] == "take" and any(tool == step[1] for tool, holder in self.held):
            self.waits.append((hand, step[1]))
            return "waits"
        self.done[hand] += 1
        self.heirs = []
        if step[0] == "take":
            self.held.append((step[1], hand))
        if step[0] == "give" and (step[1], hand) in self.held:
            self.let_go(step[1], hand)
        if self.is_finished(hand):
            self.give_back(hand)
        while self.heirs:
            heir = self.heirs.pop(0)
            if self.is_finished(heir):
                self.give_back(heir)
        return {"work": "worked", "take": "took", "give": "gave"}[step[0]]

    def give_back(self, hand):
        for tool in sorted(tool for tool, holder in self.held if holder == hand):
            self.let_go(tool, hand)

    def let_go(self, tool, hand):
        heir = heir_by_the_words(self.ranks, self.held, self.waits, tool)
        self.held.remove((tool, hand))
        if heir is not None:
            self.waits.remove((heir, tool))
            self.held.append((tool, heir))
            self.done[heir] += 1
            self.heirs.append(heir)
