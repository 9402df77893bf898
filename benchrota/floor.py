"""The floor: how it stands ahead of a tick, and what the tick does to it."""

from benchrota.chains import heir_by, ring_by, row_by
from benchrota.hands import foremost_of

WORDS = {"work": "worked", "take": "took", "give": "gave"}


def place_for(held, tool):
    # By halves, as thousands of tools may be held at a time.
    low = 0
    high = len(held)
    while low < high:
        middle = (low + high) // 2
        if held[middle][0] < tool:
            low = middle + 1
        else:
            high = middle
    return low


class Floor:
    def __init__(self, hands):
        self.ranks = [hand[0] for hand in hands]
        self.comes = [hand[1] for hand in hands]
        self.steps = [hand[2] for hand in hands]
        self.done = [0 for hand in hands]
        self.tick = 0
        self.holders = {}
        self.wanted = {}
        # The pairs of `holders` once more, from the least tool on: to sort them anew for each page would be slow.
        self.held = []
        self.going = [hand for hand in range(len(hands)) if not self.is_finished(hand)]

    def is_finished(self, hand):
        return self.done[hand] == len(self.steps[hand])

    def find_chain(self):
        here = [hand for hand in self.going if self.comes[hand] <= self.tick]
        if len(here) == 0:
            return []
        return row_by(self.holders, self.wanted, foremost_of(self.ranks, here))

    def show_page(self, chain):
        waits = [(hand, self.wanted[hand]) for hand in sorted(self.wanted)]
        return (list(chain), list(self.held), waits, list(self.done))

    def pass_tick(self, chain):
        self.tick = self.tick + 1
        if len(chain) == 0:
            return (None, "idle")
        return (chain[-1], self.serve(chain[-1]))

    def serve(self, hand):
        step = self.steps[hand][self.done[hand]]
        if step[0] == "take" and step[1] in self.holders:
            self.begin_waiting(hand, step[1])
            return "waits"
        heirs = []
        if step[0] == "take":
            self.begin_holding(hand, step[1])
        elif step[0] == "give" and self.holders.get(step[1]) == hand:
            heirs = self.pass_on(step[1])
        self.done[hand] = self.done[hand] + 1
        self.give_back([hand] + heirs)
        return WORDS[step[0]]

    def begin_waiting(self, hand, tool):
        self.wanted[hand] = tool
        # Only here can a ring come to be, and none ever ends: who hangs on one is out for good.
        if ring_by(self.holders, self.wanted, hand) is not None:
            self.going = [one for one in self.going if ring_by(self.holders, self.wanted, one) is None]

    def begin_holding(self, hand, tool):
        self.holders[tool] = hand
        self.held.insert(place_for(self.held, tool), (tool, hand))

    # Gives back the heir in a list, or the empty list where the tool is free from now on.
    def pass_on(self, tool):
        heir = heir_by(self.ranks, self.holders, self.wanted, tool)
        self.held.pop(place_for(self.held, tool))
        self.holders.pop(tool)
        if heir is None:
            return []
        self.wanted.pop(heir)
        self.begin_holding(heir, tool)
        self.done[heir] = self.done[heir] + 1
        return [heir]

    def tools_of(self, hand):
        return [pair[0] for pair in self.held if pair[1] == hand]

    def give_back(self, queue):
        # New heirs stand behind all who came ahead of them: that is the order in which they give back.
        while len(queue) > 0:
            hand = queue.pop(0)
            if self.is_finished(hand):
                self.going.remove(hand)
                for tool in self.tools_of(hand):
                    queue.extend(self.pass_on(tool))

    def find_rings(self):
        found = []
        for hand in range(len(self.ranks)):
            ring = ring_by(self.holders, self.wanted, hand)
            # Taken at its first hand alone, so that each ring is there once, and in order.
            if ring is not None and ring[0] == hand:
                found.append(ring)
        return found
