"""Where waiting leads: rows and rings of hands, lent ranks and heirs.

The functions that end with `_by` read two dicts: `holders` tells for each tool that is held who holds it, `wanted`
for each hand that waits what it waits for. The others read the same as lists of pairs in any order.
"""

from benchrota.hands import foremost_of


def waited_for_by(holders, wanted, hand):
    if hand in wanted:
        return holders[wanted[hand]]
    return None


def row_by(holders, wanted, hand):
    # A dict keeps the order too, and tells at once whether a hand stands in the row already.
    row = {}
    while hand is not None and hand not in row:
        row[hand] = True
        hand = waited_for_by(holders, wanted, hand)
    return list(row)


def ring_by(holders, wanted, hand):
    row = row_by(holders, wanted, hand)
    again = waited_for_by(holders, wanted, row[-1])
    if again is None:
        return None
    ring = row[row.index(again):]
    least = ring.index(min(ring))
    return ring[least:] + ring[:least]


def heir_by(ranks, holders, wanted, tool):
    # Most tools that are given are wanted by nobody, and no row need be gone along for them.
    if tool not in list(wanted.values()):
        return None
    # Who holds the tool doesn't wait, so that no row has two hands that wait for it: each caller calls one of them,
    # and the foremost of all callers together calls the heir.
    called = {}
    for caller in range(len(ranks)):
        for hand in row_by(holders, wanted, caller):
            if wanted.get(hand) == tool:
                called[caller] = hand
    return called[foremost_of(ranks, list(called))]


def led_to(held, waits, hand):
    return row_by(dict(held), dict(waits), hand)


def ring_of(held, waits, hand):
    return ring_by(dict(held), dict(waits), hand)


def lent_rank(ranks, held, waits, hand):
    holders = dict(held)
    wanted = dict(waits)
    return max([ranks[caller] for caller in range(len(ranks)) if hand in row_by(holders, wanted, caller)])


def heir_of(ranks, held, waits, tool):
    return heir_by(ranks, dict(held), dict(waits), tool)
