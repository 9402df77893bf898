"""The day of some hands: its pages, its diary, and the rings in the end."""

from benchrota.errors import NoComing, NoStep
from benchrota.floor import Floor

# How many parts a step has, its word among them.
PARTS = {"work": 1, "take": 2, "give": 2}


def is_step(step):
    return len(step) > 0 and len(step) == PARTS.get(step[0])


def refuse_wrong(hands):
    # All comings ahead of any step, as NoComing goes ahead of NoStep also where different hands are wrong.
    for place, hand in enumerate(hands):
        if hand[1] < 0:
            raise NoComing(f"hand {place} comes below nought")
    for place, hand in enumerate(hands):
        for step in hand[2]:
            if not is_step(step):
                raise NoStep(f"hand {place} has a step that is none")


def begin(hands):
    refuse_wrong(hands)
    return Floor(hands)


def pages_of(hands):
    floor = begin(hands)
    pages = []
    while len(floor.going) > 0:
        chain = floor.find_chain()
        pages.append(floor.show_page(chain))
        floor.pass_tick(chain)
    pages.append(floor.show_page([]))
    return pages


def diary(hands):
    floor = begin(hands)
    entries = []
    while len(floor.going) > 0:
        entries.append(floor.pass_tick(floor.find_chain()))
    return entries


def rings(hands):
    floor = begin(hands)
    while len(floor.going) > 0:
        floor.pass_tick(floor.find_chain())
    return floor.find_rings()
