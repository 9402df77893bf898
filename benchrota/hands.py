"""Which of some hands is the foremost."""


def is_ahead(ranks, one, other):
    if ranks[one] == ranks[other]:
        return one < other
    return ranks[one] > ranks[other]


def foremost_of(ranks, some):
    foremost = None
    for place in some:
        # None is asked by name, as the place 0 counts as false too.
        if foremost is None or is_ahead(ranks, place, foremost):
            foremost = place
    return foremost
