"""Weighings, and the sets of things that fit into one box."""

from boxfew.books import need_book


def heavier(book, weights, most):
    """Tell the least set that fits one box and weighs more than most, or None."""
    need_book(book)
    for things in fitting_sets(book):
        # A list of weights that is too short is no error: what has no weight weighs nothing.
        if sum(weights[thing] for thing in things if thing < len(weights)) > most:
            return things
    return None


def fitting_sets(book):
    """Tell all sets of things that fit one box, those of ahead left aside, as rising lists in order."""
    sets = [[]]
    for thing in range(len(book[1])):
        sets = sets + [things + [thing] for things in sets if _may_join(book, things, thing)]
    return sorted(sets)


def _may_join(book, things, thing):
    """Tell whether a thing fits to things that are all less than it."""
    room, sizes, apart, _ = book
    if sum(sizes[other] for other in things) + sizes[thing] > room:
        return False
    return not any((other, thing) in apart for other in things)
