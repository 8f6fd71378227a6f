"""How many good packings there are, and how evenly things can be spread."""

from math import comb

from boxfew.books import need_book
from boxfew.fillings import onward, sums
from boxfew.refits import refit


def counted(book, many):
    """Tell how many good packings there are into the boxes 0 to many less 1."""
    need_book(book)
    ways = onward(book)
    level = {0: 1}
    total = 0
    # Boxes that stay empty only leave a choice: which of the many are those that bear something.
    for bearing in range(len(book[1]) + 1):
        total += level.get(len(ways) - 1, 0) * comb(max(0, many), bearing)
        level = _counts_with_box(level, ways)
    return total


def spread(book, many):
    """Tell (most, packing): the least that the fullest box can bear, and the least packing, None if there is none."""
    need_book(book)
    _, sizes, apart, ahead = book
    if not sizes:
        return 0, []
    most = _least_most(book, many)
    if most is None:
        return None
    _, packing = refit((most, sizes, apart, ahead), [None] * len(sizes), many, [])
    return most, packing


def _counts_with_box(level, ways):
    """Tell in how many ways one box more bears each set, if it bears something."""
    found = {}
    for mask, count in level.items():
        for filled in ways[mask]:
            found[filled] = found.get(filled, 0) + count
    return found


def _least_most(book, many):
    """Tell the least number that a box of a good packing bears at the most, or None."""
    ways = onward(book)
    loads = sums(book[1])
    least = {0: 0}
    # More boxes than things are of no use.
    for _ in range(min(many, len(book[1]))):
        least = _mosts_with_box(least, ways, loads)
    return least.get(len(ways) - 1)


def _mosts_with_box(least, ways, loads):
    """Tell the least most of each set with one box more, that bears something or nothing."""
    found = dict(least)
    for mask, most in least.items():
        for filled in ways[mask]:
            worth = max(most, loads[filled ^ mask])
            if filled not in found or worth < found[filled]:
                found[filled] = worth
    return found
