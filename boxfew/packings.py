"""Packings: whether they are good, and what their boxes bear."""

from boxfew.books import need_book
from boxfew.errors import BadPacking


def is_good(book, packing):
    """Tell whether a packing is good."""
    _need_boxes(book, packing)
    room, sizes, apart, ahead = book
    # A box may stand very far off, so only the boxes that bear something are kept.
    borne = {}
    for box, size in zip(packing, sizes):
        borne[box] = borne.get(box, 0) + size
    if any(load > room for load in borne.values()):
        return False
    if any(packing[one] == packing[other] for one, other in apart):
        return False
    return all(packing[one] <= packing[other] for one, other in ahead)


def loads(book, packing):
    """Tell what each box that a packing takes bears."""
    _need_boxes(book, packing)
    borne = [0] * (max(packing, default=-1) + 1)
    for box, size in zip(packing, book[1]):
        borne[box] += size
    return borne


def _need_boxes(book, packing):
    """Refuse with BadPacking a list that doesn't have a box's number for each thing."""
    need_book(book)
    if len(packing) != len(book[1]):
        raise BadPacking("a packing has a box for each thing")
    if any(box < 0 for box in packing):
        raise BadPacking("boxes are numbered from 0")
