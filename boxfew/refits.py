"""Packings with as few things moved as can be."""

from boxfew.books import need_book
from boxfew.errors import BadPacking, NoBox
from boxfew.fillings import onward, sums
from boxfew.packings import is_good


def refit(book, told, many, barred):
    """Tell (moved, packing): of the good packings that move the fewest things the least, None if there is none."""
    need_book(book)
    count = len(book[1])
    if len(told) != count:
        raise BadPacking("for each thing a box is told, or None")
    boxes = _boxes_of_use(told, many, barred)
    # A price has figures of so many bits: how many things are moved, then the place of each thing's
    # box among the boxes. So the least price is that of the fewest moved and the least packing.
    bits = len(boxes).bit_length()
    ways = onward(book)
    least = {0: 0}
    for at, box in enumerate(boxes):
        least = _with_box(least, ways, sums(_prices(told, bits, at, box)))
    price = least.get(len(ways) - 1)
    if price is None:
        return None
    return price >> bits * count, [boxes[_place(price, bits, count - thing)] for thing in range(count)]


def emptied(book, packing, box):
    """Tell what refit tells of a good packing with one of the boxes that it takes barred."""
    if not is_good(book, packing):
        raise BadPacking("the packing isn't good")
    many = max(packing, default=-1) + 1
    if not 0 <= box < many:
        raise NoBox(f"the packing takes {many} boxes")
    return refit(book, packing, many, [box])


def _boxes_of_use(told, many, barred):
    """Tell the boxes of which one is ever used, rising: from 0 and from each told one on a box for each thing."""
    # What is in other boxes may as well be in these, lower and in the same order: no more is moved by it.
    shut = {box: True for box in barred}
    starts = [0] + [box for box in told if box is not None and box > 0]
    found = []
    for start in starts:
        found.extend(_open_boxes(start, many, shut, len(told)))
    return sorted(set(found))


def _open_boxes(start, many, shut, count):
    """Tell the first boxes from start on that aren't barred."""
    found = []
    box = start
    while box < many and len(found) < count:
        if box not in shut:
            found.append(box)
        box += 1
    return found


def _prices(told, bits, at, box):
    """Tell what each thing adds to a price if it is in the box of place at."""
    count = len(told)
    prices = []
    for thing, wanted in enumerate(told):
        moved = int(wanted is not None and wanted != box)
        prices.append((moved << bits * count) + (at << bits * (count - 1 - thing)))
    return prices


def _with_box(least, ways, prices):
    """Tell the least price of each set with one box more, that bears something or nothing."""
    found = dict(least)
    for mask, price in least.items():
        for filled in ways[mask]:
            total = price + prices[filled ^ mask]
            if filled not in found or total < found[filled]:
                found[filled] = total
    return found


def _place(price, bits, left):
    """Tell the place that a price has for the thing from which on so many are left."""
    return (price >> bits * (left - 1)) & ((1 << bits) - 1)
