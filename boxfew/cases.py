"""Trees of cases, looked over node by node."""

from boxfew.books import is_number, is_thing, need_book


def is_shown(book, many, node):
    """Tell whether the tree that begins with node shows that many boxes don't do."""
    need_book(book)
    return _shows(book, many, node, {})


def width(book, many, where):
    """Tell into how many boxes a thing may go; where has the box of each thing that is put in."""
    if book[3]:
        return many
    # Without pairs of ahead boxes are filled from 0 on, so none before the last stays empty.
    return min(many, max(where.values(), default=-1) + 2)


def _shows(book, many, node, where):
    """Look a node over; where has the box of each thing that is put in."""
    if not isinstance(node, tuple):
        return False
    match node:
        case ("over", box):
            return is_number(box) and _borne(book, box, where) > book[0]
        case ("apart", one, other):
            return _are_in(where, one, other) and where[one] == where[other] and (one, other) in book[2]
        case ("ahead", one, other):
            return _are_in(where, one, other) and where[one] > where[other] and (one, other) in book[3]
        case ("room",):
            return _lacks_room(book, many)
        case ("thing", number, nodes):
            return _may_be_put(book, number, where) and _shows_all(book, many, number, nodes, where)
        case _:
            return False


def _borne(book, box, where):
    return sum(book[1][thing] for thing in where if where[thing] == box)


def _are_in(where, one, other):
    return is_number(one) and is_number(other) and one in where and other in where


def _lacks_room(book, many):
    # Each thing that is put in takes as much off what is left as off what is still to put in,
    # so the two differ by the same wherever the things are.
    return sum(book[1]) > many * book[0]


def _may_be_put(book, number, where):
    return is_thing(book, number) and number not in where


def _shows_all(book, many, number, nodes, where):
    """Look over the nodes for all boxes into which the thing may go."""
    if not isinstance(nodes, tuple) or len(nodes) != width(book, many, where):
        return False
    for box, node in enumerate(nodes):
        if not _shows(book, many, node, {**where, number: box}):
            return False
    return True
