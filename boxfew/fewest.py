"""The fewest boxes, and whether a paper shows that fewer don't do."""

from boxfew.books import is_number, need_book, need_packing
from boxfew.cases import is_shown
from boxfew.fillings import fewest_filled
from boxfew.heaviest import heaviest
from boxfew.trees import grown
from boxfew.weighings import heavier


def fewest(book):
    """Tell (many, packing, paper): the fewest boxes, a good packing, and why fewer don't do."""
    need_packing(book)
    packing = fewest_filled(book)
    many = max(packing, default=-1) + 1
    # A tree for many boxes can be very large, so it comes only where no weighing shows it.
    weights, most = heaviest(book)
    if sum(weights) > (many - 1) * most:
        return many, packing, ("weighing", weights, most)
    return many, packing, ("tree", grown(book, many - 1))


def shows(book, many, paper):
    """Tell whether a paper shows that many less 1 boxes don't do."""
    need_book(book)
    match paper:
        case ("weighing", weights, most):
            return _is_weighing(book, weights, most) and _outweighs(book, many - 1, weights, most)
        case ("tree", node):
            return is_shown(book, many - 1, node)
        case _:
            return False


def _is_weighing(book, weights, most):
    if not isinstance(weights, list) or len(weights) != len(book[1]):
        return False
    return all(is_number(weight) and weight >= 0 for weight in weights) and is_number(most) and most >= 1


def _outweighs(book, many, weights, most):
    return sum(weights) > many * most and heavier(book, weights, most) is None
