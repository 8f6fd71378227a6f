"""What DOC.md says, told a second time in the plainest way, and books to try it on."""

import random
import re
from itertools import combinations, permutations, product


def subsets(things):
    for count in range(len(things) + 1):
        for held in combinations(things, count):
            yield list(held)


def is_good(book, packing):
    room, sizes, apart, ahead = book
    for box in packing:
        if sum(size for at, size in zip(packing, sizes) if at == box) > room:
            return False
    return (all(packing[one] != packing[other] for one, other in apart)
            and all(packing[one] <= packing[other] for one, other in ahead))


def good_packings(book, many):
    return [list(packing) for packing in product(range(many), repeat=len(book[1])) if is_good(book, packing)]


def fewest_boxes(book, limit):
    """The fewest boxes of a good packing, None if there is none into limit boxes."""
    for many in range(limit + 1):
        if good_packings(book, many):
            return many
    return None


def moved(told, packing):
    return sum(wanted is not None and wanted != box for wanted, box in zip(told, packing))


def refit(book, told, many, barred):
    """The least of all good packings, tried one by one."""
    found = [(moved(told, packing), packing) for packing in good_packings(book, many)
             if not set(packing) & set(barred)]
    return min(found) if found else None


def spread(book, many):
    found = [(heaviest_box(book, packing), packing) for packing in good_packings(book, many)]
    return min(found) if found else None


def heaviest_box(book, packing):
    return max([sum(size for at, size in zip(packing, book[1]) if at == box) for box in packing], default=0)


def written(book):
    """The text of anything like a book, a good one or not."""
    rows = [["room", book[0]], ["sizes", *book[1]], *[["apart", *pair] for pair in book[2]],
            *[["ahead", *pair] for pair in book[3]]]
    return "\n".join(" ".join(map(str, row)) for row in rows)


NUMBER = " (0|[1-9][0-9]{0,8})"
ROOM, SIZES = "room" + NUMBER, f"sizes({NUMBER})*"
AHEAD, PAIR = "ahead" + NUMBER * 2, "(apart|ahead)" + NUMBER * 2


def wrong_row(text):
    """The row for which a text is refused with BadText, or None."""
    rows = text.split("\n")
    forms = [ROOM, SIZES] + [AHEAD if row.startswith("ahead") else PAIR for row in rows[1:]]
    for at, row in enumerate(rows):
        if not re.fullmatch(forms[at], row):
            return at
    return 1 if len(rows) == 1 else None


def heavier(book, weights, most):
    room, sizes, apart, _ = book
    found = []
    for held in subsets(range(len(sizes))):
        if sum(sizes[thing] for thing in held) > room:
            continue
        if any(one in held and other in held for one, other in apart):
            continue
        if sum(weights[thing] for thing in held) > most:
            found.append(held)
    return min(found) if found else None


def is_shown(book, many, node, boxes=None):
    """Point 7 for well-formed nodes; boxes is a list of lists of things."""
    room, sizes, apart, ahead = book
    boxes = [[] for _ in range(many)] if boxes is None else boxes
    where = {thing: at for at, held in enumerate(boxes) for thing in held}
    word, *parts = node
    if word == "over":
        return 0 <= parts[0] < many and sum(sizes[thing] for thing in boxes[parts[0]]) > room
    if word in ("apart", "ahead"):
        one, other = parts
        if one not in where or other not in where:
            return False
        if word == "apart":
            return where[one] == where[other] and (one, other) in apart
        return where[one] > where[other] and (one, other) in ahead
    if word == "room":
        left = sum(room - sum(sizes[thing] for thing in held) for held in boxes)
        return sum(size for thing, size in enumerate(sizes) if thing not in where) > left
    number, nodes = parts
    if number in where or not 0 <= number < len(sizes):
        return False
    bearing = len([held for held in boxes if held])
    ways = many if ahead else min(many, bearing + 1)
    if len(nodes) != ways:
        return False
    for box in range(ways):
        put = [held + [number] if at == box else held for at, held in enumerate(boxes)]
        if not is_shown(book, many, nodes[box], put):
            return False
    return True


def shows(book, many, paper):
    if paper[0] == "tree":
        return is_shown(book, many - 1, paper[1])
    _, weights, most = paper
    return heavier(book, weights, most) is None and sum(weights) > (many - 1) * most


def full_tree(book, many, order, where=()):
    """The tree of all cases that puts in the things of order; what can't be shown is a wrong leaf."""
    placed = dict(where)
    for one, other in book[2]:
        if one in placed and placed[one] == placed.get(other):
            return ("apart", one, other)
    for one, other in book[3]:
        if one in placed and other in placed and placed[one] > placed[other]:
            return ("ahead", one, other)
    for box in range(many):
        if sum(book[1][thing] for thing in placed if placed[thing] == box) > book[0]:
            return ("over", box)
    if not order:
        return ("room",)
    ways = many if book[3] else min(many, len(set(placed.values())) + 1)
    return ("thing", order[0], tuple(
        full_tree(book, many, order[1:], (*where, (order[0], box))) for box in range(ways)))


def tiny_books():
    """All books of room up to 3, up to three things, and a few pairs."""
    for room in (1, 2, 3):
        for count in range(4):
            aparts = list(combinations(range(count), 2))
            aheads = list(permutations(range(count), 2))
            pairs = [(apart, ahead) for apart in subsets(aparts) for ahead in subsets(aheads)
                     if len(apart) <= 2 and len(ahead) <= 2]
            for sizes in product(range(1, room + 1), repeat=count):
                if list(sizes) != sorted(sizes):
                    continue
                for apart, ahead in pairs:
                    yield room, sizes, tuple(apart), tuple(ahead)


def random_book(chance, least, most, rings=True):
    count = chance.randint(least, most)
    room = chance.choice((1, 2, 3, 5, 7, 10, 12, 30, 999))
    widest = chance.choice((room, room, max(1, room // 2), max(1, room // 3)))
    sizes = tuple(chance.randint(1, widest) for _ in range(count))
    apart = list(combinations(range(count), 2))
    ahead = list(permutations(range(count), 2))
    if not rings or chance.random() < 0.7:
        ahead = [(one, other) for one, other in ahead if one < other]
    chance.shuffle(apart)
    chance.shuffle(ahead)
    apart = apart[:chance.randint(0, min(20, 2 * count))]
    ahead = ahead[:chance.choice((0, chance.randint(0, min(20, 2 * count))))]
    return room, sizes, tuple(apart), tuple(ahead)


def random_books(seed, times, least, most, rings=True):
    chance = random.Random(seed)
    return [random_book(chance, least, most, rings) for _ in range(times)]
