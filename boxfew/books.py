"""Books, and the groups of things that must be in one box."""

from boxfew.errors import BadBook, NoPacking

MOST_ROOM = 999
MOST_THINGS = 10
MOST_PAIRS = 20


def need_book(book):
    """Refuse with BadBook what is no book."""
    why = _wrong_part(book)
    if why is not None:
        raise BadBook(why)


def groups(book):
    """Tell all groups, each a rising list, by their least things."""
    need_book(book)
    leads = _leads(book)
    things = range(len(book[1]))
    found = []
    for thing in things:
        group = [other for other in things if leads[thing][other] and leads[other][thing]]
        if group[0] == thing:
            found.append(group)
    return found


def need_packing(book):
    """Refuse with NoPacking a book that has no good packing."""
    for group in groups(book):
        if not _fits_one_box(book, group):
            raise NoPacking(group)


def is_number(worth):
    """Tell whether this is a whole number."""
    return isinstance(worth, int) and not isinstance(worth, bool)


def is_thing(book, number):
    """Tell whether this is the number of a thing."""
    return is_number(number) and 0 <= number < len(book[1])


def _wrong_part(book):
    """Tell the word of the first part that isn't as a book's is, or None."""
    if len(book) < 1 or not 1 <= book[0] <= MOST_ROOM:
        return "room"
    if len(book) < 2 or not _are_sizes(book[1], book[0]):
        return "sizes"
    if len(book) < 3 or not _are_pairs(book[2], len(book[1])) or not _are_rising(book[2]):
        return "apart"
    if len(book) != 4 or not _are_pairs(book[3], len(book[1])):
        return "ahead"
    return None


def _are_sizes(sizes, room):
    return len(sizes) <= MOST_THINGS and all(1 <= size <= room for size in sizes)


def _are_pairs(pairs, count):
    """Tell whether these are pairs of two unlike things each, none of them twice."""
    if len(pairs) > MOST_PAIRS or len(set(pairs)) < len(pairs):
        return False
    return all(_is_pair(pair, count) for pair in pairs)


def _is_pair(pair, count):
    return len(pair) == 2 and pair[0] != pair[1] and min(pair) >= 0 and max(pair) < count


def _are_rising(pairs):
    return all(one < other for one, other in pairs)


def _leads(book):
    """Tell for each two things whether pairs of ahead lead on from the first to the second."""
    things = range(len(book[1]))
    leads = [[here == there for there in things] for here in things]
    for one, other in book[3]:
        leads[one][other] = True
    for middle in things:
        onward = leads[middle]
        for one in things:
            if leads[one][middle]:
                leads[one] = [leads[one][end] or onward[end] for end in things]
    return leads


def _fits_one_box(book, group):
    room, sizes, apart, _ = book
    if sum(sizes[thing] for thing in group) > room:
        return False
    return not any(one in group and other in group for one, other in apart)
