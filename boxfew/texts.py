"""Books as texts."""

from boxfew.books import need_book
from boxfew.errors import BadText

MOST_FIGURES = 9


def written(book):
    """Tell the text of a book."""
    need_book(book)
    room, sizes, apart, ahead = book
    rows = [_row("room", [room]), _row("sizes", sizes)]
    rows = rows + [_row("apart", pair) for pair in apart] + [_row("ahead", pair) for pair in ahead]
    return "\n".join(rows)


def read(text):
    """Tell the book of a text."""
    rows = [row.split(" ") for row in text.split("\n")]
    for at, words in enumerate(rows):
        if words[0] not in _sorts(rows, at) or not _are_numbers(words[0], words[1:]):
            raise BadText(at)
    if len(rows) == 1:
        raise BadText(1)
    room, sizes = _numbers(rows[0]), _numbers(rows[1])
    book = (room[0], sizes, _pairs(rows, "apart"), _pairs(rows, "ahead"))
    need_book(book)
    return book


def _row(sort, numbers):
    return " ".join([sort] + [str(number) for number in numbers])


def _sorts(rows, at):
    """Tell with which words a row may begin."""
    if at == 0:
        return ("room",)
    if at == 1:
        return ("sizes",)
    if rows[at - 1][0] == "ahead":
        return ("ahead",)
    return "apart", "ahead"


def _are_numbers(sort, words):
    """Tell whether these are as many numbers as stand in a row of this sort."""
    if sort == "room" and len(words) != 1:
        return False
    if sort in ("apart", "ahead") and len(words) != 2:
        return False
    return all(_is_written_number(word) for word in words)


def _is_written_number(word):
    if not word.isascii() or not word.isdigit() or len(word) > MOST_FIGURES:
        return False
    return word == "0" or word[0] != "0"


def _numbers(words):
    return tuple([int(word) for word in words[1:]])


def _pairs(rows, sort):
    return tuple([_numbers(words) for words in rows if words[0] == sort])
