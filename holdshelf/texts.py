"""Books written as texts, and read again."""

from holdshelf.books import MOST_PARTS, is_part, need_book
from holdshelf.errors import NoText

MOST_FIGURES = 2
LEAST_WORDS = 5


def show_part(part):
    """Tell the line of a part, without its end."""
    name, (word, given), size, cost = part
    written = (str(given),) if word == "leaf" else given
    return " ".join([name, str(size), str(cost), word, *written])


def show_book(book):
    """Tell the text of a book."""
    return "".join([show_part(part) + "\n" for part in book])


def read_number(text):
    """Tell the number that a text of one to two figures writes with no 0 ahead, or None."""
    if not 1 <= len(text) <= MOST_FIGURES or not all(["0" <= sign <= "9" for sign in text]):
        return None
    if text.startswith("0") and text != "0":
        return None
    return int(text)


def read_part(line):
    """Tell the part that a line writes, whatever parts there are, or None."""
    words = line.split(" ")
    if len(words) < LEAST_WORDS:
        return None
    name, size, cost, word, *rest = words
    given = read_number(rest[0]) if word == "leaf" and len(rest) == 1 else tuple(rest)
    part = (name, (word, given), read_number(size), read_number(cost))
    return part if is_part(part) else None


def read_book(text):
    """Tell the book that a text writes, or refuse with NoText or NoBook."""
    lines = text.split("\n")
    # Behind the last line's end nothing is left.
    rest = lines.pop()
    parts = []
    for number, line in enumerate(lines):
        part = read_part(line)
        if part is None or number == MOST_PARTS:
            raise NoText(number)
        parts.append(part)
    if rest or not parts:
        raise NoText(len(parts))
    book = tuple(parts)
    need_book(book)
    return book
