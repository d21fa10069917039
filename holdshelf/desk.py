"""A desk that is told rows and answers with texts."""

from holdshelf.again import least
from holdshelf.books import is_word
from holdshelf.cheap import cheapest
from holdshelf.errors import NoRow, NoStand
from holdshelf.joined import joined
from holdshelf.keeper import Keeper
from holdshelf.once import once
from holdshelf.texts import read_book, read_number, show_book
from holdshelf.trees import is_tree, least_room
from holdshelf.worths import need_part, worth

BOOK_ROW = "book "
MOST_WISHES = 3
MOST_PARTS_ONCE = 9
MOST_PARTS_AGAIN = 7


def wishes_of(book, names, most_parts):
    """Tell names as wishes, or refuse with NoPart, and with NoRow where there is too much or they aren't rising."""
    for name in names:
        need_part(book, name)
    if len(book) > most_parts or len(names) > MOST_WISHES or names != sorted(set(names)):
        raise NoRow("the book is too great, or the names are no wishes")
    return names


def answer_worth(keeper, given):
    """Answer with the worth of a part."""
    return str(worth(keeper.told(), given[0]))


def answer_ask(keeper, given):
    """Answer with worths, what they cost and how many parts were made anew."""
    found, cost, made = keeper.ask(given)
    return " ".join([str(number) for number in [*found, cost, len(made)]])


def answer_change(keeper, given):
    """Change a leaf."""
    keeper.change(given[0], read_number(given[1]))
    return "ok"


def answer_forget(keeper, given):
    """Forget what a part made."""
    keeper.forget(given[0])
    return "ok"


def answer_joined(keeper, given):
    """Answer with the text of the joined book."""
    return show_book(joined(keeper.told())[0])


def answer_room(keeper, given):
    """Answer with the least room for wishes."""
    book = keeper.told()
    return str(least(book, wishes_of(book, given, MOST_PARTS_AGAIN))[0])


def answer_once(keeper, given):
    """Answer with the least room for wishes with each part made once."""
    book = keeper.told()
    return str(once(book, wishes_of(book, given, MOST_PARTS_ONCE))[0])


def answer_least(keeper, given):
    """Answer with the least cost of wishes in a room, or shut."""
    book = keeper.told()
    found = cheapest(book, wishes_of(book, given[1:], MOST_PARTS_AGAIN), read_number(given[0]))
    return str(found[1]) if found[0] == "made" else "shut"


def answer_tree(keeper, given):
    """Answer with the least room of a tree, or no."""
    book = keeper.told()
    return str(least_room(book)[0]) if is_tree(book) else "no"


ANSWERS = {
    "worth": answer_worth,
    "ask": answer_ask,
    "change": answer_change,
    "forget": answer_forget,
    "joined": answer_joined,
    "room": answer_room,
    "once": answer_once,
    "least": answer_least,
    "tree": answer_tree,
}

# What follows each row's first word: N is a name, V a number, R one above 0.
SHAPES = {
    "worth": "N",
    "ask": "N",
    "change": "NV",
    "forget": "N",
    "joined": "",
    "room": "N",
    "once": "N",
    "least": "RN",
    "tree": "",
}

# These rows may have more names behind the first one.
MANY_NAMES = ("ask", "room", "once", "least")


def is_such(text, sign):
    """Tell whether a text is such as a sign of a shape says."""
    if sign == "N":
        return is_word(text)
    number = read_number(text)
    return number is not None and (sign == "V" or number > 0)


def is_row(words):
    """Tell whether words are a row of the desk, whatever book there is."""
    word, *given = words
    if word not in SHAPES:
        return False
    shape = SHAPES[word]
    if word in MANY_NAMES:
        shape += "N" * (len(given) - len(shape))
    return len(given) == len(shape) and all([is_such(text, sign) for text, sign in zip(given, shape)])


class Desk:
    """A desk, at first with no book."""

    def __init__(self):
        self.keeper = None

    def say(self, row):
        """Answer a row, or refuse it."""
        if row.startswith(BOOK_ROW):
            self.keeper = Keeper(read_book(row[len(BOOK_ROW):]))
            return "ok"
        words = row.split(" ")
        if not is_row(words):
            raise NoRow("there is no such row")
        if self.keeper is None:
            raise NoStand("no book stands at the desk")
        answer = ANSWERS[words[0]]
        return answer(self.keeper, words[1:])
