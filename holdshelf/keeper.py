"""A book that changes, and what its parts made last."""

from holdshelf.books import GREATEST_LEAF, is_whole, names_in, need_book
from holdshelf.errors import Needed, NoLeaf
from holdshelf.worths import below, need_part, recipe_worth


def is_leaf(book, name):
    """Tell whether a name is that of a leaf."""
    return any([part[0] == name and part[1][0] == "leaf" for part in book])


def is_needed(book, name):
    """Tell whether a part of the book needs the named one."""
    return any([name in names_in(part[1]) for part in book])


def with_leaf(part, number):
    """Tell a part with a leaf of this number as its recipe."""
    name, recipe, size, cost = part
    return name, ("leaf", number), size, cost


class Keeper:
    """A book as it stands, and for each part perhaps (worth, given): what it made last, and of which worths."""

    def __init__(self, book):
        self.book = book
        self.made = {}

    def ask(self, names):
        """Tell (worths, cost, made) of names, what isn't fresh below them being made anew, or refuse with NoPart."""
        wanted = below(self.book, names)
        anew = []
        total = 0
        for name, recipe, size, cost in self.book:
            if name in wanted and self.renew(name, recipe):
                anew.append(name)
                total += cost
        return [self.made[name][0] for name in names], total, anew

    def renew(self, name, recipe):
        """Make a part anew where it isn't fresh; tell whether it was made."""
        given = tuple([self.made[need][0] for need in names_in(recipe)])
        if self.is_fresh(name, recipe, given):
            return False
        self.made[name] = (recipe_worth(recipe, given), given)
        return True

    def is_fresh(self, name, recipe, given):
        """Tell whether a part made its leaf's number, or was made of the worths that are given now."""
        if name not in self.made:
            return False
        made_worth, made_of = self.made[name]
        word, number = recipe
        return made_worth == number if word == "leaf" else made_of == given

    def change(self, name, n):
        """Give a leaf another number, or refuse with NoPart or NoLeaf."""
        need_part(self.book, name)
        if not is_leaf(self.book, name) or not is_whole(n, 0, GREATEST_LEAF):
            raise NoLeaf(f"{name} is no leaf, or no leaf can be of this number")
        self.book = tuple([with_leaf(part, n) if part[0] == name else part for part in self.book])

    def put(self, part):
        """Put a part behind all others, or refuse with NoBook."""
        book = (*self.book, part)
        need_book(book)
        self.book = book

    def out(self, name):
        """Take out a part that no other needs, and what it made, or refuse with NoPart or Needed."""
        need_part(self.book, name)
        if len(self.book) == 1 or is_needed(self.book, name):
            raise Needed(f"{name} is needed, or the only part")
        self.forget(name)
        self.book = tuple([part for part in self.book if part[0] != name])

    def forget(self, name):
        """Take away what a part made, or refuse with NoPart."""
        need_part(self.book, name)
        self.made.pop(name, None)

    def told(self):
        """Tell the book as it stands."""
        return self.book
