"""A shelf, and what rows of deeds do on it."""

from holdshelf.books import names_in
from holdshelf.errors import NoDeed


class Shelf:
    """A shelf of some room, at first with nothing on it, for the parts of a book."""

    def __init__(self, book, room):
        self.parts = {part[0]: part for part in book}
        self.room = room
        self.held = {}
        self.load = 0
        self.most = 0
        self.cost = 0

    def can_make(self, name):
        """Tell whether a name is that of a part that can be made now."""
        if name not in self.parts or name in self.held:
            return False
        part, recipe, size, cost = self.parts[name]
        return self.load + size <= self.room and all([need in self.held for need in names_in(recipe)])

    def make(self, name):
        """Put a part that can be made on the shelf."""
        part, recipe, size, cost = self.parts[name]
        self.held[name] = True
        self.load += size
        self.most = max(self.most, self.load)
        self.cost += cost

    def drop(self, name):
        """Take a part that is on the shelf off it."""
        self.held.pop(name)
        self.load -= self.parts[name][2]

    def do(self, word, name):
        """Do a deed where it can be done; tell whether it was done."""
        if word == "make" and self.can_make(name):
            self.make(name)
            return True
        if word == "drop" and name in self.held:
            self.drop(name)
            return True
        return False


def run(book, room, deeds):
    """Tell (held, cost, most) of a row of deeds, or refuse with NoDeed."""
    shelf = Shelf(book, room)
    for number, (word, name) in enumerate(deeds):
        if not shelf.do(word, name):
            raise NoDeed(number)
    held = [part[0] for part in book if part[0] in shelf.held]
    return held, shelf.cost, shelf.most


def answers(book, room, deeds, wishes):
    """Tell whether a row of deeds can be done and makes each wish."""
    try:
        run(book, room, deeds)
    except NoDeed:
        return False
    return all([("make", wish) in deeds for wish in wishes])
