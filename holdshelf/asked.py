"""What is needed for some wishes."""

from holdshelf.books import names_in
from holdshelf.worths import below


def in_order(names, order):
    """Tell which names of an order are among some names, in this order."""
    return tuple([name for name in order if name in names])


class Asked:
    """The parts that are needed for some wishes, and the wishes, in the book's order."""

    def __init__(self, book, wishes):
        self.names = tuple(below(book, wishes))
        self.wishes = in_order(wishes, self.names)
        self.sizes = {name: size for name, recipe, size, cost in book}
        self.costs = {name: cost for name, recipe, size, cost in book}
        self.needs = {name: in_order(names_in(recipe), self.names) for name, recipe, size, cost in book}

    def load_of(self, names):
        """Tell the sizes of some parts together."""
        return sum([self.sizes[name] for name in names])

    def cost_of(self, deed):
        """Tell what a deed costs; drops cost nothing."""
        word, name = deed
        return self.costs[name] if word == "make" else 0

    def least_load(self):
        """Tell the room without which some part, with what it needs, is never on the shelf."""
        return max([self.load_of([name, *self.needs[name]]) for name in self.names], default=0)
