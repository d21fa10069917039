"""The refusals of the program, one class for each."""


class ShelfError(ValueError):
    """What all refusals have in common."""


class NoBook(ShelfError):
    """A thing is no book; `fault` is "shape" or "names"."""

    def __init__(self, fault):
        super().__init__(f"no book: {fault}")
        self.fault = fault


class NoDeed(ShelfError):
    """A deed can't be done; `number` is its place in its row, from 0."""

    def __init__(self, number):
        super().__init__(f"deed {number} can't be done")
        self.number = number


class NoText(ShelfError):
    """A text is no book's; `line` is the place of its first wrong line, from 0."""

    def __init__(self, line):
        super().__init__(f"line {line} is no part's")
        self.line = line


class NoPart(ShelfError):
    """No part has the name."""


class NoTree(ShelfError):
    """The book is no tree."""


class NoLeaf(ShelfError):
    """The part is no leaf, or the number is none that a leaf can have."""


class Needed(ShelfError):
    """The part can't be taken out of the book."""


class NoRow(ShelfError):
    """The row is none that the desk knows."""


class NoStand(ShelfError):
    """No book stands at the desk."""
