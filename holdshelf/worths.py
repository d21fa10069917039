"""What the parts of a book are worth, and which lie below and above others."""

from holdshelf.books import names_in
from holdshelf.errors import NoPart

HUNDRED = 100


def need_part(book, name):
    """Refuse with NoPart a name that no part of the book has."""
    if name not in [part[0] for part in book]:
        raise NoPart(f"no part is called {name!r}")


def product(numbers):
    """Tell the product of numbers."""
    found = 1
    for number in numbers:
        found *= number
    return found


def recipe_worth(recipe, given):
    """Tell what a recipe makes of the worths of its names, given in its order."""
    word, number = recipe
    if word == "leaf":
        return number
    if word == "plus":
        return sum(given) % HUNDRED
    if word == "times":
        return product(given) % HUNDRED
    if word == "less":
        return (given[0] - given[1]) % HUNDRED
    return max(given)


def worths(book):
    """Tell the worth of each part, by its name."""
    found = {}
    for name, recipe, size, cost in book:
        found[name] = recipe_worth(recipe, [found[need] for need in names_in(recipe)])
    return found


def worth(book, name):
    """Tell the worth of one part, or refuse with NoPart."""
    need_part(book, name)
    return worths(book)[name]


def below(book, names):
    """Tell the named parts and all that they need, in the book's order, or refuse with NoPart."""
    for name in names:
        need_part(book, name)
    reached = {name: True for name in names}
    # A part needs only parts ahead, so one walk from the end reaches all.
    for name, recipe, size, cost in reversed(book):
        if name in reached:
            for need in names_in(recipe):
                reached[need] = True
    return [part[0] for part in book if part[0] in reached]


def above(book, name):
    """Tell the named part and all that need it, in the book's order, or refuse with NoPart."""
    need_part(book, name)
    reached = {name: True}
    for user, recipe, size, cost in book:
        if any([need in reached for need in names_in(recipe)]):
            reached[user] = True
    return [part[0] for part in book if part[0] in reached]
