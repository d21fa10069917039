"""Which parts are alike, and a book in which each is there once."""

from holdshelf.books import UNORDERED_WORDS
from holdshelf.worths import need_part


def renamed(recipe, firsts):
    """Tell a recipe with the names of the first alike parts, each in its place."""
    word, given = recipe
    if word == "leaf":
        return recipe
    return word, tuple([firsts[name] for name in given])


def recipe_mark(recipe, firsts):
    """Tell what recipes have in common that make their parts alike."""
    word, given = renamed(recipe, firsts)
    if word in UNORDERED_WORDS:
        return word, tuple(sorted(given))
    return word, given


def first_alikes(book):
    """Tell of each name that of the first part that is alike."""
    firsts = {}
    by_mark = {}
    for name, recipe, size, cost in book:
        mark = (recipe_mark(recipe, firsts), size, cost)
        firsts[name] = by_mark.setdefault(mark, name)
    return firsts


def are_alike(book, one, other):
    """Tell whether two parts are alike, or refuse with NoPart."""
    need_part(book, one)
    need_part(book, other)
    firsts = first_alikes(book)
    return firsts[one] == firsts[other]


def joined(book):
    """Tell the book with each part once, and which part stands for each name."""
    firsts = first_alikes(book)
    kept = [
        (name, renamed(recipe, firsts), size, cost)
        for name, recipe, size, cost in book
        if firsts[name] == name
    ]
    return tuple(kept), firsts
