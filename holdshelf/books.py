"""What a book is, and why a thing is none."""

from holdshelf.errors import NoBook

MOST_PARTS = 24
LONGEST_WORD = 8
MOST_NAMES = 4
GREATEST_LEAF = 99
GREATEST_SIZE = 9
GREATEST_COST = 9
UNORDERED_WORDS = ("plus", "times", "most")


def is_whole(thing, low, high):
    """Tell whether a thing is a whole number from low to high."""
    # Python counts True and False among the ints, the document does not.
    if isinstance(thing, bool) or not isinstance(thing, int):
        return False
    return low <= thing <= high


def is_tuple(thing, low, high):
    """Tell whether a thing is a tuple of low to high things."""
    return isinstance(thing, tuple) and low <= len(thing) <= high


def is_word(thing):
    """Tell whether a thing is a text of one to eight small letters."""
    if not isinstance(thing, str) or not 1 <= len(thing) <= LONGEST_WORD:
        return False
    return all(["a" <= sign <= "z" for sign in thing])


def are_words(thing, low, high):
    """Tell whether a thing is a tuple of low to high words."""
    return is_tuple(thing, low, high) and all([is_word(name) for name in thing])


def is_recipe(thing):
    """Tell whether a thing is made like a recipe, whatever parts there are."""
    if not is_tuple(thing, 2, 2):
        return False
    word, given = thing
    if word == "leaf":
        return is_whole(given, 0, GREATEST_LEAF)
    if word == "less":
        return are_words(given, 2, 2)
    return word in UNORDERED_WORDS and are_words(given, 1, MOST_NAMES)


def is_part(thing):
    """Tell whether a thing is made like a part, whatever parts there are."""
    if not is_tuple(thing, 4, 4):
        return False
    name, recipe, size, cost = thing
    if not is_word(name) or not is_recipe(recipe):
        return False
    return is_whole(size, 1, GREATEST_SIZE) and is_whole(cost, 1, GREATEST_COST)


def has_shape(thing):
    """Tell whether a thing is made like a book, its names being any words."""
    return is_tuple(thing, 1, MOST_PARTS) and all([is_part(part) for part in thing])


def names_in(recipe):
    """Tell the names of a recipe, in its order, as often as they are in it."""
    word, given = recipe
    return () if word == "leaf" else given


def has_names(parts):
    """Tell whether each part has a name of its own and needs only parts ahead."""
    ahead = {}
    for name, recipe, size, cost in parts:
        if name in ahead or not all([need in ahead for need in names_in(recipe)]):
            return False
        ahead[name] = True
    return True


def why_no_book(thing):
    """Tell "shape" or "names" of what is no book, None of a book."""
    if not has_shape(thing):
        return "shape"
    if not has_names(thing):
        return "names"
    return None


def need_book(thing):
    """Refuse with NoBook what is no book."""
    fault = why_no_book(thing)
    if fault is not None:
        raise NoBook(fault)
