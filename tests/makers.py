"""Books for the tests, and slow, plain answers to compare with."""

import contextlib
import itertools
import random
import signal

SAMPLE = (
    ("a", ("leaf", 40), 1, 1),
    ("b", ("leaf", 70), 2, 3),
    ("c", ("plus", ("a", "b")), 1, 2),
    ("d", ("less", ("a", "b")), 9, 9),
    ("e", ("times", ("c", "d", "c")), 1, 1),
    ("f", ("most", ("a", "d", "b", "a")), 3, 4),
)

NO_NAMES = ["", "A", "zz", "a ", " a", "a b", " ", "aa", "a1", "ab" * 700, "~", "a\n", "leaf", "plus"]


@contextlib.contextmanager
def at_once(seconds=5):
    """Fail, instead of hanging, where an answer is reckoned over and over."""

    def late(number, frame):
        raise AssertionError(f"no answer within {seconds} seconds")

    before = signal.signal(signal.SIGALRM, late)
    signal.alarm(seconds)
    try:
        yield
    finally:
        signal.alarm(0)
        signal.signal(signal.SIGALRM, before)


def names_of(book):
    return [part[0] for part in book]


def word_of(number):
    """Tell a word of its own for each number, not rising with it."""
    letters = "qwertyuiopasdfghjklzxcvbnm"
    return letters[number % 26] * (1 + number // 26)


def chain(parts, word, times):
    """A book in which each part needs the one ahead several times."""
    book = [(word_of(0), ("leaf", 3), 1, 1)]
    for number in range(1, parts):
        book.append((word_of(number), (word, (word_of(number - 1),) * times), 1, 1))
    return tuple(book)


def two_chains(word, times, second=3):
    """Twenty-four parts, two chains side by side, the first of each a leaf of 3 and of second."""
    book = []
    for number in range(24):
        recipe = (word, (word_of(number - 2),) * times)
        if number < 2:
            recipe = ("leaf", (3, second)[number])
        book.append((word_of(number), recipe, 1, 1))
    return tuple(book)


def some_recipe(chance, names):
    """A recipe by chance over these names, or None for a leaf."""
    word = chance.choice(["leaf", "plus", "times", "less", "most"])
    if word == "leaf" or not names:
        return None
    many = 2 if word == "less" else chance.randint(1, 4)
    return word, tuple(chance.choice(names) for place in range(many))


def turned(chance, recipe):
    """A recipe with its names in another order."""
    word, given = recipe
    return recipe if word == "leaf" else (word, tuple(chance.sample(given, len(given))))


def some_book(seed, most_parts=24, most_size=2, most_leaf=2):
    """A book by chance, the same for the same seed, in which many parts are alike."""
    chance = random.Random(seed)
    names = [word_of(number) for number in range(26)]
    chance.shuffle(names)
    book = []
    for number in range(chance.randint(1, most_parts)):
        recipe = some_recipe(chance, names[:number]) or ("leaf", chance.randint(0, most_leaf))
        size, cost = chance.randint(1, most_size), chance.randint(1, most_size)
        if book and chance.random() < 0.4:
            like = chance.choice(book)
            recipe, size, cost = turned(chance, like[1]), like[2], like[3]
        book.append((names[number], recipe, size, cost))
    return tuple(book)


def part_of(book, name):
    return [part for part in book if part[0] == name][0]


def needs(book, name):
    word, given = part_of(book, name)[1]
    return [] if word == "leaf" else list(given)


def plain_worth(book, name):
    word, given = part_of(book, name)[1]
    if word == "leaf":
        return given
    found = [plain_worth(book, need) for need in given]
    if word == "most":
        return sorted(found)[-1]
    if word == "less":
        return (100 + found[0] - found[1]) % 100
    total = found[0]
    for number in found[1:]:
        total = total + number if word == "plus" else total * number
    return int(str(total)[-2:])


def is_below(book, low, high):
    return low == high or any(is_below(book, low, need) for need in needs(book, high))


def plain_alike(book, one, other):
    """Two parts are alike as point 7 says it, all orders being tried."""
    first, second = part_of(book, one), part_of(book, other)
    if first[2:] != second[2:] or first[1][0] != second[1][0]:
        return False
    word = first[1][0]
    if word == "leaf":
        return first[1][1] == second[1][1]
    mine, others = first[1][1], second[1][1]
    if len(mine) != len(others):
        return False
    orders = [others] if word == "less" else itertools.permutations(others)
    return any(all(plain_alike(book, a, b) for a, b in zip(mine, order)) for order in orders)
