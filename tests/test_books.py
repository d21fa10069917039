"""Points 4 and 5: what a book is, and why a thing is none."""

import copy
import random
import re
import unittest

from holdshelf.books import need_book, why_no_book
from holdshelf.errors import NoBook
from tests.makers import SAMPLE, chain, some_book, word_of

LEAF = ("a", ("leaf", 5), 1, 1)

WORD = "'[a-z]{1,8}'"
NAMES = rf"\((?:{WORD},|{WORD}(?:, {WORD}){{1,3}})\)"
RECIPE = (
    r"\((?:'leaf', (?:[0-9]|[1-9][0-9])"
    rf"|'(?:plus|times|most)', {NAMES}"
    rf"|'less', \({WORD}, {WORD}\))\)"
)
PART = rf"\({WORD}, {RECIPE}, [1-9], [1-9]\)"
BOOK = re.compile(rf"\((?:{PART},|{PART}(?:, {PART}){{1,23}})\)")

OTHER_THINGS = [
    0, 1, 2, 9, 10, 99, 100, -1, 10 ** 30, True, False, None, "", "a", "b", "leaf", "plus", "less", "most",
    "abcdefgh", "abcdefghi", "A", "a b", (), ("a",), ("a", "b"), ["a"], ["a", "b"], [], {}, {"a": 1}, ((),),
    ("leaf", 1), ("leaf", "a"), ("plus", ("a",)), ["leaf", 1], (None, None), ({}, []), LEAF, (LEAF,), [LEAF],
    ("a", "b", "c", "d", "e"), ((((((((((((1,),),),),),),),),),),),),
]


def plain_fault(thing):
    """Why a thing is no book, by how Python writes it: that tells 1 from True and tuples from lists."""
    if not BOOK.fullmatch(repr(thing)):
        return "shape"
    for place, part in enumerate(thing):
        ahead = [other[0] for other in thing[:place]]
        named = [] if part[1][0] == "leaf" else part[1][1]
        if part[0] in ahead or [name for name in named if name not in ahead]:
            return "names"
    return None


def places(thing):
    """All places within a thing, as rows of indexes."""
    found = [()]
    if isinstance(thing, tuple):
        for index, inner in enumerate(thing):
            found += [(index, *place) for place in places(inner)]
    return found


def replaced(thing, place, other):
    if not place:
        return other
    inner = replaced(thing[place[0]], place[1:], other)
    return thing[:place[0]] + (inner,) + thing[place[0] + 1:]


def with_recipe(recipe):
    ahead = tuple((name, ("leaf", 1), 1, 1) for name in ("a", "b", "c", "d", "e"))
    return (*ahead, ("z", recipe, 1, 1))


def leaves(many):
    return tuple((word_of(number), ("leaf", 0), 1, 1) for number in range(many))


class BookCase(unittest.TestCase):
    def check(self, thing, fault):
        self.assertEqual(why_no_book(thing), fault, thing)
        if fault is None:
            self.assertIsNone(need_book(thing))
            return
        with self.assertRaises(NoBook) as caught:
            need_book(thing)
        self.assertEqual(caught.exception.fault, fault)


class Shape(BookCase):
    def test_books(self):
        for book in (SAMPLE, (LEAF,), chain(24, "plus", 4)):
            self.check(book, None)

    def test_how_many_parts(self):
        for many, fault in ((0, "shape"), (1, None), (2, None), (23, None), (24, None), (25, "shape"), (60, "shape")):
            self.check(leaves(many), fault)

    def test_names_of_parts(self):
        for name in ("a", "z", "abcdefgh", "zzzzzzzz", "leaf", "plus"):
            self.check(((name, ("leaf", 1), 1, 1),), None)
        for name in ("", "abcdefghi", "A", "aB", "a1", "1", "a b", " a", "a ", "a\n", "`", "{", "a_", "\u00e4",
                     "\u00df", "\u0430", None, 1, True, ("a",), ["a"], {}, b"a"):
            self.check(((name, ("leaf", 1), 1, 1),), "shape")

    def test_size_and_cost(self):
        for number in range(1, 10):
            self.check((("a", ("leaf", 1), number, 1),), None)
            self.check((("a", ("leaf", 1), 1, number),), None)
        for number in (0, 10, -1, 100, 10 ** 40, True, False, None, "1", 1.0, (1,), [1], {}):
            self.check((("a", ("leaf", 1), number, 1),), "shape")
            self.check((("a", ("leaf", 1), 1, number),), "shape")

    def test_a_leafs_number(self):
        for number in range(100):
            self.check((("a", ("leaf", number), 1, 1),), None)
        for number in (-1, 100, 101, 10 ** 40, True, False, None, "1", "", 1.0, (1,), ("a",), [], {}):
            self.check((("a", ("leaf", number), 1, 1),), "shape")

    def test_words_of_recipes(self):
        for word in ("plus", "times", "most", "less"):
            self.check(with_recipe((word, ("a", "b"))), None)
        for word in ("", "Plus", "minus", "leaf", "least", "plus ", "les", "a", None, 0, True, ("plus",), ["plus"], {}):
            self.check(with_recipe((word, ("a", "b"))), "shape")

    def test_how_many_names(self):
        for word in ("plus", "times", "most"):
            for many, fault in ((0, "shape"), (1, None), (2, None), (3, None), (4, None), (5, "shape"), (9, "shape")):
                self.check(with_recipe((word, ("a", "b", "c", "d", "e", "a", "a", "a", "a")[:many])), fault)
        for many, fault in ((0, "shape"), (1, "shape"), (2, None), (3, "shape"), (4, "shape"), (5, "shape")):
            self.check(with_recipe(("less", ("a", "b", "c", "d", "e")[:many])), fault)

    def test_names_of_recipes_are_words(self):
        for word in ("plus", "times", "most", "less"):
            for name in ("", "A", "abcdefghi", "a ", None, 1, True, ("a",), ["a"], {}):
                self.check(with_recipe((word, (name, "a"))), "shape")
                self.check(with_recipe((word, ("a", name))), "shape")
            for names in ("ab", ["a", "b"], {"a": 1, "b": 2}, None, 2, True, (("a", "b"),)):
                self.check(with_recipe((word, names)), "shape")

    def test_tuples_of_the_right_length(self):
        for recipe in ((), ("leaf",), ("leaf", 1, 1), ["leaf", 1], ["plus", ("a",)], ("plus", "a"), ("plus", ("a",), 1),
                       "leaf", None, 7, False, {"leaf": 1}, (("leaf", 1),)):
            self.check(with_recipe(recipe), "shape")
        for part in ((), ("a",), LEAF[:3], (*LEAF, 1), list(LEAF), "abcd", None, 4, True, {}, (LEAF,), [LEAF]):
            self.check((part,), "shape")
            self.check((LEAF, part), "shape")
            self.check((part, LEAF), "shape")
        for thing in ([LEAF], list(SAMPLE), {"a": LEAF}, LEAF, [list(LEAF)]):
            self.check(thing, "shape")


class Names(BookCase):
    def test_two_parts_of_one_name(self):
        other = ("b", ("leaf", 5), 1, 1)
        self.check((LEAF, LEAF), "names")
        self.check((LEAF, other, ("a", ("plus", ("b",)), 2, 2)), "names")
        self.check((LEAF, ("a", ("plus", ("a",)), 2, 2)), "names")
        self.check((LEAF, other, ("c", ("leaf", 5), 1, 1), other), "names")

    def test_names_that_no_part_ahead_has(self):
        for word in ("plus", "times", "most", "less"):
            own, behind, none = [(word, ("a", name)) for name in ("z", "y", "x")]
            for recipe in (own, behind, none, (word, ("z", "a")), (word, ("x", "x"))):
                self.check((LEAF, ("z", recipe, 1, 1), ("y", ("leaf", 1), 1, 1)), "names")
                self.check((("z", recipe, 1, 1), LEAF, ("y", ("leaf", 1), 1, 1)), "names")
        self.check((("a", ("plus", ("a",)), 1, 1),), "names")
        self.check(with_recipe(("most", ("a", "b", "c", "x"))), "names")

    def test_one_name_several_times_is_no_fault(self):
        self.check(with_recipe(("less", ("a", "a"))), None)
        for word in ("plus", "times", "most"):
            self.check(with_recipe((word, ("a", "a", "a", "a"))), None)

    def test_with_both_faults_it_is_shape(self):
        bad_names, bad_shape = ("z", ("plus", ("z",)), 1, 1), ("b", ("leaf", 100), 1, 1)
        for book in ((LEAF, bad_names, bad_shape), (bad_shape, LEAF, bad_names), (LEAF, LEAF, bad_shape),
                     (bad_shape, LEAF, LEAF), (("z", ("plus", ("z", "Z")), 1, 1),), (("z", ("plus", ("z",)), 1, 0),),
                     (LEAF,) * 25):
            self.check(book, "shape")


class Anything(BookCase):
    def test_things_of_other_kinds(self):
        for thing in OTHER_THINGS:
            self.check(thing, plain_fault(thing))

    def test_a_book_with_one_thing_in_it_replaced(self):
        for place in places(SAMPLE):
            for other in OTHER_THINGS:
                thing = replaced(SAMPLE, place, other)
                self.check(thing, plain_fault(thing))

    def test_books_by_chance_and_what_is_near_them(self):
        chance = random.Random(4)
        told = {"shape": 0, "names": 0, None: 0}
        for seed in range(300):
            book = some_book(seed)
            self.check(book, None)
            for turn in range(10):
                thing = replaced(book, chance.choice(places(book)), chance.choice(OTHER_THINGS))
                self.check(thing, plain_fault(thing))
                told[plain_fault(thing)] += 1
            mixed = list(book)
            chance.shuffle(mixed)
            self.check(tuple(mixed), plain_fault(tuple(mixed)))
        self.assertTrue(min(told.values()) > 50, told)

    def test_nothing_handed_in_is_changed(self):
        for thing in ([LEAF, ["x"], {"y": [1]}], (["a"], LEAF), {"a": [LEAF]}, (("a", ("plus", ["a"]), 1, 1),)):
            before = copy.deepcopy(thing)
            why_no_book(thing)
            with self.assertRaises(NoBook):
                need_book(thing)
            self.assertEqual(thing, before)


if __name__ == "__main__":
    unittest.main()
