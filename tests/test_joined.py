"""Point 7: which parts are alike, and joined books."""

import unittest

from holdshelf.books import why_no_book
from holdshelf.errors import NoPart
from holdshelf.joined import are_alike, joined
from holdshelf.worths import worths
from tests.makers import NO_NAMES, SAMPLE, at_once, names_of, plain_alike, some_book, two_chains, word_of

# b is alike to a, d to c: each recipe below may name either.
LEAVES = (
    ("a", ("leaf", 1), 1, 1),
    ("b", ("leaf", 1), 1, 1),
    ("c", ("leaf", 2), 1, 1),
    ("d", ("leaf", 2), 1, 1),
)


def alike(one, other):
    """Whether two recipes over LEAVES, with one size and cost, make alike parts."""
    book = (*LEAVES, ("y", one, 2, 3), ("z", other, 2, 3))
    told = are_alike(book, "y", "z")
    if told is not are_alike(book, "z", "y"):
        raise AssertionError("alike in one order only")
    return told


class Alike(unittest.TestCase):
    def test_leaves(self):
        book = (
            ("a", ("leaf", 7), 2, 3),
            ("b", ("leaf", 7), 2, 3),
            ("c", ("leaf", 8), 2, 3),
            ("d", ("leaf", 7), 3, 3),
            ("e", ("leaf", 7), 2, 2),
            ("f", ("leaf", 7), 3, 2),
        )
        for one in names_of(book):
            for other in names_of(book):
                expected = one == other or {one, other} == {"a", "b"}
                self.assertIs(are_alike(book, one, other), expected, (one, other))

    def test_size_and_cost_of_other_parts(self):
        for word in ("plus", "times", "most", "less"):
            recipe = (word, ("a", "c"))
            book = (*LEAVES, ("w", recipe, 1, 2), ("x", recipe, 1, 2), ("y", recipe, 2, 1), ("z", recipe, 2, 2))
            self.assertIs(are_alike(book, "w", "x"), True)
            for one, other in ("wy", "wz", "yz", "xy"):
                self.assertIs(are_alike(book, one, other), False)

    def test_words(self):
        for one in ("plus", "times", "most", "less"):
            for other in ("plus", "times", "most", "less"):
                self.assertIs(alike((one, ("a", "c")), (other, ("a", "c"))), one == other)

    def test_a_leaf_is_not_alike_to_another_recipe_of_its_worth(self):
        self.assertIs(alike(("leaf", 1), ("plus", ("a",))), False)
        self.assertIs(alike(("leaf", 1), ("leaf", 1)), True)

    def test_order_of_names(self):
        for word in ("plus", "times", "most"):
            self.assertIs(alike((word, ("a", "c")), (word, ("c", "a"))), True)
            self.assertIs(alike((word, ("a", "c", "c", "a")), (word, ("c", "a", "a", "c"))), True)
        self.assertIs(alike(("less", ("a", "c")), ("less", ("c", "a"))), False)
        self.assertIs(alike(("less", ("a", "c")), ("less", ("a", "c"))), True)

    def test_names_of_alike_parts(self):
        for word in ("plus", "times", "most", "less"):
            self.assertIs(alike((word, ("a", "c")), (word, ("b", "d"))), True)
            self.assertIs(alike((word, ("a", "a")), (word, ("a", "b"))), True)
            self.assertIs(alike((word, ("a", "b")), (word, ("b", "a"))), True)
            self.assertIs(alike((word, ("a", "a")), (word, ("a", "c"))), False)
            self.assertIs(alike((word, ("a", "c")), (word, ("d", "b"))), word != "less")

    def test_how_often_a_name_is_there(self):
        for word in ("plus", "times", "most"):
            self.assertIs(alike((word, ("a",)), (word, ("a", "a"))), False)
            self.assertIs(alike((word, ("a", "a", "c")), (word, ("a", "c", "c"))), False)
            self.assertIs(alike((word, ("a", "b", "c")), (word, ("d", "a", "a"))), True)
            self.assertIs(alike((word, ("a", "c", "c", "a")), (word, ("b", "b", "d", "c"))), True)
            self.assertIs(alike((word, ("a", "a", "a")), (word, ("a", "a", "a", "b"))), False)

    def test_over_several_steps(self):
        book = (
            *LEAVES,
            ("i", ("plus", ("a", "c")), 1, 1),
            ("j", ("plus", ("d", "b")), 1, 1),
            ("k", ("less", ("i", "a")), 1, 1),
            ("l", ("less", ("j", "b")), 1, 1),
            ("m", ("less", ("b", "j")), 1, 1),
            ("n", ("most", ("k", "l", "i")), 4, 1),
            ("o", ("most", ("j", "k", "k")), 4, 1),
            ("p", ("most", ("j", "m", "k")), 4, 1),
        )
        for one, other in ("ij", "kl", "no"):
            self.assertIs(are_alike(book, one, other), True)
        for one, other in ("km", "np", "op", "in", "ac"):
            self.assertIs(are_alike(book, one, other), False)

    def test_the_order_is_by_what_stands_for_a_name(self):
        # x is behind p as a text, y is ahead of it: alike parts must not be told apart by this.
        book = (
            ("x", ("leaf", 1), 1, 1),
            ("p", ("leaf", 2), 1, 1),
            ("b", ("leaf", 1), 1, 1),
            ("y", ("plus", ("x", "p")), 1, 1),
            ("z", ("plus", ("b", "p")), 1, 1),
        )
        self.assertIs(are_alike(book, "y", "z"), True)

    def test_names_of_no_part(self):
        for name in NO_NAMES:
            for one, other in ((name, "a"), ("a", name), (name, name)):
                with self.assertRaises(NoPart):
                    are_alike(SAMPLE, one, other)

    def test_books_by_chance(self):
        told = {True: 0, False: 0}
        for seed in range(120):
            book = some_book(seed, most_parts=7, most_size=1 + seed // 60, most_leaf=1)
            for one in names_of(book):
                for other in names_of(book):
                    expected = plain_alike(book, one, other)
                    self.assertIs(are_alike(book, one, other), expected, (book, one, other))
                    told[expected] += one != other
        self.assertTrue(min(told.values()) > 100, told)


class Joined(unittest.TestCase):
    def test_it_has_the_first_ones_alone(self):
        book = (
            ("m", ("leaf", 1), 1, 1),
            ("a", ("leaf", 1), 1, 1),
            ("q", ("leaf", 2), 1, 1),
            ("z", ("plus", ("q", "a", "m", "q")), 1, 1),
            ("b", ("plus", ("m", "q", "q", "a")), 1, 1),
            ("c", ("less", ("b", "a")), 2, 2),
            ("d", ("less", ("a", "b")), 2, 2),
            ("e", ("less", ("z", "m")), 2, 2),
            ("f", ("most", ("e", "c")), 1, 1),
        )
        told = joined(book)
        self.assertIsInstance(told, tuple)
        self.assertEqual(len(told), 2)
        self.assertEqual(told[0], (
            ("m", ("leaf", 1), 1, 1),
            ("q", ("leaf", 2), 1, 1),
            ("z", ("plus", ("q", "m", "m", "q")), 1, 1),
            ("c", ("less", ("z", "m")), 2, 2),
            ("d", ("less", ("m", "z")), 2, 2),
            ("f", ("most", ("c", "c")), 1, 1),
        ))
        self.assertEqual(told[1], {
            "m": "m", "a": "m", "q": "q", "z": "z", "b": "z", "c": "c", "d": "d", "e": "c", "f": "f",
        })

    def test_without_alike_parts_it_stays(self):
        self.assertEqual(joined(SAMPLE), (SAMPLE, {name: name for name in names_of(SAMPLE)}))
        self.assertEqual(joined(LEAVES[:1]), (LEAVES[:1], {"a": "a"}))

    def test_all_alike(self):
        book = tuple((word_of(number), ("leaf", 0), 9, 9) for number in range(24))
        self.assertEqual(joined(book), (book[:1], {name: word_of(0) for name in names_of(book)}))

    def test_books_by_chance(self):
        fewer = 0
        for seed in range(120):
            book = some_book(seed, most_parts=7, most_size=1 + seed // 60, most_leaf=1)
            self.check_first_ones(book)
            fewer += len(joined(book)[0]) < len(book)
        self.assertGreater(fewer, 30)

    def check_first_ones(self, book):
        names = names_of(book)
        small, stands = joined(book)
        for name in names:
            self.assertEqual(stands[name], [one for one in names if plain_alike(book, one, name)][0])
        expected = []
        for name, (word, given), size, cost in book:
            if word != "leaf":
                given = tuple(stands[need] for need in given)
            if stands[name] == name:
                expected.append((name, (word, given), size, cost))
        self.assertEqual(small, tuple(expected))

    def test_what_holds_of_every_joined_book(self):
        for seed in range(100):
            book = some_book(seed)
            small, stands = joined(book)
            self.assertIsNone(why_no_book(small))
            self.assertEqual(joined(small), (small, {name: name for name in names_of(small)}))
            self.assertEqual(sorted(stands), sorted(names_of(book)))
            before, behind = worths(book), worths(small)
            for name in stands:
                self.assertEqual(before[name], behind[stands[name]])
                self.assertIs(are_alike(book, name, stands[name]), True)
            for one in names_of(small):
                for other in names_of(small):
                    self.assertIs(are_alike(small, one, other), one == other)


class AtOnce(unittest.TestCase):
    def test_whether_two_are_alike_is_reckoned_once(self):
        for word, times in (("plus", 4), ("times", 4), ("most", 4), ("less", 2)):
            book = two_chains(word, times)
            with at_once():
                self.assertIs(are_alike(book, word_of(22), word_of(23)), True)
                self.assertIs(are_alike(book, word_of(21), word_of(23)), False)
                small, stands = joined(book)
            self.assertEqual(names_of(small), [word_of(number) for number in range(0, 24, 2)])
            self.assertEqual(stands[word_of(23)], word_of(22))

    def test_when_they_are_not(self):
        for word, times in (("plus", 4), ("times", 4), ("most", 4), ("less", 2)):
            book = two_chains(word, times, second=4)
            with at_once():
                self.assertIs(are_alike(book, word_of(22), word_of(23)), False)
                self.assertEqual(joined(book)[0], book)


class Beyond(unittest.TestCase):
    def test_books_somewhat_beyond_the_limits_are_answered(self):
        book = tuple((word_of(number), ("leaf", 120), 12, 30 + number % 2) for number in range(30))
        book = (*book, ("sixfold", ("plus", (word_of(2),) * 6), 1, 1))
        small, stands = joined(book)
        self.assertEqual(small, (book[0], book[1], ("sixfold", ("plus", (word_of(0),) * 6), 1, 1)))
        self.assertIs(are_alike(book, word_of(0), word_of(28)), True)
        self.assertEqual(worths(book)["sixfold"], 20)


class Apart(unittest.TestCase):
    def test_what_is_told_is_the_askers_own(self):
        small, stands = joined(LEAVES)
        stands["a"] = "x"
        stands.pop("c")
        told = {"a": "a", "b": "a", "c": "c", "d": "c"}
        self.assertEqual(joined(LEAVES), ((LEAVES[0], LEAVES[2]), told))
        self.assertIs(are_alike(LEAVES, "a", "b"), True)
        self.assertIs(are_alike(LEAVES, "c", "d"), True)


if __name__ == "__main__":
    unittest.main()
