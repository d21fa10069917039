"""Point 6: worths, and what is below and above."""

import unittest

from holdshelf.errors import NoPart
from holdshelf.worths import above, below, worth, worths
from tests.makers import NO_NAMES, SAMPLE, at_once, chain, is_below, names_of, plain_worth, some_book, word_of


def worth_of(recipe, *numbers):
    """The worth of a recipe over leaves a, b, .. of these numbers."""
    ahead = tuple((name, ("leaf", number), 1, 1) for name, number in zip("abcd", numbers))
    return worth((*ahead, ("z", recipe, 1, 1)), "z")


class Worth(unittest.TestCase):
    def test_leaf(self):
        for number in (0, 1, 50, 99):
            self.assertEqual(worth((("a", ("leaf", number), 9, 9),), "a"), number)

    def test_plus(self):
        self.assertEqual(worth_of(("plus", ("a",)), 99), 99)
        self.assertEqual(worth_of(("plus", ("a", "b")), 60, 39), 99)
        self.assertEqual(worth_of(("plus", ("a", "b")), 60, 40), 0)
        self.assertEqual(worth_of(("plus", ("a", "b", "c", "d")), 99, 99, 99, 98), 95)
        self.assertEqual(worth_of(("plus", ("a", "a", "a")), 40), 20)

    def test_times(self):
        self.assertEqual(worth_of(("times", ("a",)), 99), 99)
        self.assertEqual(worth_of(("times", ("a", "b")), 9, 11), 99)
        self.assertEqual(worth_of(("times", ("a", "b")), 10, 10), 0)
        self.assertEqual(worth_of(("times", ("a", "b", "c", "d")), 7, 11, 13, 17), 17)
        self.assertEqual(worth_of(("times", ("a", "b")), 0, 99), 0)
        self.assertEqual(worth_of(("times", ("a", "a", "a", "a")), 3), 81)

    def test_less(self):
        self.assertEqual(worth_of(("less", ("a", "b")), 9, 2), 7)
        self.assertEqual(worth_of(("less", ("b", "a")), 9, 2), 93)
        self.assertEqual(worth_of(("less", ("a", "b")), 0, 99), 1)
        self.assertEqual(worth_of(("less", ("a", "b")), 0, 1), 99)
        self.assertEqual(worth_of(("less", ("a", "b")), 99, 0), 99)
        self.assertEqual(worth_of(("less", ("a", "a")), 9), 0)

    def test_most(self):
        self.assertEqual(worth_of(("most", ("a",)), 0), 0)
        self.assertEqual(worth_of(("most", ("a", "b", "c", "d")), 4, 99, 98, 0), 99)
        self.assertEqual(worth_of(("most", ("b", "a")), 4, 3), 4)
        self.assertEqual(worth_of(("most", ("a", "a", "b")), 4, 3), 4)

    def test_worths_of_all(self):
        told = worths(SAMPLE)
        self.assertEqual(told, {"a": 40, "b": 70, "c": 10, "d": 70, "e": 0, "f": 70})
        self.assertIsInstance(told, dict)
        for name in names_of(SAMPLE):
            self.assertEqual(worth(SAMPLE, name), told[name])

    def test_books_by_chance(self):
        for seed in range(150):
            book = some_book(seed, most_parts=10, most_leaf=99)
            told = {name: plain_worth(book, name) for name in names_of(book)}
            self.assertEqual(worths(book), told)
            for name in names_of(book):
                self.assertEqual(worth(book, name), told[name])


class Order(unittest.TestCase):
    def test_below(self):
        for names, told in ((["a"], "a"), (["c"], "abc"), (["d"], "abd"), (["e"], "abcde"), (["f"], "abdf"),
                            (["f", "c"], "abcdf"), (["b", "a"], "ab"), (["b", "b", "a", "b"], "ab"),
                            (["c", "c"], "abc"), (["f", "e", "f"], "abcdef"), ([], "")):
            self.assertEqual(below(SAMPLE, names), list(told))

    def test_above(self):
        for name, told in (("a", "acdef"), ("b", "bcdef"), ("c", "ce"), ("d", "def"), ("e", "e"), ("f", "f")):
            self.assertEqual(above(SAMPLE, name), list(told))

    def test_the_books_order_is_not_that_of_texts(self):
        book = (("z", ("leaf", 1), 1, 1), ("m", ("plus", ("z",)), 1, 1), ("a", ("plus", ("m", "z")), 1, 1))
        self.assertEqual(below(book, ["a", "z"]), ["z", "m", "a"])
        self.assertEqual(above(book, "z"), ["z", "m", "a"])
        self.assertEqual(above(book, "m"), ["m", "a"])

    def test_books_by_chance(self):
        for seed in range(150):
            book = some_book(seed, most_parts=10)
            names = names_of(book)
            for name in names:
                self.assertEqual(below(book, [name]), [low for low in names if is_below(book, low, name)])
                self.assertEqual(above(book, name), [high for high in names if is_below(book, name, high)])
            some = [names[-1], names[seed % len(names)], names[-1]]
            told = [low for low in names if any(is_below(book, low, high) for high in some)]
            self.assertEqual(below(book, some), told)


class Refused(unittest.TestCase):
    def test_names_of_no_part(self):
        for name in NO_NAMES:
            for ask in (lambda: worth(SAMPLE, name), lambda: above(SAMPLE, name), lambda: below(SAMPLE, [name]),
                        lambda: below(SAMPLE, [name, "a"]), lambda: below(SAMPLE, ["f", name]),
                        lambda: below(SAMPLE, ["a", "f", name, "b"])):
                with self.assertRaises(NoPart):
                    ask()


class AtOnce(unittest.TestCase):
    def test_each_worth_is_reckoned_once(self):
        for word in ("plus", "times", "most"):
            book = chain(24, word, 4)
            with at_once():
                told = worths(book)
                last = worth(book, word_of(23))
            expected = 3
            for number in range(24):
                self.assertEqual(told[word_of(number)], expected)
                if word != "most":
                    expected = (expected * 4 if word == "plus" else expected ** 4) % 100
            self.assertEqual(last, told[word_of(23)])

    def test_less(self):
        with at_once():
            self.assertEqual(worth(chain(24, "less", 2), word_of(23)), 0)

    def test_below_and_above(self):
        book = chain(24, "plus", 4)
        with at_once():
            self.assertEqual(below(book, [word_of(23)]), names_of(book))
            self.assertEqual(above(book, word_of(0)), names_of(book))
            self.assertEqual(below(book, [word_of(11), word_of(10)]), names_of(book)[:12])
            self.assertEqual(above(book, word_of(12)), names_of(book)[12:])


class Apart(unittest.TestCase):
    def test_what_is_handed_in_stays(self):
        names = ["f", "c", "f"]
        below(SAMPLE, names)
        self.assertEqual(names, ["f", "c", "f"])
        with self.assertRaises(NoPart):
            below(SAMPLE, names + ["x"])
        self.assertEqual(names, ["f", "c", "f"])

    def test_what_is_told_is_the_askers_own(self):
        names = ["c"]
        told = below(SAMPLE, names)
        told.append("x")
        names.append("f")
        self.assertEqual(below(SAMPLE, ["c"]), ["a", "b", "c"])
        self.assertEqual(below(SAMPLE, names), ["a", "b", "c", "d", "f"])
        above(SAMPLE, "c").clear()
        self.assertEqual(above(SAMPLE, "c"), ["c", "e"])
        told = worths(SAMPLE)
        told["a"] = 99
        told["x"] = 1
        self.assertEqual(worth(SAMPLE, "c"), 10)
        self.assertEqual(sorted(worths(SAMPLE)), list("abcdef"))
        self.assertEqual(worths(SAMPLE)["a"], 40)


if __name__ == "__main__":
    unittest.main()
