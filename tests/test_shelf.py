"""Points 8 and 9: what rows of deeds do on a shelf, and whether they answer wishes."""

import copy
import random
import unittest

from holdshelf.errors import NoDeed, ShelfError
from holdshelf.shelf import answers, run
from tests.makers import NO_NAMES, SAMPLE, names_of
from tests.shelves import plain_run, some_shelf_book

# Its order is not that of texts; k needs b and z, b twice.
BOOK = (
    ("z", ("leaf", 5), 2, 3),
    ("b", ("leaf", 6), 3, 5),
    ("k", ("plus", ("b", "z", "b")), 4, 7),
    ("a", ("less", ("k", "k")), 1, 9),
)


def made(text):
    """Deeds as a text: a name is a make, one behind a minus sign a drop."""
    return [("drop", word[1:]) if word[0] == "-" else ("make", word) for word in text.split()]


def some_deeds(chance, book):
    """A row by chance of which much, but mostly not all, can be done."""
    deeds, held = [], []
    for turn in range(chance.randint(0, 12)):
        can = [part[0] for part in book if part[1][0] == "leaf" or set(part[1][1]) <= set(held)]
        word = chance.choice(["make", "make", "drop"])
        some = [name for name in can if name not in held] if word == "make" else held
        if chance.random() < 0.07 or not some:
            some = names_of(book) + ["nopart"]
        if chance.random() < 0.03:
            word = chance.choice(["keep", "", "Make", "make "])
        name = chance.choice(some)
        deeds.append((word, name))
        held = [other for other in held if other != name] + [name] * (word == "make")
    return deeds


class ShelfCase(unittest.TestCase):
    def refused(self, book, room, deeds, number):
        before = copy.deepcopy(deeds)
        with self.assertRaises(NoDeed) as caught:
            run(book, room, deeds)
        self.assertEqual(caught.exception.number, number, deeds)
        self.assertIsInstance(caught.exception, ShelfError)
        self.assertEqual(deeds, before)
        self.assertIs(answers(book, room, deeds, [names_of(book)[0]]), False)


class Run(ShelfCase):
    def test_rows_that_can_be_done(self):
        for text, room, told in (
            ("", 1, ([], 0, 0)),
            ("z", 2, (["z"], 3, 2)),
            ("b z", 5, (["z", "b"], 8, 5)),
            ("b z k", 9, (["z", "b", "k"], 15, 9)),
            ("z b k -z -b", 9, (["k"], 15, 9)),
            ("z b k -z -b a", 9, (["k", "a"], 24, 9)),
            ("b z k a", 10, (["z", "b", "k", "a"], 24, 10)),
            ("b z k a -k -z", 10, (["b", "a"], 24, 10)),
            ("b z k a -a -z -b -k", 10, ([], 24, 10)),
            ("z -z z -z z", 2, (["z"], 9, 2)),
            ("b -b z b -b", 5, (["z"], 13, 5)),
            ("b -b z", 3, (["z"], 8, 3)),
        ):
            for more in (0, 1, 80):
                self.assertEqual(run(BOOK, room + more, made(text)), told, text)

    def test_kinds_of_what_is_told(self):
        for text in ("", "z", "b z k a -z"):
            told = run(BOOK, 99, made(text))
            self.assertIs(type(told), tuple)
            self.assertEqual([type(thing) for thing in told], [list, int, int])

    def test_a_room_less_by_one(self):
        self.refused(BOOK, 1, made("z"), 0)
        self.refused(BOOK, 4, made("b z"), 1)
        self.refused(BOOK, 8, made("b z k"), 2)
        self.refused(BOOK, 9, made("b z k a"), 3)
        self.refused(BOOK, 4, made("b -b z b"), 3)

    def test_one_name_several_times_is_needed_once(self):
        self.assertEqual(run(BOOK, 10, made("z b k -z -b a")), (["k", "a"], 24, 9))
        book = (("q", ("leaf", 1), 9, 1), ("r", ("times", ("q", "q", "q", "q")), 9, 1))
        self.assertEqual(run(book, 18, made("q r")), (["q", "r"], 2, 18))
        self.refused(book, 17, made("q r"), 1)

    def test_rooms_beyond_the_limits(self):
        self.assertEqual(run(BOOK, 0, []), ([], 0, 0))
        self.refused(BOOK, 0, made("z"), 0)
        self.assertEqual(run(BOOK, 120, made("z b")), (["z", "b"], 8, 5))


class Refused(ShelfCase):
    def test_make_of_what_lies_on_the_shelf(self):
        self.refused(BOOK, 99, made("z z"), 1)
        self.refused(BOOK, 99, made("b z k z"), 3)
        self.refused(BOOK, 99, made("b z k k"), 3)

    def test_make_without_a_need(self):
        for text, number in (("k", 0), ("a", 0), ("b k", 1), ("z k", 1), ("z b -z k", 3), ("z b -b k", 3),
                             ("z b a", 2), ("b z k -k a", 4), ("z k b", 1)):
            self.refused(BOOK, 99, made(text), number)

    def test_drop_of_what_is_not_there(self):
        for text, number in (("-z", 0), ("z -b", 1), ("z -z -z", 2), ("z b k -a", 3)):
            self.refused(BOOK, 99, made(text), number)

    def test_names_of_no_part(self):
        for name in [*NO_NAMES, "Z", "make", "drop", "zb"]:
            if name in names_of(BOOK):
                continue
            for word in ("make", "drop"):
                self.refused(BOOK, 99, [(word, name)], 0)
                self.refused(BOOK, 99, [("make", "z"), ("make", "b"), (word, name), ("drop", "z")], 2)

    def test_words_that_are_none_of_both(self):
        for word in ("", "Make", "MAKE", "Drop", "DROP", "make ", " make", "mak", "made", "drops", "keep", "z", "leaf"):
            self.refused(BOOK, 99, [(word, "z")], 0)
            self.refused(BOOK, 99, [("make", "z"), (word, "z")], 1)
            self.refused(BOOK, 99, [("make", "z"), (word, "b")], 1)
            self.refused(BOOK, 99, [("make", "z"), (word, "nopart"), ("drop", "z")], 1)

    def test_the_first_of_several(self):
        self.refused(BOOK, 99, [("drop", "z"), ("make", "k"), ("make", "nopart")], 0)
        self.refused(BOOK, 99, [("make", "z"), ("keep", "z"), ("make", "k"), ("drop", "b")], 1)
        self.refused(BOOK, 3, made("b z k -a"), 1)
        self.refused(BOOK, 99, [("make", "z"), ("make", "b"), ("make", "x"), ("", "")], 2)

    def test_rows_by_chance(self):
        chance = random.Random(8)
        many = {"done": 0, "refused": 0}
        for turn in range(600):
            book = some_shelf_book(chance, chance.randint(1, 8), chance.choice([1, 3, 9]))
            deeds, room = some_deeds(chance, book), chance.choice([5, 9, 20, 40, 99])
            told = plain_run(book, room, deeds)
            if isinstance(told, int):
                self.refused(book, room, deeds, told)
                many["refused"] += 1
                continue
            many["done"] += 1
            self.assertEqual(run(book, room, deeds), told)
            if told[2] > 0:
                self.assertEqual(run(book, told[2], deeds), told)
                self.refused(book, told[2] - 1, deeds, plain_run(book, told[2] - 1, deeds))
        self.assertTrue(min(many.values()) > 100, many)


class Answers(unittest.TestCase):
    def test_each_was_made(self):
        self.assertIs(answers(BOOK, 9, made("z b k"), ["b", "k", "z"]), True)
        self.assertIs(answers(BOOK, 9, made("z b k -z -b a"), ["a"]), True)
        self.assertIs(answers(BOOK, 2, made("z"), ["z"]), True)

    def test_dropped_again(self):
        self.assertIs(answers(BOOK, 3, made("z -z b"), ["b", "z"]), True)
        self.assertIs(answers(BOOK, 3, made("z -z b -b"), ["b", "z"]), True)
        self.assertIs(answers(BOOK, 3, made("z -z b -b z"), ["b", "z"]), True)

    def test_one_was_not_made(self):
        self.assertIs(answers(BOOK, 9, [], ["z"]), False)
        self.assertIs(answers(BOOK, 9, made("z b"), ["b", "k", "z"]), False)
        self.assertIs(answers(BOOK, 9, made("z b k"), ["a"]), False)
        self.assertIs(answers(BOOK, 9, made("z b"), ["a", "b"]), False)
        self.assertIs(answers(BOOK, 9, made("z b"), ["b", "k"]), False)

    def test_a_deed_can_not_be_done(self):
        self.assertIs(answers(BOOK, 8, made("z b k"), ["k"]), False)
        self.assertIs(answers(BOOK, 99, made("z b k k"), ["k"]), False)
        self.assertIs(answers(BOOK, 99, made("z b k -a"), ["k"]), False)
        self.assertIs(answers(BOOK, 99, made("k"), ["k"]), False)
        self.assertIs(answers(BOOK, 99, [("make", "z"), ("make", "nopart")], ["z"]), False)
        self.assertIs(answers(BOOK, 99, [("make", "z"), ("Make", "b")], ["z"]), False)
        self.assertIs(answers(BOOK, 99, [("make", "z"), ("", "")], ["z"]), False)
        self.assertIs(answers(BOOK, 99, [("Make", "z")], ["z"]), False)

    def test_rows_by_chance(self):
        chance = random.Random(9)
        for turn in range(300):
            book = some_shelf_book(chance, chance.randint(1, 8), 3)
            deeds, room = some_deeds(chance, book), chance.choice([5, 9, 20])
            wishes = sorted(chance.sample(names_of(book), min(len(book), chance.randint(1, 3))))
            done = not isinstance(plain_run(book, room, deeds), int)
            told = done and {wish for wish in wishes} <= {name for word, name in deeds if word == "make"}
            self.assertIs(answers(book, room, deeds, wishes), told)


class Apart(unittest.TestCase):
    def test_what_is_handed_in_stays(self):
        book, deeds, wishes = copy.deepcopy(SAMPLE), made("a b c -a -c"), ["a", "c"]
        run(book, 20, deeds)
        answers(book, 20, deeds, wishes)
        answers(book, 2, deeds, wishes)
        self.assertEqual((book, deeds, wishes), (SAMPLE, made("a b c -a -c"), ["a", "c"]))

    def test_what_is_told_is_the_askers_own(self):
        deeds = made("z b")
        run(BOOK, 9, deeds)[0].append("x")
        run(BOOK, 9, deeds)[0].clear()
        self.assertEqual(run(BOOK, 9, deeds), (["z", "b"], 8, 5))
        deeds.append(("drop", "z"))
        self.assertEqual(run(BOOK, 9, deeds), (["b"], 8, 5))


if __name__ == "__main__":
    unittest.main()
