"""Point 19: books written as texts, and read again."""

import copy
import unittest

from holdshelf.books import why_no_book
from holdshelf.errors import NoBook, NoText
from holdshelf.texts import read_book, show_book
from tests.makers import SAMPLE, some_book, word_of
from tests.rows import bent, plain_text, wrong_line

TEXT = (
    "a 1 1 leaf 40\n"
    "b 2 3 leaf 70\n"
    "c 1 2 plus a b\n"
    "d 9 9 less a b\n"
    "e 1 1 times c d c\n"
    "f 3 4 most a d b a\n"
)

LINES = [
    ("a 1 1 leaf 0\n", ("a", ("leaf", 0), 1, 1)),
    ("a 1 1 leaf 9\n", ("a", ("leaf", 9), 1, 1)),
    ("a 1 1 leaf 10\n", ("a", ("leaf", 10), 1, 1)),
    ("a 1 1 leaf 99\n", ("a", ("leaf", 99), 1, 1)),
    ("eightlet 9 8 leaf 7\n", ("eightlet", ("leaf", 7), 9, 8)),
    ("leaf 1 1 leaf 1\n", ("leaf", ("leaf", 1), 1, 1)),
]

NO_LINES = [
    "", " ", "a", "a 1", "a 1 1", "a 1 1 leaf", "a 1 1 leaf ", "a 1 1 leaf 1 ", " a 1 1 leaf 1", "a  1 1 leaf 1",
    "a 1  1 leaf 1", "a 1 1  leaf 1", "a 1 1 leaf  1", "a 1 1 leaf 1 1", "a 1 1 leaf a", "a 1 1 leaf 01",
    "a 1 1 leaf 00", "a 1 1 leaf 100", "a 1 1 leaf -1", "a 1 1 leaf +1", "a 1 1 leaf -0", "a 1 1 leaf 1.",
    "a 1 1 leaf 1_0", "a 1 1 leaf " + "9" * 1300, "a 1 1 leaf " + "0" * 1300, "a 1 1 leaf x", "a 0 1 leaf 1",
    "a 1 0 leaf 1", "a 10 1 leaf 1", "a 1 10 leaf 1", "a 01 1 leaf 1", "a 1 01 leaf 1", "a x 1 leaf 1", "a 1 x leaf 1",
    "a -1 1 leaf 1", "a 1 1 1 leaf 1", "a 1 leaf 1", "A 1 1 leaf 1", "1 1 1 leaf 1", "ninelette 1 1 leaf 1",
    "a1 1 1 leaf 1", "a 1 1 Leaf 1", "a 1 1 LEAF 1", "a 1 1 sum 1", "a 1 1 plus", "a 1 1 plus 1", "a 1 1 plus 12",
    "a 1 1 plus ", "a 1 1 plus o ", "a 1 1 plus  o", "a 1 1 plus o  o", "a 1 1 plus o o o o o", "a 1 1 most o o o o o",
    "a 1 1 times o o o o o", "a 1 1 times O", "a 1 1 most", "a 1 1 times", "a 1 1 less", "a 1 1 less o",
    "a 1 1 less o o o", "a 1 1 plus ninelette", "a 1 1 plus o,o", "a 1 1 plus(o)", "a,1,1,leaf,1", "a\t1\t1\tleaf\t1",
    "a 1 1 leaf 1\r", "a 1 1 leaf 1;", "a 1 1 1 leaf", "a 1 1 (leaf 1)", "leaf 1", "a leaf 1 1 1", "1 1 a leaf 1",
    "a 1 1 leaf leaf 1", "a 1 1 leaf one", "~", "{", "`",
]


class TextCase(unittest.TestCase):
    def no_text(self, text, line):
        with self.assertRaises(NoText) as caught:
            read_book(text)
        self.assertIs(type(caught.exception), NoText)
        self.assertEqual((type(caught.exception.line), caught.exception.line), (int, line), text)

    def no_names(self, text):
        with self.assertRaises(NoBook) as caught:
            read_book(text)
        self.assertIs(type(caught.exception), NoBook)
        self.assertEqual(caught.exception.fault, "names", text)


class Show(TextCase):
    def test_a_book(self):
        self.assertEqual(show_book(SAMPLE), TEXT)

    def test_each_line(self):
        for line, part in LINES:
            self.assertEqual(show_book((part,)), line)

    def test_books_by_chance(self):
        for seed in range(200):
            book = some_book(seed, most_size=9, most_leaf=99)
            before = copy.deepcopy(book)
            self.assertEqual(show_book(book), plain_text(book))
            self.assertEqual(book, before)


class Read(TextCase):
    def test_a_text(self):
        book = read_book(TEXT)
        self.assertEqual(book, SAMPLE)
        self.assertIsNone(why_no_book(book))

    def test_each_line(self):
        for line, part in LINES:
            self.assertEqual(read_book(line), (part,))

    def test_written_and_read_again(self):
        for seed in range(200):
            book = some_book(seed, most_size=9, most_leaf=99)
            self.assertEqual(read_book(show_book(book)), book)
            self.assertEqual(show_book(read_book(plain_text(book))), plain_text(book))

    def test_twenty_four_long_lines(self):
        names = ["longword"[:7] + letter for letter in "abcdefghijklmnopqrstuvwx"]
        book = [(names[0], ("leaf", 99), 9, 9)]
        book += [(name, ("times", tuple(names[place:place + 1] * 4)), 9, 9) for place, name in enumerate(names[1:])]
        self.assertEqual(read_book(show_book(tuple(book))), tuple(book))


class NoTexts(TextCase):
    def test_lines_that_are_none(self):
        for line in NO_LINES:
            self.no_text(line + "\n", 0)
            self.no_text("o 1 1 leaf 1\n" + line + "\n", 1)
            self.no_text("o 1 1 leaf 1\n" + line + "\nb 1 1 leaf 1\n", 1)
            self.no_text(line + "\n" + line + "\n", 0)

    def test_no_signs_at_all(self):
        self.no_text("", 0)

    def test_an_empty_line(self):
        self.no_text("\n", 0)
        self.no_text("\n\n", 0)
        self.no_text("\n" + TEXT, 0)
        self.no_text(TEXT + "\n", 6)
        self.no_text(TEXT + "\n\n", 6)
        self.no_text(TEXT.replace("\nd", "\n\nd"), 3)

    def test_a_line_without_its_end(self):
        self.no_text(TEXT[:-1], 5)
        self.no_text("a 1 1 leaf 1", 0)
        self.no_text(TEXT + "g", 6)
        self.no_text(TEXT + " ", 6)
        self.no_text(TEXT + "g 1 1 leaf 1", 6)

    def test_the_first_of_several(self):
        self.no_text("a 1 1 leaf 1\nB 1 1 leaf 1\nc 1 1 leaf 01\n", 1)
        self.no_text("a 1 1 leaf 1\nB 1 1 leaf 1\nc 1 1 leaf 1", 1)

    def test_a_twenty_fifth_line(self):
        lines = [word_of(number) + " 1 1 leaf 1\n" for number in range(26)]
        self.assertEqual(len(read_book("".join(lines[:24]))), 24)
        self.no_text("".join(lines[:25]), 24)
        self.no_text("".join(lines), 24)
        self.no_text("".join(lines[:24]) + "\n", 24)
        self.no_text("".join(lines[:25])[:-1], 24)
        self.no_text("".join(lines[:24]) + "x", 24)
        self.no_text("".join(lines[:24])[:-1], 23)
        self.no_text("".join([*lines[:23], "x\n", *lines[24:]]), 23)
        # The names don't matter where a line is too many.
        self.no_text(lines[0] * 25, 24)
        self.no_names(lines[0] * 24)

    def test_other_line_ends_end_no_line(self):
        for sign in ("\r", "\r\n", "\x0b", "\x0c", "\x1c", "\x85", "\u2028", "\t"):
            self.no_text("a 1 1 leaf 1" + sign, 0)
            self.no_text("a 1 1 leaf 1" + sign + "b 1 1 leaf 1\n", 0)

    def test_figures_and_letters_of_other_writings(self):
        for text in ("a 1 1 leaf \u0661\n", "a \u00b2 1 leaf 1\n", "\u00e4 1 1 leaf 1\n", "a 1 \uff11 leaf 1\n"):
            self.no_text(text, 0)


class NoNames(TextCase):
    def test_names(self):
        self.no_names("a 1 1 leaf 1\na 1 1 leaf 1\n")
        self.no_names("a 1 1 plus a\n")
        self.no_names("a 1 1 plus b\nb 1 1 leaf 1\n")
        self.no_names("a 1 1 leaf 1\nb 1 1 most a a nopart\n")

    def test_no_text_goes_ahead(self):
        self.no_text("a 1 1 leaf 1\na 1 1 leaf 1\n\n", 2)
        self.no_text("a 1 1 plus a\nb 1 1 leaf 1", 1)


class Bent(TextCase):
    def test_bent_at_any_sign(self):
        told = {"read": 0, "text": 0, "names": 0}
        for text in bent(TEXT):
            line = wrong_line(text)
            if line is not None:
                told["text"] += 1
                self.no_text(text, line)
                continue
            try:
                book = read_book(text)
                self.assertIsNone(why_no_book(book))
                self.assertEqual(plain_text(book), text)
                told["read"] += 1
            except NoBook as error:
                self.assertEqual(error.fault, "names")
                names = [row.split(" ")[0] for row in text.splitlines()]
                needed = [need for row in text.splitlines() for need in row.split(" ")[4:] if need.isalpha()]
                ahead = [[name for name in row.split(" ")[4:] if name.isalpha() and name not in names[:place]]
                         for place, row in enumerate(text.splitlines())]
                self.assertTrue(len(set(names)) < len(names) or any(ahead) or not set(needed) <= set(names), text)
                told["names"] += 1
        self.assertTrue(min(told.values()) > 50, told)


if __name__ == "__main__":
    unittest.main()
