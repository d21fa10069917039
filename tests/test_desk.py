"""Point 20: a desk that is told rows."""

import random
import unittest

from holdshelf.desk import Desk
from holdshelf.errors import NoBook, NoLeaf, NoPart, NoRow, NoStand, NoText
from holdshelf.joined import joined
from holdshelf.trees import least_room
from tests.cheaps import plain_cheapest
from tests.keepers import PlainKeeper
from tests.makers import names_of, part_of, plain_worth, some_book, word_of
from tests.rows import SIGNS, bent, is_plain_row, plain_text
from tests.shelves import AGAIN, plain_least, plain_once, plain_once_by_sets, some_shelf_book, some_tree, some_wishes

# The worths are a 40, b 70, c 10, d 70, e 80, f 80.
BOOK = (
    ("a", ("leaf", 40), 1, 1),
    ("b", ("leaf", 70), 2, 3),
    ("c", ("plus", ("a", "b")), 1, 2),
    ("d", ("less", ("a", "b")), 9, 9),
    ("e", ("plus", ("c", "d")), 1, 5),
    ("f", ("plus", ("d", "c")), 1, 5),
)
TREE = (("x", ("leaf", 1), 3, 2), ("y", ("leaf", 2), 4, 1), ("z", ("times", ("x", "y")), 2, 5))

NO_ROWS = [
    "", " ", "  ", "book", "Book a 1 1 leaf 1\n", "BOOK ", "books ", "book\n", "book\na 1 1 leaf 1\n",
    " book a 1 1 leaf 1\n",
    "worth", "worth ", "worth  ", "worth  a", " worth a", "worth a ", "worth a b", "worth A", "worth a1", "worth 1",
    "Worth a", "WORTH a", "worth ninelette", "worth a\n", "worth\na", "worth a\nb", "worth,a", "wort a", "worths a",
    "ask", "ask ", "ask  ", "ask a ", "ask  a", "ask a  b", " ask a", "ask A", "ask a B", "ask ninelette",
    "ask a ninelette", "ask a 1", "ask 1 a", "ask a\n", "Ask a", "ask a, b",
    "change", "change a", "change a ", "change a  1", "change  a 1", "change a 1 ", " change a 1", "change a b",
    "change 1 a", "change a 100", "change a 999", "change a 01", "change a 00", "change a 001", "change a -1",
    "change a +1", "change a 1 1", "change a b 1", "change A 1", "change ninelette 1", "change a 1.0", "change a 1_0",
    "change a " + "9" * 1300, "change a 1\n", "change a x", "Change a 1", "change",
    "forget", "forget ", "forget a b", "forget  a", "forget a ", "forget A", "forget ninelette", "forget 1",
    "forget a\n",
    "joined ", "joined a", " joined", "joined\n", "Joined", "joined  ", "join",
    "tree ", "tree a", " tree", "Tree", "tree\n", "trees",
    "room", "room ", "room  a", "room a ", "room a  b", "room A", "room 1", "room 5 a", "room ninelette", "room a 5",
    "once", "once ", "once  a", "once a ", "once a  b", "once A", "once 1", "once 5 a", "once ninelette", "once a\n",
    "least", "least ", "least 5", "least 5 ", "least a", "least a b", "least 5  a", "least  5 a", "least 5 a ",
    "least 0 a", "least 00 a", "least 05 a", "least 100 a", "least -1 a", "least 5 A", "least 5 5", "least 5 5 a",
    "least 5 a 5", "least 5 ninelette", "least a 5", "Least 5 a", "least 5 a\n", "least " + "1" * 1300 + " a",
    "put a", "out a", "told", "run a", "curve a", "below a", "make a", "above a", "shelf", "say worth a", "~", "a", "5",
    "least 1 a b c d e  f",
]


class DeskCase(unittest.TestCase):
    def desk(self, book=BOOK):
        desk = Desk()
        self.says(desk, "book " + plain_text(book), "ok")
        return desk

    def says(self, desk, row, answer):
        told = desk.say(row)
        self.assertEqual((type(told), told), (str, answer), row)

    def refused(self, desk, row, error):
        with self.assertRaises(error) as caught:
            desk.say(row)
        self.assertIs(type(caught.exception), error, row)
        return caught.exception


class Rows(DeskCase):
    def test_book(self):
        self.says(Desk(), "book a 1 1 leaf 1\n", "ok")
        self.says(Desk(), "book " + plain_text(BOOK), "ok")

    def test_worth(self):
        desk = self.desk()
        for name, number in zip("abcdef", (40, 70, 10, 70, 80, 80)):
            self.says(desk, "worth " + name, str(number))
        self.says(self.desk((("eightlet", ("leaf", 0), 1, 1),)), "worth eightlet", "0")

    def test_worth_makes_nothing(self):
        desk = self.desk()
        self.says(desk, "worth e", "80")
        self.says(desk, "ask e", "80 20 5")

    def test_ask(self):
        desk = self.desk()
        self.says(desk, "ask c", "10 6 3")
        self.says(desk, "ask c", "10 0 0")
        self.says(desk, "ask f a f", "80 40 80 14 2")
        self.says(desk, "ask e", "80 5 1")
        self.says(desk, "ask a b c d e f", "40 70 10 70 80 80 0 0")
        self.says(desk, "ask" + " a" * 690, "40 " * 690 + "0 0")

    def test_change(self):
        desk = self.desk()
        desk.say("ask c")
        self.says(desk, "change a 99", "ok")
        self.says(desk, "worth a", "99")
        self.says(desk, "ask c", "69 3 2")
        self.says(desk, "change a 0", "ok")
        self.says(desk, "ask a", "0 1 1")
        self.says(desk, "change a 99", "ok")
        self.says(desk, "ask c", "69 1 1")

    def test_forget(self):
        desk = self.desk()
        desk.say("ask e")
        self.says(desk, "forget c", "ok")
        self.says(desk, "ask e", "80 2 1")
        self.says(desk, "forget f", "ok")
        self.says(desk, "ask e", "80 0 0")

    def test_joined(self):
        self.says(self.desk(), "joined", plain_text(BOOK[:5]))
        book = (("b", ("leaf", 1), 1, 1), ("a", ("leaf", 1), 1, 1), ("c", ("less", ("a", "b")), 1, 1))
        self.says(self.desk(book), "joined", "b 1 1 leaf 1\nc 1 1 less b b\n")

    def test_joined_leaves_the_book(self):
        desk = self.desk()
        desk.say("ask f")
        desk.say("joined")
        self.says(desk, "worth f", "80")
        self.says(desk, "ask f", "80 0 0")

    def test_room_and_once(self):
        desk = self.desk(AGAIN)
        self.says(desk, "room g j", "3")
        self.says(desk, "once g j", "4")
        self.says(desk, "room x", "1")
        self.says(desk, "once x", "1")
        self.says(self.desk(TREE), "room x y z", "9")
        self.says(self.desk(TREE), "once y", "4")

    def test_least(self):
        desk = self.desk(AGAIN)
        for room, answer in ((1, "shut"), (2, "shut"), (3, "37"), (4, "33"), (99, "33")):
            self.says(desk, f"least {room} g j", answer)
        self.says(desk, "least 1 x", "4")

    def test_tree(self):
        self.says(self.desk(TREE), "tree", "9")
        self.says(self.desk(TREE[:1]), "tree", "3")
        self.says(self.desk(TREE[:2]), "tree", "no")
        self.says(self.desk(), "tree", "no")

    def test_rows_make_nothing_but_ask(self):
        desk = self.desk(TREE)
        for row in ("tree", "room z", "once z", "least 9 z", "joined", "worth z"):
            desk.say(row)
        self.says(desk, "ask z", "2 8 3")

    def test_all_rows_speak_of_the_book_as_it_was_changed(self):
        book = (("a", ("leaf", 1), 1, 1), ("b", ("leaf", 2), 1, 1), ("c", ("plus", ("a", "b")), 1, 1))
        desk = self.desk(book)
        self.says(desk, "joined", plain_text(book))
        desk.say("change b 1")
        self.says(desk, "joined", "a 1 1 leaf 1\nc 1 1 plus a a\n")
        self.says(desk, "worth c", "2")
        self.says(desk, "ask c", "2 3 3")
        self.says(desk, "tree", "3")
        self.says(desk, "room c", "3")
        self.says(desk, "once c", "3")
        self.says(desk, "least 3 c", "3")


class NoRows(DeskCase):
    def test_rows_that_are_none(self):
        for desk in (Desk(), self.desk(), self.desk(TREE)):
            for row in NO_ROWS:
                self.refused(desk, row, NoRow)

    def test_what_is_refused_changes_nothing(self):
        desk = self.desk()
        desk.say("ask e")
        for row in NO_ROWS:
            self.refused(desk, row, NoRow)
        self.says(desk, "ask e", "80 0 0")
        self.says(desk, "joined", plain_text(BOOK[:5]))

    def test_rows_bent_at_any_sign(self):
        desk, kinds = self.desk(), {True: 0, False: 0}
        for row in ("worth a", "ask c a", "change a 40", "forget e", "joined", "room a", "once b", "least 10 b",
                    "tree"):
            for other in bent(row):
                kinds[is_plain_row(other)] += 1
                if not is_plain_row(other):
                    self.refused(desk, other, NoRow)
                    self.refused(Desk(), other, NoRow)
                    continue
                self.refused(Desk(), other, NoStand)
                names = [word for word in other.split(" ")[1:] if word.isalpha()]
                if not set(names) <= set("abcdef"):
                    self.refused(desk, other, NoPart)
                elif other.startswith("change") and names[0] not in "ab":
                    self.refused(desk, other, NoLeaf)
                else:
                    self.assertIs(type(desk.say(other)), str)
        self.assertTrue(min(kinds.values()) > 100, kinds)


class NoStands(DeskCase):
    def test_ahead_of_a_book(self):
        rows = ("worth a", "ask a", "ask a b", "change a 1", "forget a", "joined", "room a", "room b a", "once a a",
                "once a", "least 1 a", "least 99 d c b a", "tree")
        desk = Desk()
        for row in rows:
            self.refused(desk, row, NoStand)
        desk.say("book " + plain_text(BOOK))
        self.says(desk, "worth a", "40")

    def test_a_book_that_is_refused_does_not_stand(self):
        desk = Desk()
        self.refused(desk, "book ", NoText)
        self.refused(desk, "book a 1 1 plus a\n", NoBook)
        self.refused(desk, "worth a", NoStand)
        self.refused(desk, "worth  a", NoRow)


class Refusals(DeskCase):
    def test_no_part(self):
        desk = self.desk()
        for row in ("worth g", "ask g", "ask a g", "ask g a", "change g 1", "forget g", "room g", "room a g", "once g",
                    "once a g", "least 1 g", "least 99 a g", "worth worth", "ask book", "worth eightlet"):
            self.refused(desk, row, NoPart)

    def test_no_part_goes_ahead_of_no_row(self):
        great = tuple((word_of(number), ("leaf", 1), 1, 1) for number in range(24))
        for desk in (self.desk(), self.desk(great)):
            for row in ("room nopart a", "once nopart a", "least 5 nopart a", "room nopart nopart", "once a nopart a",
                        "least 1 a a a a nopart", "room a e t nopart y", "once nopart", "room nopart"):
                self.refused(desk, row, NoPart)

    def test_no_leaf(self):
        desk = self.desk()
        desk.say("ask e")
        for name in "cdef":
            for number in (0, 40, 99):
                self.refused(desk, f"change {name} {number}", NoLeaf)
        self.says(desk, "ask e", "80 0 0")

    def test_refused_asking_makes_nothing(self):
        desk = self.desk()
        self.refused(desk, "ask a b g", NoPart)
        self.says(desk, "ask b a", "70 40 4 2")

    def test_wishes_that_are_none(self):
        desk = self.desk(AGAIN)
        for names in ("j g", "g g", "g j g", "x a", "a a", "a g j x", "a g j s", "a g j x x", "a j g", "a g g"):
            for word in ("room", "once", "least 3", "least 99"):
                self.refused(desk, f"{word} {names}", NoRow)
        for word, answer in (("room", "3"), ("once", "4"), ("least 3", "37")):
            self.says(desk, f"{word} a g j", answer)
        # Elsewhere names may stand in any order, and twice.
        self.says(desk, "ask j g j a x q", "3 3 3 1 1 1 33 6")

    def test_wishes_rise_as_texts_not_as_in_the_book(self):
        desk = self.desk((("b", ("leaf", 1), 2, 1), ("a", ("leaf", 1), 3, 1), ("ab", ("leaf", 1), 4, 1)))
        self.says(desk, "room a ab b", "4")
        self.says(desk, "once a b", "3")
        self.refused(desk, "room b a", NoRow)
        self.refused(desk, "once ab a", NoRow)
        self.refused(desk, "least 9 b ab", NoRow)

    def test_books_with_too_many_parts(self):
        for parts in (1, 6, 7, 8, 9, 10, 11, 24):
            desk = self.desk(tuple((word_of(number), ("leaf", 1), 1, 1) for number in range(parts)))
            for row, most in (("room q", 7), ("least 1 q", 7), ("once q", 9)):
                if parts <= most:
                    self.says(desk, row, "1")
                else:
                    self.refused(desk, row, NoRow)
            # It is no row, whatever else it would be.
            if parts > 9:
                for row in ("room q q", "least 1 w q", "once w q"):
                    self.refused(desk, row, NoRow)
            self.says(desk, "worth q", "1")
            self.says(desk, "tree", "1" if parts == 1 else "no")

    def test_the_wishes_alone_do_not_make_a_book_small(self):
        desk = self.desk((*BOOK, ("g", ("leaf", 1), 1, 1), ("h", ("leaf", 1), 1, 1)))
        self.refused(desk, "room a", NoRow)
        self.refused(desk, "least 1 a", NoRow)
        self.says(desk, "once a", "1")


class Books(DeskCase):
    def test_a_book_told_anew_has_made_nothing(self):
        desk = self.desk()
        desk.say("ask e f")
        desk.say("change a 1")
        desk.say("book " + plain_text(BOOK))
        self.says(desk, "worth a", "40")
        self.says(desk, "ask e f", "80 80 25 6")
        desk.say("book " + plain_text(TREE))
        self.refused(desk, "worth a", NoPart)
        self.says(desk, "ask z", "2 8 3")

    def test_no_text(self):
        desk = self.desk()
        desk.say("ask e")
        desk.say("change a 41")
        for text, line in (("", 0), (" ", 0), ("\n", 0), ("a 1 1 leaf 1", 0), (" a 1 1 leaf 1\n", 0), ("x", 0),
                           ("a 1 1 leaf 1\n ", 1), ("a 1 1 leaf 1\n\n", 1), ("a 1 1 leaf 1\nb 1 1 leaf 01\n", 1),
                           ("a 1 1 leaf 1\n" * 25, 24), ("book a 1 1 leaf 1\n", 0), ("a 1 1 leaf 1 \n", 0)):
            self.assertEqual(self.refused(desk, "book " + text, NoText).line, line, text)
        self.says(desk, "worth a", "41")
        self.says(desk, "forget b", "ok")
        self.says(desk, "ask e", "82 20 5")
        self.says(desk, "ask e", "82 0 0")

    def test_what_was_made_stays_behind_refused_texts(self):
        desk = self.desk()
        desk.say("ask e")
        self.refused(desk, "book ", NoText)
        self.refused(desk, "book a 1 1 leaf 1\na 1 1 leaf 1\n", NoBook)
        self.says(desk, "ask e", "80 0 0")

    def test_no_book(self):
        desk = self.desk()
        for text in ("a 1 1 plus a\n", "a 1 1 leaf 1\na 1 1 leaf 2\n", "a 1 1 less b b\nb 1 1 leaf 1\n"):
            self.assertEqual(self.refused(desk, "book " + text, NoBook).fault, "names")
        self.says(desk, "worth a", "40")

    def test_two_desks(self):
        one, other = self.desk(), self.desk()
        one.say("ask e")
        one.say("change a 1")
        self.says(other, "worth a", "40")
        self.says(other, "ask e", "80 20 5")
        one.say("book " + plain_text(TREE))
        self.refused(other, "worth z", NoPart)
        self.refused(Desk(), "worth a", NoStand)

    def test_no_other_signs_stand_in_the_blanks_stead(self):
        desk = self.desk()
        for sign in SIGNS.replace(" ", ""):
            self.refused(desk, "worth" + sign + "a", NoRow)
            self.refused(desk, "book" + sign + "a 1 1 leaf 1\n", NoRow)


class Chance(DeskCase):
    def row_and_answer(self, chance, keeper):
        """A row by chance, and what is answered by plain ways."""
        book = keeper.told()
        names, wishes = names_of(book), some_wishes(chance, book)
        word = chance.choice(["worth", "ask", "change", "forget", "joined", "room", "once", "least", "tree"])
        name, room = chance.choice(names), chance.randint(1, 20)
        if word == "worth":
            return f"worth {name}", str(plain_worth(book, name))
        if word == "ask":
            asked = [chance.choice(names) for place in range(chance.randint(1, 4))]
            worths, cost, made = keeper.ask(asked)
            return "ask " + " ".join(asked), " ".join(map(str, [*worths, cost, len(made)]))
        if word == "change":
            number = chance.randint(0, 99)
            if part_of(book, name)[1][0] != "leaf":
                return f"change {name} {number}", NoLeaf
            keeper.change(name, number)
            return f"change {name} {number}", "ok"
        if word == "forget":
            keeper.forget(name)
            return f"forget {name}", "ok"
        if word == "joined":
            return "joined", plain_text(joined(book)[0])
        if word == "tree":
            tree = sorted(need for part in book if part[1][0] != "leaf" for need in part[1][1]) == sorted(names[:-1])
            return "tree", str(least_room(book)[0]) if tree else "no"
        row = " ".join([word] + [str(room)] * (word == "least") + wishes)
        if len(book) > (9 if word == "once" else 7):
            return row, NoRow
        if word == "once":
            return row, str(plain_once(book, wishes) if len(book) < 8 else plain_once_by_sets(book, wishes))
        if word == "room":
            return row, str(plain_least(book, wishes))
        cost = plain_cheapest(book, wishes, room)
        return row, "shut" if cost is None else str(cost)

    def check(self, chance, book):
        desk, keeper = self.desk(book), PlainKeeper(book)
        for turn in range(14):
            row, answer = self.row_and_answer(chance, keeper)
            if isinstance(answer, str):
                self.says(desk, row, answer)
            else:
                self.refused(desk, row, answer)

    def test_rows_by_chance(self):
        chance = random.Random(51)
        for turn in range(60):
            self.check(chance, some_shelf_book(chance, 1 + turn % 11, chance.choice([1, 3])))
            self.check(chance, some_book(turn, 12))
            self.check(chance, some_tree(chance, 1 + turn % 10))


if __name__ == "__main__":
    unittest.main()
