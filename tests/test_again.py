"""Points 13 and 14: wishes answered with parts made again, and lists of stands that are shut."""

import copy
import random
import unittest

from holdshelf.again import are_shut, least, within
from holdshelf.once import once
from holdshelf.shelf import answers, run
from tests.makers import at_once, names_of
from tests.shelves import AGAIN, again_leads, again_stands, books_and_wishes, hopeless, needed
from tests.shelves import plain_least, plain_shut, some_shelf_book, some_wishes

# Its order is not that of texts. For t and y all but w is needed; the least room is 6.
BOOK = (
    ("y", ("leaf", 1), 3, 1),
    ("b", ("leaf", 2), 4, 1),
    ("w", ("leaf", 3), 1, 1),
    ("t", ("plus", ("b", "b")), 2, 1),
)
WISHES = ["t", "y"]
# In a room of 5 t is never made; y is told once it was made.
SHUT = [((), ()), (("y",), ("y",)), (("b",), ()), ((), ("y",)), (("b",), ("y",))]


def lead_on(book, wishes, room):
    return lambda stand: again_leads(book, wishes, room, stand)


def is_end(wishes):
    return lambda stand: len(stand[1]) == len(wishes)


class AgainCase(unittest.TestCase):
    def check_deeds(self, book, wishes, room, deeds):
        self.assertIs(type(deeds), list)
        self.assertTrue(all(type(deed) is tuple and len(deed) == 2 for deed in deeds))
        self.assertIs(answers(book, room, deeds, wishes), True)
        self.assertTrue({name for word, name in deeds} <= set(needed(book, wishes)))

    def check_does(self, book, wishes, room):
        told = within(book, wishes, room)
        self.assertEqual((type(told), len(told), told[0]), (tuple, 2, "does"))
        self.check_deeds(book, wishes, room, told[1])

    def check_shut(self, book, wishes, room):
        told = within(book, wishes, room)
        self.assertEqual((type(told), len(told), told[0]), (tuple, 2, "shut"))
        self.assertIs(type(told[1]), list)
        for stand in told[1]:
            self.assertEqual([type(stand), len(stand), type(stand[0]), type(stand[1])], [tuple, 2, tuple, tuple])
        self.assertIs(are_shut(book, wishes, room, told[1]), True)
        self.assertIs(plain_shut(book, wishes, room, told[1]), True)
        return told[1]

    def check_room(self, book, wishes, room):
        """The least room is this one, with deeds, and with stands for rooms below it."""
        told = least(book, wishes)
        self.assertEqual((type(told), len(told), type(told[0])), (tuple, 2, int))
        self.assertEqual(told[0], room, (book, wishes))
        self.check_deeds(book, wishes, room, told[1])
        self.assertEqual(run(book, room, told[1])[2], room)
        self.assertLessEqual(room, once(book, wishes)[0])
        for more in (0, 1, 99 - room):
            self.check_does(book, wishes, room + more)
        for below in {1, room - 1, room // 2}:
            if 0 < below < room:
                stands = self.check_shut(book, wishes, below)
                self.assertIs(are_shut(book, wishes, room, stands), False)


class Least(AgainCase):
    def test_one_part(self):
        self.check_room((("a", ("leaf", 1), 7, 1),), ["a"], 7)
        self.check_room((("a", ("leaf", 1), 1, 1),), ["a"], 1)

    def test_small_books(self):
        self.check_room(BOOK, WISHES, 6)
        self.check_room(BOOK, ["y"], 3)
        self.check_room(BOOK, ["b", "y"], 4)
        self.check_room(BOOK, ["b", "t", "y"], 6)

    def test_parts_that_are_not_needed_are_never_made(self):
        for wishes in (["t"], ["b", "t"], ["y"], WISHES):
            for room in (6, 20, 99):
                self.check_does(BOOK, wishes, room)
        self.check_room((("a", ("leaf", 1), 9, 1), ("b", ("leaf", 1), 2, 1), ("c", ("plus", ("a",)), 9, 1)), ["b"], 2)

    def test_a_part_must_be_made_again(self):
        self.assertEqual(once(AGAIN, ["g", "j"])[0], 4)
        self.check_room(AGAIN, ["g", "j"], 3)
        deeds = least(AGAIN, ["g", "j"])[1]
        self.assertTrue(deeds.count(("make", "x")) > 1)
        book = (("d", ("leaf", 1), 2, 8), ("x", ("leaf", 1), 3, 7), ("j", ("plus", ("d", "d")), 9, 5),
                ("y", ("plus", ("j", "x", "x")), 9, 4), ("p", ("plus", ("y", "d", "d", "j")), 5, 1),
                ("o", ("plus", ("j", "d", "x", "p")), 5, 5), ("b", ("plus", ("x",)), 5, 4))
        self.assertEqual(once(book, ["b", "o", "p"])[0], 28)
        self.check_room(book, ["b", "o", "p"], 25)

    def test_all_stands_of_books_by_chance(self):
        made_again = 0
        for book, wishes in books_and_wishes(31, 7, 210):
            room = plain_least(book, wishes)
            self.check_room(book, wishes, room)
            made_again += room < once(book, wishes)[0]
        chance = random.Random(32)
        for turn in range(60):
            book = some_shelf_book(chance, 7, 1 + turn % 3)
            wishes = some_wishes(chance, book)
            room = plain_least(book, wishes)
            self.check_room(book, wishes, room)
            made_again += room < once(book, wishes)[0]
        self.assertTrue(made_again > 3, made_again)

    def test_rooms_beyond_the_limits(self):
        self.check_shut(BOOK, WISHES, 0)
        self.check_does(BOOK, WISHES, 140)


class AtOnce(AgainCase):
    def test_seven_parts_with_many_stands(self):
        leaves = tuple((letter, ("leaf", 1), 9, 1) for letter in "abcd")
        book = (*leaves, ("e", ("plus", tuple("abcd")), 9, 1), ("f", ("plus", tuple("abcd")), 9, 1),
                ("g", ("plus", tuple("aef")), 9, 1))
        with at_once():
            self.check_room(book, ["e", "f", "g"], once(book, ["e", "f", "g"])[0])

    def test_books_somewhat_beyond_the_limits(self):
        leaves = tuple((letter, ("leaf", 1), 2, 1) for letter in "abcdef")
        book = (*leaves, ("x", ("plus", tuple("abc")), 3, 1), ("y", ("plus", tuple("def")), 3, 1),
                ("z", ("plus", ("x", "y")), 1, 1))
        with at_once():
            self.assertEqual(least(book, ["z"])[0], 12)
            self.assertEqual(least(book, ["a", "x", "y", "z"])[0], 12)


class Shut(AgainCase):
    def shut(self, stands, room=5):
        before = copy.deepcopy(stands)
        told = are_shut(BOOK, WISHES, room, stands)
        self.assertEqual(stands, before)
        self.assertIs(told, plain_shut(BOOK, WISHES, room, stands))
        return told

    def test_a_list_that_is_shut(self):
        self.assertIs(self.shut(SHUT), True)
        self.assertIs(self.shut(SHUT[::-1]), True)

    def test_a_told_list_in_another_order(self):
        stands = self.check_shut(BOOK, WISHES, 5)
        self.assertEqual(sorted(stands), sorted(SHUT))
        self.assertIs(self.shut(sorted(stands)), True)

    def test_the_empty_list_and_the_first_stand(self):
        self.assertIs(self.shut([]), False)
        self.assertIs(self.shut([], room=1), False)
        self.assertIs(self.shut([((), ())]), False)
        self.assertIs(self.shut([((), ())], room=2), True)
        self.assertIs(self.shut([((), ())], room=3), False)

    def test_the_first_stand_left_out(self):
        self.assertIs(self.shut(SHUT[1:]), False)
        self.assertIs(self.shut([((), ("y",))], room=2), False)
        self.assertIs(self.shut([((), ("y",)), ((), ("t",))], room=2), False)

    def test_a_stand_in_which_all_wishes_are_told(self):
        for held in ((), ("y",), ("b", "t"), ("y", "b", "t")):
            self.assertIs(self.shut([*SHUT, (held, ("y", "t"))]), False)
            self.assertIs(self.shut([((), ()), (held, ("y", "t"))], room=1), False)
        self.assertIs(are_shut(BOOK, ["y"], 1, [((), ()), ((), ("y",))]), False)

    def test_a_stand_twice(self):
        for stand in SHUT:
            self.assertIs(self.shut([*SHUT, stand]), False)
            self.assertIs(self.shut([stand, *SHUT]), False)

    def test_a_stand_left_out_to_which_a_deed_leads(self):
        for stand in SHUT:
            self.assertIs(self.shut([other for other in SHUT if other != stand]), False)
        # Dropping leads on too, from what is not come to.
        self.assertIs(self.shut([((), ()), (("t",), ("t",))], room=2), False)
        self.assertIs(self.shut([((), ()), (("t",), ("t",)), ((), ("t",))], room=2), True)
        self.assertIs(self.shut([((), ()), (("t",), ())], room=2), True)

    def test_for_other_rooms(self):
        for room in range(1, 20):
            self.assertIs(self.shut(SHUT, room), room < 6)

    def test_names_in_another_order_or_twice(self):
        more = [(("y", "b"), ("y",)), (("y", "b"), ())]
        self.assertIs(self.shut([*SHUT, (("y",), ()), *more]), True)
        for stand in ((("b", "y"), ("y",)), (("y", "y"), ("y",)), (("y",), ("y", "y")), (("b", "b"), ()),
                      (("y", "b", "y"), ()), (("t", "b"), ()), ((), ("t", "y")), ((), ("t", "t"))):
            self.assertIs(self.shut([*SHUT, (("y",), ()), *more, stand]), False)
            self.assertIs(self.shut([stand, ((), ())], room=1), False)

    def test_names_that_are_no_parts_or_not_needed(self):
        for name in ("w", "x", "", "Y", "y ", "nopart", "ab" * 700, "b\n"):
            self.assertIs(self.shut([*SHUT, ((name,), ())]), False)
            self.assertIs(self.shut([*SHUT, (("y", name), ("y",))]), False)
            self.assertIs(self.shut([*SHUT, ((), (name,))]), False)
            self.assertIs(self.shut([*SHUT, ((), ("y", name))]), False)

    def test_a_told_one_that_is_no_wish(self):
        for told in (("b",), ("y", "b"), ("b", "t"), ("w",)):
            for held in ((), ("y",), ("b",)):
                self.assertIs(self.shut([*SHUT, (held, told)]), False)
                self.assertIs(self.shut([((), ()), ((), ("y",)), ((), told)], room=1), False)

    def test_stands_that_are_not_come_to(self):
        self.assertIs(self.shut([((), ()), ((), ("y",))], room=2), True)
        self.assertIs(self.shut([((), ()), ((), ("t",))], room=2), True)
        # y can be made then, and all is told.
        self.assertIs(self.shut([((), ()), (("y",), ("y",)), ((), ("y",)), ((), ("t",))], room=3), False)

    def test_a_stand_that_holds_more_than_the_room(self):
        both = [*SHUT, (("y", "b"), ("y",))]
        self.assertIs(self.shut(both), True)
        self.assertIs(self.shut([((), ()), (("b",), ())], room=2), True)
        self.assertIs(self.shut([((), ()), (("y", "b"), ())], room=2), False)
        self.assertIs(self.shut([((), ()), (("y", "b"), ()), (("y",), ()), (("b",), ())], room=2), True)
        # Nothing is made beside it, not even t, of which all that it needs is there.
        self.assertIs(self.shut([*both, (("y", "b"), ()), (("y",), ())]), True)

    def test_a_wish_on_the_shelf_that_is_not_told(self):
        self.assertIs(self.shut([*SHUT, (("y",), ())]), True)
        self.assertIs(self.shut([((), ()), (("y",), ())], room=2), True)
        self.assertIs(self.shut([((), ()), (("y",), ())], room=3), False)

    def test_a_wish_that_was_told_is_made_again(self):
        self.assertIs(self.shut([((), ()), (("y",), ("y",)), ((), ("y",))], room=3), True)
        self.assertIs(self.shut([((), ()), (("y",), ("y",))], room=3), False)

    def test_wishes_are_told_in_the_books_order(self):
        stands = within(BOOK, ["b", "t", "y"], 5)[1]
        self.assertIn(((), ("y", "b")), stands)
        self.assertNotIn(((), ("b", "y")), stands)

    def test_lists_by_chance(self):
        chance = random.Random(33)
        many = {True: 0, False: 0}
        for book, wishes in books_and_wishes(34, 4, 160):
            room = chance.randint(1, least(book, wishes)[0] + 1)
            every = again_stands(book, wishes)
            dead = hopeless(every, lead_on(book, wishes, room), is_end(wishes))
            told = within(book, wishes, room)
            lists = [every, dead, [stand for stand in every if stand[1] == ()]]
            if told[0] == "shut":
                some = [stand for stand in chance.sample(every, 2) if stand not in told[1]]
                lists += [told[1], [*told[1], chance.choice(every)], [*told[1], *some]]
                lists += [[stand for stand in told[1] if stand != chance.choice(every)], dead[1:], dead + dead[-1:]]
                self.assertIs(are_shut(book, wishes, room, dead), True)
            for stands in lists:
                expected = plain_shut(book, wishes, room, stands)
                many[expected] += 1
                self.assertIs(are_shut(book, wishes, room, stands), expected, (book, wishes, room, stands))
        self.assertTrue(min(many.values()) > 100, many)


class Apart(AgainCase):
    def test_what_is_handed_in_stays(self):
        book, wishes, stands = copy.deepcopy(BOOK), list(WISHES), list(SHUT)
        for room in (1, 5, 6, 20):
            least(book, wishes)
            within(book, wishes, room)
            are_shut(book, wishes, room, stands)
            are_shut(book, wishes, room, stands + [(("nopart",), ())])
        self.assertEqual((book, wishes, stands), (BOOK, WISHES, SHUT))

    def test_what_is_told_is_the_askers_own(self):
        least(BOOK, WISHES)[1].clear()
        within(BOOK, WISHES, 6)[1].append(("make", "nopart"))
        within(BOOK, WISHES, 5)[1].remove(((), ()))
        self.check_room(BOOK, WISHES, 6)
        self.assertEqual(names_of(BOOK), ["y", "b", "w", "t"])


if __name__ == "__main__":
    unittest.main()
