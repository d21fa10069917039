"""Points 11 and 12: wishes answered with each part made once, and lists of stands that are stuck."""

import copy
import random
import unittest

from holdshelf.once import are_stuck, once, once_in
from holdshelf.shelf import answers, run
from tests.makers import at_once, names_of, needs
from tests.shelves import AGAIN, books_and_wishes, hopeless, load_of, needed, once_leads, once_stands
from tests.shelves import plain_once, plain_once_by_sets, plain_stuck, some_shelf_book, some_wishes

# Its order is not that of texts. For t and z all but w is needed; the least room is 11, for z with y and b.
BOOK = (
    ("y", ("leaf", 1), 3, 1),
    ("b", ("leaf", 2), 4, 1),
    ("w", ("leaf", 3), 1, 1),
    ("t", ("plus", ("b", "b")), 2, 1),
    ("z", ("less", ("y", "b")), 4, 1),
)
WISHES = ["t", "z"]
# In a room of 10 z never comes.
STUCK = [(), ("y",), ("b",), ("y", "b"), ("b", "t"), ("y", "b", "t")]


def is_end(book, wishes):
    return lambda stand: stand == tuple(needed(book, wishes))


def lead_on(book, wishes, room):
    return lambda stand: once_leads(book, wishes, room, stand)


class OnceCase(unittest.TestCase):
    def check_deeds(self, book, wishes, room, deeds):
        self.assertIs(type(deeds), list)
        self.assertTrue(all(type(deed) is tuple and len(deed) == 2 for deed in deeds))
        self.assertIs(answers(book, room, deeds, wishes), True)
        makes = [name for word, name in deeds if word == "make"]
        self.assertEqual(sorted(makes), sorted(needed(book, wishes)))

    def check_does(self, book, wishes, room):
        told = once_in(book, wishes, room)
        self.assertEqual((type(told), len(told), told[0]), (tuple, 2, "does"))
        self.check_deeds(book, wishes, room, told[1])

    def check_stuck(self, book, wishes, room):
        told = once_in(book, wishes, room)
        self.assertEqual((type(told), len(told), told[0]), (tuple, 2, "stuck"))
        self.assertIs(type(told[1]), list)
        self.assertTrue(all(type(stand) is tuple for stand in told[1]))
        self.assertIs(are_stuck(book, wishes, room, told[1]), True)
        self.assertIs(plain_stuck(book, wishes, room, told[1]), True)
        return told[1]

    def check_room(self, book, wishes, room):
        """The least room is this one, with deeds, and with stands for rooms below it."""
        told = once(book, wishes)
        self.assertEqual((type(told), len(told), type(told[0])), (tuple, 2, int))
        self.assertEqual(told[0], room, (book, wishes))
        self.check_deeds(book, wishes, room, told[1])
        self.assertEqual(run(book, room, told[1])[2], room)
        for more in (0, 1, 7, 99 - room):
            self.check_does(book, wishes, room + more)
        for less in {1, room - 1, room // 2, max(1, room - 2)}:
            if 0 < less < room:
                stands = self.check_stuck(book, wishes, less)
                self.assertIs(are_stuck(book, wishes, room, stands), False)


class Least(OnceCase):
    def test_one_part(self):
        self.check_room((("a", ("leaf", 1), 7, 1),), ["a"], 7)
        self.check_room((("a", ("leaf", 1), 1, 1),), ["a"], 1)

    def test_small_books(self):
        self.check_room(BOOK, WISHES, 11)
        self.check_room(BOOK, ["t"], 6)
        self.check_room(BOOK, ["b", "y"], 4)
        self.check_room(BOOK, ["t", "w", "y"], 6)
        self.check_room(BOOK, ["b", "z"], 11)
        self.check_room(AGAIN, ["g", "j"], 4)

    def test_a_wish_that_another_wish_needs(self):
        self.check_room(BOOK, ["b", "t"], 6)
        self.check_room(BOOK, ["b", "y", "z"], 11)

    def test_a_part_stays_till_all_that_need_it_are_made(self):
        book = (("a", ("leaf", 1), 5, 1), ("b", ("plus", ("a",)), 2, 1), ("c", ("plus", ("b",)), 6, 1),
                ("d", ("plus", ("a", "c")), 1, 1))
        self.check_room(book, ["d"], 13)
        self.check_room(book, ["c"], 8)

    def test_parts_that_are_not_needed_are_never_made(self):
        for wishes in (["t"], ["y"], ["b", "y"], ["t", "w"]):
            made = [name for word, name in once(BOOK, wishes)[1] if word == "make"]
            self.assertEqual(sorted(made), sorted(needed(BOOK, wishes)))
        # k needs what is needed, but is not needed itself: a need not stay for it.
        book = (("a", ("leaf", 1), 8, 1), ("b", ("plus", ("a",)), 1, 1), ("c", ("plus", ("b",)), 3, 1),
                ("k", ("plus", ("a", "c")), 9, 1))
        self.check_room(book, ["c"], 9)

    def test_all_orders_of_books_by_chance(self):
        for book, wishes in books_and_wishes(21, 9, 216):
            self.check_room(book, wishes, plain_once(book, wishes))

    def test_books_of_nine_parts(self):
        chance = random.Random(22)
        for turn in range(60):
            book = some_shelf_book(chance, 9)
            wishes = some_wishes(chance, book)
            self.check_room(book, wishes, plain_once_by_sets(book, wishes))

    def test_rooms_beyond_the_limits(self):
        self.check_stuck(BOOK, WISHES, 0)
        self.check_does(BOOK, WISHES, 140)


class AtOnce(OnceCase):
    def test_nine_parts_with_as_many_stands_as_can_be(self):
        leaves = tuple((letter, ("leaf", 1), 9, 1) for letter in "abcdefg")
        book = (*leaves, ("h", ("plus", tuple("abcd")), 9, 1), ("i", ("plus", tuple("efgh")), 9, 1))
        with at_once():
            self.check_room(book, ["i"], 45)
        many = (*leaves[:6], ("g", ("plus", ("a", "b")), 9, 1), ("h", ("plus", ("c", "d")), 9, 1),
                ("i", ("plus", ("e", "f")), 9, 1))
        with at_once():
            self.check_room(many, ["g", "h", "i"], 27)

    def test_books_somewhat_beyond_the_limits(self):
        leaves = tuple((letter, ("leaf", 1), 2, 1) for letter in "abcdefgh")
        book = (*leaves, *[(top, ("plus", tuple(low)), 3, 1) for top, low in (("w", "abcd"), ("x", "efgh"))],
                ("z", ("plus", ("w", "x")), 1, 1))
        with at_once():
            self.assertEqual(once(book, ["z"])[0], 14)
            self.assertEqual(once(book, ["a", "w", "x", "z"])[0], 14)


class Stuck(OnceCase):
    def stuck(self, stands, room=10):
        before = copy.deepcopy(stands)
        told = are_stuck(BOOK, WISHES, room, stands)
        self.assertEqual(stands, before)
        self.assertIs(told, plain_stuck(BOOK, WISHES, room, stands))
        return told

    def test_a_list_that_is_stuck(self):
        self.assertIs(self.stuck(STUCK), True)
        self.assertIs(self.stuck(STUCK[::-1]), True)

    def test_a_told_list_in_another_order(self):
        stands = self.check_stuck(BOOK, WISHES, 10)
        self.assertEqual(sorted(stands), sorted(STUCK))
        self.assertIs(self.stuck(sorted(stands)), True)

    def test_the_empty_list_and_the_first_stand(self):
        self.assertIs(self.stuck([]), False)
        self.assertIs(self.stuck([()]), False)
        self.assertIs(self.stuck([()], room=2), True)
        self.assertIs(self.stuck([()], room=3), False)
        self.assertIs(self.stuck([], room=1), False)

    def test_the_first_stand_left_out(self):
        self.assertIs(self.stuck(STUCK[1:]), False)
        self.assertIs(self.stuck([("y", "b", "t")]), False)

    def test_with_all_needed_ones(self):
        self.assertIs(self.stuck([*STUCK, ("y", "b", "t", "z")]), False)
        self.assertIs(self.stuck([*STUCK, ("y", "b", "z"), ("y", "b", "t", "z")]), False)
        self.assertIs(self.stuck([(), ("y", "b", "t", "z")], room=2), False)

    def test_a_stand_twice(self):
        for stand in STUCK:
            self.assertIs(self.stuck([*STUCK, stand]), False)
            self.assertIs(self.stuck([stand, *STUCK]), False)

    def test_a_stand_left_out_to_which_a_part_leads(self):
        for stand in STUCK:
            self.assertIs(self.stuck([other for other in STUCK if other != stand]), False)

    def test_for_other_rooms(self):
        for room in range(1, 20):
            self.assertIs(self.stuck(STUCK, room), room < 11)

    def test_names_that_are_no_parts_or_not_needed(self):
        for stand in (("w",), ("y", "b", "w"), ("w", "t"), ("x",), ("",), ("Y",), ("y ",), ("b", "nopart"), ("y", ""),
                      ("ab" * 700,), ("t\n",)):
            self.assertIs(self.stuck([*STUCK, stand]), False)
            self.assertIs(self.stuck([stand, *STUCK]), False)

    def test_names_in_another_order_or_twice(self):
        for stand in (("b", "y"), ("t", "b"), ("b", "y", "t"), ("t", "y", "b"), ("y", "y"), ("b", "b", "t"),
                      ("b", "t", "t"), ("y", "b", "y")):
            self.assertIs(self.stuck([*STUCK, stand]), False)
            self.assertIs(self.stuck([other for other in STUCK if sorted(other) != sorted(stand)] + [stand]), False)

    def test_a_made_part_that_lacks_what_it_needs(self):
        for stand in (("t",), ("y", "t"), ("z",), ("y", "z"), ("b", "z"), ("b", "t", "z"), ("y", "t", "z")):
            self.assertIs(self.stuck([*STUCK, stand]), False)
            self.assertIs(self.stuck([(), stand], room=1), False)

    def test_a_stand_that_is_not_come_to(self):
        self.assertIs(self.stuck([(), ("y", "b", "t")], room=2), True)
        self.assertIs(self.stuck([(), ("y",), ("y", "b", "t")], room=2), True)
        self.assertIs(self.stuck([(), ("y",), ("b",)], room=3), True)
        self.assertIs(self.stuck([(), ("y",), ("b",), ("b", "t")], room=6), True)
        self.assertIs(self.stuck([(), ("y",), ("b",), ("b", "t"), ("y", "b")], room=6), True)
        self.assertIs(self.stuck([(), ("y",), ("b",), ("y", "b")], room=5), True)
        self.assertIs(self.stuck([(), ("y", "b")], room=2), True)
        book = (("a", ("leaf", 1), 9, 1), ("b", ("leaf", 1), 2, 1), ("c", ("plus", ("a",)), 9, 1))
        self.assertIs(are_stuck(book, ["b", "c"], 8, [(), ("b",)]), True)
        self.assertIs(are_stuck(book, ["b", "c"], 8, [(), ("b",), ("a",)]), True)
        self.assertIs(are_stuck(book, ["b", "c"], 11, [(), ("b",), ("a",), ("a", "b")]), True)
        # From what is not come to a part leads on, too: here b, to all needed ones.
        self.assertIs(are_stuck(book, ["b", "c"], 8, [(), ("b",), ("a", "c")]), False)

    def test_what_is_made_and_needed_no_more_takes_no_room(self):
        book = (("a", ("leaf", 1), 9, 1), ("b", ("plus", ("a",)), 1, 1), ("c", ("leaf", 1), 9, 1),
                ("d", ("plus", ("c",)), 3, 1))
        below_twelve = [(), ("a",), ("c",), ("a", "b"), ("a", "b", "c")]
        self.assertIs(are_stuck(book, ["b", "d"], 11, below_twelve), True)
        self.assertIs(are_stuck(book, ["b", "d"], 11, below_twelve[:-1]), False)
        self.assertIs(are_stuck(book, ["b", "d"], 12, below_twelve), False)
        self.assertIs(are_stuck(book, ["d"], 11, [(), ("c",)]), True)
        self.check_room(book, ["b", "d"], 12)

    def test_lists_by_chance(self):
        chance = random.Random(23)
        many = {True: 0, False: 0}
        for book, wishes in books_and_wishes(24, 6, 240):
            room = chance.randint(1, once(book, wishes)[0] + 1)
            every = once_stands(book, wishes)
            dead = hopeless(every, lead_on(book, wishes, room), is_end(book, wishes))
            told = once_in(book, wishes, room)
            lists = [every, dead, [stand for stand in every if len(stand) < 2]]
            if told[0] == "stuck":
                some = chance.sample(every, min(2, len(every)))
                lists += [told[1], [*told[1], chance.choice(every)], [*told[1], *[s for s in some if s not in told[1]]]]
                lists += [[stand for stand in told[1] if stand != chance.choice(every)], dead[1:], dead + dead[-1:]]
                self.assertIs(are_stuck(book, wishes, room, dead), True)
            for stands in lists:
                expected = plain_stuck(book, wishes, room, stands)
                many[expected] += 1
                self.assertIs(are_stuck(book, wishes, room, stands), expected, (book, wishes, room, stands))
        self.assertTrue(min(many.values()) > 100, many)


class Apart(OnceCase):
    def test_what_is_handed_in_stays(self):
        book, wishes, stands = copy.deepcopy(BOOK), list(WISHES), list(STUCK)
        for room in (1, 10, 11, 20):
            once(book, wishes)
            once_in(book, wishes, room)
            are_stuck(book, wishes, room, stands)
            are_stuck(book, wishes, room, stands + [("nopart",)])
        self.assertEqual((book, wishes, stands), (BOOK, WISHES, STUCK))

    def test_what_is_told_is_the_askers_own(self):
        once(BOOK, WISHES)[1].clear()
        once_in(BOOK, WISHES, 11)[1].append(("make", "nopart"))
        once_in(BOOK, WISHES, 10)[1].remove(())
        self.check_room(BOOK, WISHES, 11)

    def test_makes_come_behind_what_they_need(self):
        for book, wishes in books_and_wishes(25, 9, 45):
            made = [name for word, name in once(book, wishes)[1] if word == "make"]
            for place, name in enumerate(made):
                self.assertTrue(set(needs(book, name)) <= set(made[:place]))
            self.assertLessEqual(once(book, wishes)[0], load_of(book, names_of(book)))


if __name__ == "__main__":
    unittest.main()
