"""Points 15 and 16: the cheapest deeds in a room, marks, and the curve of costs."""

import copy
import random
import unittest

from holdshelf.again import are_shut, least
from holdshelf.cheap import are_marks, cheapest, curve
from holdshelf.once import once
from holdshelf.shelf import answers, run
from tests.cheaps import again_steps, all_cost, all_load, costs_left, plain_cheapest, plain_marks
from tests.makers import at_once
from tests.shelves import AGAIN, again_stands, books_and_wishes, needed, plain_least, plain_shut
from tests.shelves import some_shelf_book, some_wishes

# Its order is not that of texts. For t and y all but w is needed; the least room is 6, all needed ones cost 9.
BOOK = (
    ("y", ("leaf", 1), 3, 2),
    ("b", ("leaf", 2), 4, 3),
    ("w", ("leaf", 3), 1, 1),
    ("t", ("plus", ("b", "b")), 2, 4),
)
WISHES = ["t", "y"]
NOTHING = ((), ())

# n and k need x, which costs much and is in the way while p is made.
NARROW = (
    ("x", ("leaf", 1), 1, 9),
    ("k", ("plus", ("x",)), 1, 1),
    ("p", ("leaf", 2), 4, 1),
    ("m", ("plus", ("k", "p")), 1, 1),
    ("n", ("most", ("m", "x")), 4, 1),
)


class CheapCase(unittest.TestCase):
    def check_made(self, book, wishes, room, cost):
        told = cheapest(book, wishes, room)
        self.assertEqual((type(told), len(told), told[:2]), (tuple, 4, ("made", cost)), (book, wishes, room))
        deeds, marks = told[2:]
        self.assertEqual((type(told[1]), type(deeds), type(marks)), (int, list, dict))
        self.assertTrue(all(type(deed) is tuple and len(deed) == 2 for deed in deeds))
        self.assertIs(answers(book, room, deeds, wishes), True)
        self.assertEqual(run(book, room, deeds)[1], cost)
        self.assertTrue({name for word, name in deeds} <= set(needed(book, wishes)))
        self.assertTrue(all(type(mark) is int for mark in marks.values()))
        for other in {0, cost - 1, cost, cost + 1, 2 * cost}:
            self.assertIs(are_marks(book, wishes, room, other, marks), other == cost)
        self.assertIs(plain_marks(book, wishes, room, cost, marks), True)
        return deeds, marks

    def check_shut(self, book, wishes, room):
        told = cheapest(book, wishes, room)
        self.assertEqual((type(told), len(told), told[0], type(told[1])), (tuple, 2, "shut", list))
        self.assertIs(are_shut(book, wishes, room, told[1]), True)
        self.assertIs(plain_shut(book, wishes, room, told[1]), True)

    def check_room(self, book, wishes, room):
        cost = plain_cheapest(book, wishes, room)
        if cost is None:
            self.check_shut(book, wishes, room)
        else:
            self.check_made(book, wishes, room, cost)
        return cost


class Cheapest(CheapCase):
    def test_one_part(self):
        book = (("a", ("leaf", 1), 7, 5),)
        for room in (1, 6):
            self.check_shut(book, ["a"], room)
        for room in (7, 8, 99):
            deeds, marks = self.check_made(book, ["a"], room, 5)
            self.assertEqual(deeds, [("make", "a")])
            self.assertEqual(marks, {NOTHING: 5, (("a",), ("a",)): 0})

    def test_small_books(self):
        self.check_shut(BOOK, WISHES, 5)
        self.check_made(BOOK, WISHES, 6, 9)
        self.check_made(BOOK, WISHES, 99, 9)
        self.check_made(BOOK, ["b", "t", "y"], 6, 9)
        self.check_made(BOOK, ["y"], 3, 2)
        self.check_made(BOOK, ["w"], 1, 1)
        self.check_made(BOOK, ["b", "w", "y"], 4, 6)

    def test_parts_that_are_not_needed_are_never_made(self):
        book = (("a", ("leaf", 1), 9, 1), ("b", ("leaf", 1), 2, 3), ("c", ("plus", ("b",)), 9, 9))
        for room in (2, 20, 99):
            self.assertEqual(self.check_made(book, ["b"], room, 3)[0], [("make", "b")])

    def test_a_part_must_be_made_again_in_a_narrow_room(self):
        self.assertEqual(all_cost(AGAIN, ["g", "j"]), 33)
        self.check_shut(AGAIN, ["g", "j"], 2)
        deeds, marks = self.check_made(AGAIN, ["g", "j"], 3, 37)
        self.assertEqual(deeds.count(("make", "x")), 2)
        self.check_made(AGAIN, ["g", "j"], 4, 33)

    def test_the_more_room_the_cheaper(self):
        self.check_shut(NARROW, ["n"], 5)
        self.assertEqual(self.check_made(NARROW, ["n"], 6, 22)[0].count(("make", "x")), 2)
        self.check_made(NARROW, ["n"], 7, 13)
        self.check_made(NARROW, ["n"], 99, 13)

    def test_the_cheaper_part_is_made_again(self):
        # Either x or z goes while y, which needs neither, is made; whichever costs less must.
        for x, z in ((9, 1), (1, 9), (5, 4), (4, 5)):
            book = (("x", ("leaf", 1), 1, x), ("z", ("leaf", 2), 1, z), ("w", ("plus", ("x", "z")), 1, 1),
                    ("y", ("leaf", 2), 2, 1), ("u", ("plus", ("w", "y")), 1, 1), ("v", ("plus", ("u", "x", "z")), 1, 1))
            cost = all_cost(book, ["v"])
            self.assertEqual(self.check_room(book, ["v"], 6), cost)
            self.assertEqual(self.check_room(book, ["v"], 5), cost + min(x, z))
            self.assertEqual(self.check_room(book, ["v"], 4), cost + x + z)
            self.assertIsNone(self.check_room(book, ["v"], 3))

    def test_all_stands_of_books_by_chance(self):
        dearer = 0
        for book, wishes in books_and_wishes(41, 7, 105):
            room = plain_least(book, wishes)
            for other in sorted({1, room - 1, room, room + 1, all_load(book, wishes), 99}):
                if other:
                    self.assertEqual(self.check_room(book, wishes, other) is None, other < room)
            dearer += plain_cheapest(book, wishes, room) > all_cost(book, wishes)
        chance = random.Random(42)
        for turn in range(40):
            book = some_shelf_book(chance, 7, 1 + turn % 3)
            wishes = some_wishes(chance, book)
            room = least(book, wishes)[0]
            dearer += self.check_room(book, wishes, room) > all_cost(book, wishes)
        self.assertTrue(dearer > 1, dearer)

    def test_where_each_once_wants_more_room(self):
        chance, found = random.Random(43), 0
        while found < 12:
            book = some_shelf_book(chance, 7, chance.randint(1, 9))
            wishes = some_wishes(chance, book)
            low, high = least(book, wishes)[0], once(book, wishes)[0]
            if low == high:
                continue
            found += 1
            for room in range(low - 1, high + 1):
                self.check_room(book, wishes, room)

    def test_rooms_beyond_the_limits(self):
        self.check_shut(BOOK, WISHES, 0)
        self.check_made(BOOK, WISHES, 140, 9)

    def test_seven_parts_with_many_stands(self):
        leaves = tuple((letter, ("leaf", 1), 9, 9) for letter in "abcd")
        book = (*leaves, ("e", ("plus", tuple("abcd")), 9, 9), ("f", ("plus", tuple("abcd")), 9, 9),
                ("g", ("plus", tuple("aef")), 9, 9))
        with at_once():
            for room in (44, 45, 54, 63, 99):
                cheapest(book, ["e", "f", "g"], room)
            curve(book, ["e", "f", "g"])

    def test_books_somewhat_beyond_the_limits(self):
        leaves = tuple((letter, ("leaf", 1), 2, 1) for letter in "abcdef")
        book = (*leaves, ("x", ("plus", tuple("abc")), 3, 1), ("y", ("plus", tuple("def")), 3, 1),
                ("z", ("plus", ("x", "y")), 1, 1))
        with at_once():
            self.assertEqual(cheapest(book, ["z"], 12)[1], 9)
            self.assertEqual(curve(book, ["a", "x", "y", "z"]), [(12, 9)])


class Marks(CheapCase):
    def marks(self, marks, cost=9, room=6, wishes=WISHES):
        before = copy.deepcopy(marks)
        told = are_marks(BOOK, wishes, room, cost, marks)
        self.assertEqual(marks, before)
        self.assertIs(told, plain_marks(BOOK, wishes, room, cost, marks))
        return told

    def exact(self, room=6):
        """Of each stand, come to or not, what must still be paid: the greatest marks there are."""
        return costs_left(BOOK, WISHES, room)

    def told(self, room=6):
        return cheapest(BOOK, WISHES, room)[3]

    def test_marks(self):
        self.assertIs(self.marks(self.told()), True)
        self.assertIs(self.marks(self.exact()), True)
        self.assertIs(self.marks(dict(sorted(self.told().items()))), True)

    def test_another_cost(self):
        for marks in (self.told(), self.exact()):
            for cost in (0, 1, 8, 10, 18, -9, -1):
                self.assertIs(self.marks(marks, cost), False)

    def test_the_empty_dict(self):
        for cost in (0, 9, -1):
            for room in (1, 5, 6, 99):
                self.assertIs(self.marks({}, cost, room), False)

    def test_one_greater_by_one(self):
        greatest = self.exact()
        for stand in greatest:
            self.assertIs(self.marks({**greatest, stand: greatest[stand] + 1}), False, stand)
            self.marks({**self.told(), stand: self.told().get(stand, 0) + 1})
        self.assertIs(self.marks({**greatest, NOTHING: 10}, 10), False)
        self.assertIs(self.marks({**self.told(), NOTHING: 10}, 10), False)

    def test_one_less_by_one(self):
        for greatest in (self.told(), self.exact()):
            right = {True: 0, False: 0}
            for stand in greatest:
                right[self.marks({**greatest, stand: greatest[stand] - 1})] += 1
            self.assertTrue(right[False] > 3, right)
            self.assertIs(self.marks({**greatest, NOTHING: 8}, 9), False)
        # From nothing b is made for 3, and 6 must be left.
        self.assertIs(self.marks({**self.exact(), (("b",), ()): 5}), False)
        self.assertIs(self.marks({**self.exact(), (("b",), ()): 5, NOTHING: 8}, 8), False)

    def test_drops_cost_nothing(self):
        exact = self.exact()
        self.assertEqual([exact[stand] for stand in ((("b",), ()), (("y", "b"), ("y",)), ((), ("y",)))], [6, 4, 7])
        self.assertIs(self.marks({**exact, ((), ("y",)): 6}), False)
        for stand in exact:
            if stand[0] and len(stand[1]) < 2:
                less = (stand[0][1:], stand[1])
                self.assertIs(self.marks({**exact, less: exact[stand] - 1}), False, stand)

    def test_one_left_out_to_which_a_deed_leads(self):
        for greatest in (self.told(), self.exact()):
            for stand in self.told():
                rest = {other: mark for other, mark in greatest.items() if other != stand}
                self.assertIs(self.marks(rest), False, stand)

    def test_nought_is_not_left_out_either(self):
        end = (("y", "b"), ("y", "t"))
        self.assertIs(self.marks({stand: mark for stand, mark in self.told().items() if mark}), False)
        self.assertIs(self.marks({**self.told(), end: 0}), True)

    def test_below_nought(self):
        for stand in self.exact():
            for mark in (-1, -9, -10 ** 30):
                self.assertIs(self.marks({**self.exact(), stand: mark}), False)
        for stand in self.told():
            low = {**dict.fromkeys(self.told(), 0), stand: -1}
            self.assertIs(self.marks(low, low[NOTHING]), False)
        negative = dict.fromkeys(self.told(), -1)
        self.assertIs(self.marks(negative, -1), False)

    def test_the_first_stand_left_out(self):
        for greatest in (self.told(), self.exact()):
            rest = {stand: mark for stand, mark in greatest.items() if stand != NOTHING}
            for cost in (0, 9):
                self.assertIs(self.marks(rest, cost), False)
        # Even where no deed leads to it.
        self.assertIs(self.marks({((), ("y",)): 0}, 0, 1), False)
        self.assertIs(self.marks({((), ("y",)): 0, NOTHING: 0}, 0, 1), True)

    def test_a_mark_above_nought_where_all_are_told(self):
        ends = [stand for stand in self.exact() if len(stand[1]) == 2]
        self.assertEqual(len(ends), 8)
        for stand in ends:
            for mark in (1, 9):
                self.assertIs(self.marks({**self.exact(), stand: mark}), False)
                self.assertIs(self.marks({**self.told(), stand: mark}), False)
            self.assertIs(self.marks({**self.told(), stand: 0}), True)
            self.assertIs(self.marks({NOTHING: 5, stand: 0}, 5, 1), True)
            self.assertIs(self.marks({NOTHING: 5, stand: 1}, 5, 1), False)

    def test_no_deed_is_asked_where_all_are_told(self):
        marks = {stand: mark for stand, mark in self.told().items() if len(stand[1]) < 2}
        ends = {after for stand in marks for price, after in again_steps(BOOK, WISHES, 6, stand) if after not in marks}
        marks.update(dict.fromkeys(ends, 0))
        self.assertIs(self.marks(marks), True)
        self.assertFalse(all(after in marks for end in ends for price, after in again_steps(BOOK, WISHES, 6, end)))

    def test_names_in_another_order_or_twice(self):
        for stand in ((("b", "y"), ("y",)), (("y", "y"), ("y",)), (("y",), ("y", "y")), (("b", "b"), ()),
                      (("y", "b", "y"), ()), (("t", "b"), ()), ((), ("t", "y")), ((), ("t", "t"))):
            self.assertIs(self.marks({**self.told(), stand: 0}), False)
            self.assertIs(self.marks({**self.exact(), stand: 0}), False)
            self.assertIs(self.marks({NOTHING: 0, stand: 0}, 0, 1), False)

    def test_names_that_are_no_parts_or_not_needed(self):
        for name in ("w", "x", "", "Y", "y ", "nopart", "ab" * 700, "b\n"):
            for stand in (((name,), ()), (("y", name), ("y",)), ((), (name,)), ((), ("y", name)),
                          ((name,), ("y", "t"))):
                self.assertIs(self.marks({**self.exact(), stand: 0}), False)
                self.assertIs(self.marks({NOTHING: 0, stand: 0}, 0, 1), False)

    def test_a_told_one_that_is_no_wish(self):
        for told in (("b",), ("y", "b"), ("b", "t"), ("y", "b", "t"), ("w",)):
            for held in ((), ("y",), ("b",)):
                self.assertIs(self.marks({**self.exact(), (held, told): 0}), False)
                self.assertIs(self.marks({NOTHING: 0, (held, told): 0}, 0, 1), False)

    def test_stands_more_that_are_not_come_to(self):
        exact, marks = self.exact(), self.told()
        more = [stand for stand in exact if stand not in marks]
        self.assertTrue(len(more) > 3)
        self.assertIs(self.marks({**exact, **marks}), plain_marks(BOOK, WISHES, 6, 9, {**exact, **marks}))
        self.assertIs(self.marks({**exact, **dict.fromkeys(more, 0)}), True)
        # More on the shelf than the room, and a wish on it that isn't told.
        self.assertIs(self.marks({NOTHING: 3, (("y",), ()): 3}, 3, 1), True)
        self.assertIs(self.marks({NOTHING: 3, (("y",), ()): 4}, 3, 1), False)
        self.assertIs(self.marks({NOTHING: 3, (("y", "b"), ()): 3}, 3, 1), False)

    def test_all_nought(self):
        nought = dict.fromkeys(self.told(), 0)
        self.assertIs(self.marks(nought, 0), True)
        for cost in (1, 9, -1):
            self.assertIs(self.marks(nought, cost), False)
        self.assertIs(self.marks(dict.fromkeys(self.exact(), 0), 0), True)

    def test_lesser_marks_of_a_lesser_cost(self):
        for cost in range(9):
            marks = {stand: min(mark, cost) for stand, mark in self.exact().items()}
            self.assertIs(self.marks(marks, cost), True)
            self.assertIs(self.marks(marks, 9), False)

    def test_for_other_rooms(self):
        for room in range(1, 20):
            self.marks(self.told(), 9, room)
            self.marks(self.exact(), 9, room)
        self.assertIs(self.marks(self.told(), 9, 9), False)
        self.assertIs(self.marks(self.told(9), 9, 6), True)
        self.assertIs(self.marks(self.exact(6), 9, 9), True)

    def test_marks_of_a_narrow_room_do_not_hold_for_a_wider_one(self):
        marks = cheapest(AGAIN, ["g", "j"], 3)[3]
        self.assertIs(are_marks(AGAIN, ["g", "j"], 3, 37, marks), True)
        left = costs_left(AGAIN, ["g", "j"], 3)
        self.assertIs(are_marks(AGAIN, ["g", "j"], 3, 37, left), True)
        for room in (4, 5, 20):
            self.assertIs(are_marks(AGAIN, ["g", "j"], room, 37, marks), False)
            self.assertIs(are_marks(AGAIN, ["g", "j"], room, 37, left), False)

    def test_any_cost_where_the_room_is_shut(self):
        for cost in (0, 5, 1000):
            self.assertIs(self.marks({NOTHING: cost}, cost, 2), True)
            self.assertIs(self.marks({NOTHING: cost}, cost, 3), False)
            stands = cheapest(BOOK, WISHES, 5)[1]
            self.assertIs(self.marks(dict.fromkeys(stands, cost), cost, 5), True)

    def test_dicts_by_chance(self):
        chance = random.Random(44)
        many = {True: 0, False: 0}
        for book, wishes in books_and_wishes(45, 4, 120):
            room = least(book, wishes)[0] + chance.randint(0, 2)
            kind, cost, deeds, told = cheapest(book, wishes, room)
            exact, every = costs_left(book, wishes, room), again_stands(book, wishes)
            self.assertEqual(exact[NOTHING], cost)
            for start in (told, exact):
                rest = chance.choice(sorted(start))
                some = chance.choice(every)
                for marks in (start, {**start, some: start.get(some, 0) + 1}, {**start, some: start.get(some, 1) - 1},
                              {stand: mark for stand, mark in start.items() if stand != rest},
                              {stand: mark // 2 for stand, mark in start.items()}):
                    for price in (cost, marks.get(NOTHING, 0)):
                        expected = plain_marks(book, wishes, room, price, marks)
                        many[expected] += 1
                        self.assertIs(are_marks(book, wishes, room, price, marks), expected, (book, wishes, room))
        self.assertTrue(min(many.values()) > 100, many)


class Curve(CheapCase):
    def check_curve(self, book, wishes):
        pairs = curve(book, wishes)
        self.assertIs(type(pairs), list)
        for pair in pairs:
            self.assertEqual([type(pair), *map(type, pair)], [tuple, int, int])
        rooms, costs = [pair[0] for pair in pairs], [pair[1] for pair in pairs]
        self.assertEqual(rooms, sorted(set(rooms)))
        self.assertEqual(costs, sorted(set(costs), reverse=True))
        self.assertEqual(rooms[0], least(book, wishes)[0])
        self.assertEqual(costs[-1], all_cost(book, wishes))
        for place, (room, cost) in enumerate(pairs):
            behind = rooms[place + 1] if place + 1 < len(rooms) else all_load(book, wishes) + 2
            for other in {room, room + 1, (room + behind) // 2, behind - 1}:
                if room <= other < behind:
                    self.assertEqual(cheapest(book, wishes, other)[1], cost)
        return pairs

    def test_small_books(self):
        self.assertEqual(self.check_curve((("a", ("leaf", 1), 7, 5),), ["a"]), [(7, 5)])
        self.assertEqual(self.check_curve(BOOK, WISHES), [(6, 9)])
        self.assertEqual(self.check_curve(BOOK, ["b", "w", "y"]), [(4, 6)])
        self.assertEqual(self.check_curve(AGAIN, ["g", "j"]), [(3, 37), (4, 33)])

    def test_three_costs(self):
        book = (("x", ("leaf", 1), 1, 9), ("z", ("leaf", 2), 1, 1), ("w", ("plus", ("x", "z")), 1, 1),
                ("y", ("leaf", 2), 2, 1), ("u", ("plus", ("w", "y")), 1, 1), ("v", ("plus", ("u", "x", "z")), 1, 1))
        self.assertEqual(self.check_curve(book, ["v"]), [(4, 24), (5, 15), (6, 14)])

    def test_a_room_at_which_the_cost_stays_is_not_told(self):
        book = (("x", ("leaf", 1), 3, 9), ("k", ("plus", ("x",)), 1, 1), ("p", ("leaf", 2), 7, 1),
                ("m", ("plus", ("k", "p")), 1, 1), ("n", ("plus", ("m", "x")), 5, 1))
        self.assertEqual(self.check_curve(book, ["n"]), [(9, 22), (12, 13)])

    def test_rooms_between_three_costs_are_not_told(self):
        book = (("x", ("leaf", 1), 3, 2), ("z", ("leaf", 2), 5, 2), ("w", ("plus", ("x", "z")), 8, 8),
                ("y", ("leaf", 2), 8, 7), ("u", ("plus", ("w", "y")), 4, 2), ("v", ("plus", ("u", "x", "z")), 8, 1))
        self.assertEqual(self.check_curve(book, ["v"]), [(20, 26), (23, 24), (28, 22)])
        costs = [plain_cheapest(book, ["v"], room) for room in range(19, 30)]
        self.assertEqual(costs, [None, 26, 26, 26, 24, 24, 24, 24, 24, 22, 22])

    def test_books_by_chance(self):
        for book, wishes in books_and_wishes(46, 7, 140):
            pairs = self.check_curve(book, wishes)
            self.assertEqual(pairs[-1][0], once(book, wishes)[0])

    def test_books_whose_costs_fall(self):
        chance, falls = random.Random(47), []
        while len(falls) < 15:
            book = some_shelf_book(chance, 7, chance.randint(1, 9))
            wishes = some_wishes(chance, book)
            if least(book, wishes)[0] < once(book, wishes)[0]:
                falls.append(len(self.check_curve(book, wishes)))
        self.assertTrue(min(falls) > 1, falls)


class Apart(CheapCase):
    def test_what_is_handed_in_stays(self):
        book, wishes = copy.deepcopy(BOOK), list(WISHES)
        marks = cheapest(BOOK, WISHES, 6)[3]
        before = dict(marks)
        for room in (1, 5, 6, 20):
            cheapest(book, wishes, room)
            curve(book, wishes)
            are_marks(book, wishes, room, 9, marks)
        self.assertEqual((book, wishes, marks), (BOOK, WISHES, before))

    def test_what_is_told_is_the_askers_own(self):
        told = cheapest(BOOK, WISHES, 6)
        told[2].clear()
        told[3].clear()
        cheapest(BOOK, WISHES, 5)[1].clear()
        curve(BOOK, WISHES).append((99, 1))
        self.check_made(BOOK, WISHES, 6, 9)
        self.check_shut(BOOK, WISHES, 5)
        self.assertEqual(curve(BOOK, WISHES), [(6, 9)])


if __name__ == "__main__":
    unittest.main()
