"""Points 2 and 3 over the whole program, and the beginning of the interface."""

import copy
import importlib
import inspect
import random
import unittest

from holdshelf.again import are_shut, least, within
from holdshelf.books import need_book, why_no_book
from holdshelf.cheap import are_marks, cheapest, curve
from holdshelf.desk import Desk
from holdshelf.errors import NoBook, NoDeed, NoText
from holdshelf.joined import are_alike, joined
from holdshelf.keeper import Keeper
from holdshelf.once import are_stuck, once, once_in
from holdshelf.shelf import answers, run
from holdshelf.texts import read_book, show_book
from holdshelf.trees import is_tree, least_room
from holdshelf.worths import above, below, worth, worths
from tests.cheaps import all_cost, all_load
from tests.makers import names_of, some_book
from tests.shelves import AGAIN, books_and_wishes, needed, some_hills, some_tree, some_wishes

TREE = (("x", ("leaf", 1), 3, 2), ("y", ("leaf", 1), 4, 1), ("z", ("times", ("x", "y")), 2, 5))

# How many things each name of the interface takes.
INTERFACE = {
    "books": {"why_no_book": 1, "need_book": 1},
    "worths": {"worth": 2, "worths": 1, "below": 2, "above": 2},
    "joined": {"are_alike": 3, "joined": 1},
    "shelf": {"run": 3, "answers": 4},
    "trees": {"is_tree": 1, "least_room": 1},
    "once": {"once": 2, "once_in": 3, "are_stuck": 4},
    "again": {"least": 2, "within": 3, "are_shut": 4},
    "cheap": {"cheapest": 3, "are_marks": 5, "curve": 2},
    "texts": {"show_book": 1, "read_book": 1},
}
CLASSES = {
    "keeper": ("Keeper", 1, {"ask": 1, "change": 2, "put": 1, "out": 1, "forget": 1, "told": 0}),
    "desk": ("Desk", 0, {"say": 1}),
}


def cost_in(book, wishes, room):
    """The least cost in a room; where it is shut, more than any."""
    told = cheapest(book, wishes, room)
    return told[1] if told[0] == "made" else 10 ** 9


def greater(book, place, field):
    """The book with one part's size (2) or cost (3) greater by one, or None where it would be too great."""
    part = list(book[place])
    part[field] += 1
    return (*book[:place], tuple(part), *book[place + 1:]) if part[field] < 10 else None


class Joined(unittest.TestCase):
    def test_wishes_need_no_more_room_and_cost_no_more(self):
        chance, less_room, less_cost = random.Random(61), 0, 0
        for seed in range(150):
            book = some_book(seed, 7)
            wishes = some_wishes(chance, book)
            small, firsts = joined(book)
            others = sorted({firsts[name] for name in wishes})
            room = least(book, wishes)[0]
            self.assertLessEqual(least(small, others)[0], room)
            less_room += least(small, others)[0] < room
            for more in (0, 1, 3):
                self.assertLessEqual(cost_in(small, others, room + more), cost_in(book, wishes, room + more))
                less_cost += cost_in(small, others, room + more) < cost_in(book, wishes, room + more)
        self.assertTrue(less_room > 3 and less_cost > 30, (less_room, less_cost))

    def test_each_part_once_that_tells_the_same(self):
        for seed in range(60):
            book = some_book(seed)
            small, firsts = joined(book)
            self.assertEqual(worths(book), {name: worth(small, firsts[name]) for name in names_of(book)})
            self.assertEqual(read_book(show_book(small)), small)


class Trees(unittest.TestCase):
    def test_the_last_part_as_a_wish(self):
        chance = random.Random(62)
        for turn in range(80):
            book = (some_tree, some_hills)[turn % 2](chance, 1 + turn % 7)
            last = [names_of(book)[-1]]
            room = least_room(book)[0]
            self.assertEqual(once(book, last)[0], room)
            self.assertEqual(least(book, last)[0], room)
            self.assertEqual(curve(book, last), [(room, sum(part[3] for part in book))])
            self.assertEqual(cheapest(book, last, room)[1], all_cost(book, last))


class Wishes(unittest.TestCase):
    def test_together_they_need_the_greatest_of_their_rooms(self):
        for book, wishes in books_and_wishes(63, 7, 140):
            self.assertEqual(least(book, wishes)[0], max(least(book, [wish])[0] for wish in wishes))

    def test_one_wish_fewer(self):
        for book, wishes in books_and_wishes(64, 7, 140):
            for wish in wishes if len(wishes) > 1 else []:
                fewer = [other for other in wishes if other != wish]
                room = least(book, wishes)[0]
                self.assertLessEqual(least(book, fewer)[0], room)
                self.assertLessEqual(once(book, fewer)[0], once(book, wishes)[0])
                for other in (least(book, fewer)[0], room, room + 2, 99):
                    self.assertLessEqual(cost_in(book, fewer, other), cost_in(book, wishes, other))

    def test_a_greater_size_or_cost(self):
        for book, wishes in books_and_wishes(65, 7, 70):
            room, most = least(book, wishes)[0], once(book, wishes)[0]
            costs = {other: cost_in(book, wishes, other) for other in (room - 1, room, room + 1, most)}
            for place in range(len(book)):
                for field in (2, 3):
                    bigger = greater(book, place, field)
                    if bigger is None:
                        continue
                    self.assertGreaterEqual(least(bigger, wishes)[0], room)
                    self.assertGreaterEqual(once(bigger, wishes)[0], most)
                    for other in costs:
                        self.assertGreaterEqual(cost_in(bigger, wishes, other), costs[other])
                    if field == 3 and book[place][0] in needed(book, wishes):
                        self.assertGreater(cost_in(bigger, wishes, most), costs[most])

    def test_the_more_room_the_cheaper(self):
        for book, wishes in books_and_wishes(66, 7, 40):
            costs = [cost_in(book, wishes, room) for room in range(1, all_load(book, wishes) + 3)]
            self.assertEqual(costs, sorted(costs, reverse=True))
            self.assertEqual(costs[-1], all_cost(book, wishes))
            self.assertEqual(costs.count(10 ** 9), least(book, wishes)[0] - 1)

    def test_whatever_tells_a_room_agrees(self):
        for book, wishes in books_and_wishes(67, 7, 70):
            room = least(book, wishes)[0]
            for other in (room - 1, room, room + 1):
                kinds = within(book, wishes, other)[0], cheapest(book, wishes, other)[0]
                self.assertEqual(kinds, ("does", "made") if other >= room else ("shut", "shut"))
            self.assertEqual(once_in(book, wishes, curve(book, wishes)[-1][0])[0], "does")


class Kept(unittest.TestCase):
    def test_a_keeper_pays_no_more_than_all_that_is_below(self):
        chance = random.Random(68)
        for seed in range(60):
            book = some_book(seed)
            keeper, name = Keeper(book), chance.choice(names_of(book))
            self.assertEqual(keeper.ask([name])[1:], (all_cost(book, [name]), below(book, [name])))
            leaf = [part[0] for part in book if part[1][0] == "leaf"][0]
            keeper.change(leaf, chance.randint(0, 99))
            made = keeper.ask([name])[2]
            self.assertTrue(set(made) <= set(above(book, leaf)) & set(below(book, [name])))
            self.assertEqual(keeper.ask([name])[0], [worth(keeper.told(), name)])


def calls():
    """Calls of all that is told, each with things of its own."""
    deeds = [("make", "x"), ("make", "a"), ("drop", "x")]
    wishes = ["g", "j"]
    keeper, desk = Keeper(AGAIN), Desk()
    return [
        (why_no_book, AGAIN), (why_no_book, [list(AGAIN), {"a": [1]}]), (why_no_book, {"a": [AGAIN]}),
        (need_book, AGAIN), (worth, AGAIN, "j"), (worths, AGAIN), (below, AGAIN, ["g", "a", "g"]), (above, AGAIN, "x"),
        (are_alike, AGAIN, "p", "q"), (joined, AGAIN), (run, AGAIN, 3, deeds), (answers, AGAIN, 3, deeds, ["a"]),
        (is_tree, TREE), (least_room, TREE), (once, AGAIN, wishes), (once_in, AGAIN, wishes, 3),
        (once_in, AGAIN, wishes, 4), (are_stuck, AGAIN, wishes, 3, once_in(AGAIN, wishes, 3)[1]),
        (least, AGAIN, wishes), (within, AGAIN, wishes, 2), (within, AGAIN, wishes, 3),
        (are_shut, AGAIN, wishes, 2, within(AGAIN, wishes, 2)[1]), (cheapest, AGAIN, wishes, 2),
        (cheapest, AGAIN, wishes, 3), (are_marks, AGAIN, wishes, 3, 37, cheapest(AGAIN, wishes, 3)[3]),
        (curve, AGAIN, wishes), (show_book, AGAIN), (read_book, show_book(AGAIN)), (keeper.ask, []), (keeper.told,),
        (desk.say, "book " + show_book(AGAIN)), (desk.say, "joined"), (desk.say, "worth j"), (desk.say, "room g j"),
    ]


def spoil(thing):
    """Change each list and dict that is told, and what lies within it."""
    if isinstance(thing, (list, tuple)):
        for inner in thing:
            spoil(inner)
    if isinstance(thing, list):
        thing.clear()
        thing.append("spoilt")
    if isinstance(thing, dict):
        for inner in thing.values():
            spoil(inner)
        thing.clear()
        thing["spoilt"] = 1


class Apart(unittest.TestCase):
    def test_all_that_was_handed_in_is_the_same(self):
        for call, *given in calls():
            before = copy.deepcopy(given)
            call(*given)
            self.assertEqual(given, before, call)

    def test_a_told_thing_that_is_changed_changes_no_later_answer(self):
        for call, *given in calls():
            first = call(*given)
            kept = copy.deepcopy(first)
            spoil(first)
            self.assertEqual(call(*given), kept, call)

    def test_changing_what_is_told_changes_nothing_that_was_handed_in(self):
        for call, *given in calls():
            before = copy.deepcopy(given)
            spoil(call(*given))
            self.assertEqual(given, before, call)

    def test_changing_what_was_handed_in_changes_nothing_that_was_told(self):
        for call, *given in calls():
            given = copy.deepcopy(given)
            told = call(*given)
            kept = copy.deepcopy(told)
            spoil(given)
            self.assertEqual(told, kept, call)

    def test_a_keepers_answers_are_its_own(self):
        keeper, plain = Keeper(AGAIN), Keeper(AGAIN)
        for n in (1, 2, 2, 1):
            names = ["j", "x"]
            keeper.change("x", n)
            plain.change("x", n)
            told = keeper.ask(names)
            self.assertEqual(told, plain.ask(["j", "x"]))
            spoil(told)
            spoil(names)

    def test_the_same_answers_in_any_turn(self):
        first = [call(*given) for call, *given in calls()]
        again = [call(*given) for call, *given in calls()]
        self.assertEqual(first, again)


class Interface(unittest.TestCase):
    def count(self, function):
        return len(inspect.signature(function).parameters)

    def test_functions(self):
        for module, functions in INTERFACE.items():
            place = importlib.import_module("holdshelf." + module)
            for name, many in functions.items():
                self.assertEqual(self.count(getattr(place, name)), many, name)

    def test_classes_have_their_methods_themselves(self):
        for module, (name, many, methods) in CLASSES.items():
            found = getattr(importlib.import_module("holdshelf." + module), name)
            self.assertEqual(self.count(found), many)
            for method, given in methods.items():
                self.assertIn(method, vars(found))
                self.assertEqual(self.count(vars(found)[method]), given + 1)

    def test_fields_are_set_on_what_is_raised(self):
        for error, field, value, call in (
            (NoBook, "fault", "shape", lambda: need_book(())),
            (NoBook, "fault", "names", lambda: Keeper(TREE).put(TREE[0])),
            (NoDeed, "number", 1, lambda: run(TREE, 9, [("make", "x"), ("make", "z")])),
            (NoText, "line", 3, lambda: Desk().say("book " + show_book(TREE) + "x")),
        ):
            with self.assertRaises(error) as caught:
                call()
            self.assertEqual(getattr(caught.exception, field), value)


if __name__ == "__main__":
    unittest.main()
