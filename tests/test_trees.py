"""Point 10: trees, their least room, and deeds that need no more."""

import copy
import random
import unittest

from holdshelf.again import least
from holdshelf.books import why_no_book
from holdshelf.errors import NoTree, ShelfError
from holdshelf.once import once
from holdshelf.shelf import answers, run
from holdshelf.trees import is_tree, least_room
from tests.makers import SAMPLE, at_once, chain, names_of, needs, some_book, word_of
from tests.shelves import load_of, orders, plain_once, plain_once_by_sets, room_of_order
from tests.shelves import some_hills, some_lines, some_tree

SOME = (some_tree, some_lines, some_hills)


def leaf(name, size=1):
    return name, ("leaf", 1), size, 1


def plus(name, needed, size=1):
    return name, ("plus", tuple(needed)), size, 1


def line(sizes):
    """A tree in which each part but the first needs the one ahead."""
    book = [leaf(word_of(0), sizes[0])]
    for number, size in enumerate(sizes[1:]):
        book.append(plus(word_of(number + 1), [word_of(number)], size))
    return tuple(book)


def turns(low=1, high=9, end=5, many=2):
    """A tree with alike rows below its last part: a high leaf, a low part of it, a middling one of that."""
    book, tops = [], []
    for letter in "abcd"[:many]:
        book += [leaf(letter, high), plus(letter * 2, [letter], low), plus(letter * 3, [letter * 2], end)]
        tops.append(letter * 3)
    return (*book, plus("z", tops))


def plain_is_tree(book):
    """Point 10 word by word."""
    for name in names_of(book)[:-1]:
        needing = [part for part in book if part[1][0] != "leaf" and name in part[1][1]]
        if len(needing) != 1 or needing[0][1][1].count(name) != 1:
            return False
    return not [part for part in book if part[1][0] != "leaf" and book[-1][0] in part[1][1]]


class TreeCase(unittest.TestCase):
    def told(self, book):
        """The least room, the told deeds being checked."""
        before = copy.deepcopy(book)
        self.assertIs(is_tree(book), True)
        told = least_room(book)
        self.assertEqual(book, before)
        self.assertIs(type(told), tuple)
        room, deeds = told
        self.assertEqual((type(room), type(deeds)), (int, list))
        self.assertTrue(all(type(deed) is tuple and len(deed) == 2 for deed in deeds))
        makes = [name for word, name in deeds if word == "make"]
        self.assertEqual(sorted(makes), sorted(names_of(book)))
        self.assertEqual(run(book, room, deeds)[2], room)
        self.assertIs(answers(book, room, deeds, [book[-1][0]]), True)
        self.assertIs(answers(book, room - 1, deeds, [book[-1][0]]), False)
        return room

    def no_tree(self, book):
        self.assertIsNone(why_no_book(book))
        self.assertIs(is_tree(book), False, book)
        with self.assertRaises(NoTree) as caught:
            least_room(book)
        self.assertIsInstance(caught.exception, ShelfError)


class IsTree(TreeCase):
    def test_trees(self):
        for book in ((leaf("a"),), (leaf("a"), plus("b", "a")), (leaf("b"), leaf("a"), plus("c", "ab")),
                     (leaf("a"), leaf("b"), plus("c", "a"), ("d", ("less", ("b", "c")), 1, 1)), line([1] * 24), turns(),
                     (leaf("a"), leaf("b"), leaf("c"), leaf("d"), plus("e", "dcba"))):
            self.assertIs(is_tree(book), True)

    def test_a_part_that_none_needs(self):
        self.no_tree((leaf("a"), leaf("b")))
        self.no_tree((leaf("a"), leaf("b"), plus("c", "a")))
        self.no_tree((leaf("a"), leaf("b"), plus("c", "b")))
        self.no_tree((leaf("a"), plus("b", "a"), leaf("c")))
        self.no_tree(tuple(leaf(word_of(number)) for number in range(24)))

    def test_a_last_part_that_is_not_the_only_one_without_need(self):
        self.no_tree((leaf("a"), plus("b", "a"), leaf("c"), plus("d", "c")))
        self.no_tree((leaf("a"), leaf("b"), plus("c", "ab"), leaf("d")))

    def test_a_part_that_two_need(self):
        self.no_tree((leaf("a"), plus("b", "a"), plus("c", "ab")))
        self.no_tree((leaf("a"), plus("b", "a"), plus("c", "a"), plus("d", "bc")))
        self.no_tree((leaf("a"), plus("b", "a"), plus("c", "a")))
        self.no_tree((leaf("a"), leaf("x"), plus("b", "ax"), plus("c", "b"), plus("d", "cx")))

    def test_a_name_twice_in_a_recipe(self):
        self.no_tree((leaf("a"), plus("b", "aa")))
        self.no_tree((leaf("a"), ("b", ("less", ("a", "a")), 1, 1)))
        self.no_tree((leaf("a"), leaf("b"), plus("c", "aba")))
        self.no_tree((leaf("a"), leaf("b"), plus("c", "abbb"), plus("d", "c")))
        self.no_tree(chain(24, "plus", 4))
        self.no_tree(chain(24, "less", 2))

    def test_books_by_chance(self):
        chance = random.Random(10)
        many = {True: 0, False: 0}
        for seed in range(400):
            book = some_book(seed, most_parts=4)
            if seed % 4 == 0:
                book = some_tree(chance, 1 + seed % 24)
            told = plain_is_tree(book)
            many[told] += 1
            self.assertIs(is_tree(book), told, book)
            if not told:
                self.no_tree(book)
        self.assertTrue(min(many.values()) > 50, many)
        self.no_tree(SAMPLE)


class LeastRoom(TreeCase):
    def test_one_part(self):
        self.assertEqual(least_room((leaf("a", 7),))[0], 7)
        self.assertEqual(self.told((leaf("a", 1),)), 1)

    def test_one_need_behind_the_other(self):
        self.assertEqual(self.told((leaf("a", 4), plus("b", "a", 5))), 9)
        self.assertEqual(self.told(line([1, 9, 2, 3, 8])), 11)
        self.assertEqual(self.told(line([9, 1, 9, 1, 9])), 10)

    def test_the_greater_need_first(self):
        low_first = (leaf("a", 2), leaf("b", 9), plus("c", "b", 1), plus("d", "ac", 1))
        high_first = (leaf("b", 9), plus("c", "b", 1), leaf("a", 2), plus("d", "ca", 1))
        self.assertEqual(self.told(low_first), 10)
        self.assertEqual(self.told(high_first), 10)

    def test_needs_begun_in_turns(self):
        book = turns()
        self.assertEqual(self.told(book), 11)
        in_one_go = [name for letter in "ab" for name in (letter, letter * 2, letter * 3)] + ["z"]
        self.assertEqual(room_of_order(book, in_one_go), 15)
        self.assertEqual(self.told(turns(many=3)), 16)
        self.assertEqual(self.told(turns(high=6, end=4)), plain_once(turns(high=6, end=4), ["z"]))

    def test_needs_begun_in_turns_below_others(self):
        book = (*turns(), leaf("h", 9), plus("hh", ["h"], 2), plus("hhh", ["hh"], 6), plus("top", ["z", "hhh"], 3))
        self.assertEqual(self.told(book), plain_once_by_sets(book, ["top"]))

    def test_all_orders_of_small_trees(self):
        chance = random.Random(11)
        in_turns = 0
        for turn in range(480):
            book = SOME[turn % 3](chance, 5 + turn // 3 % 4) if turn % 4 else some_tree(chance, 1 + turn % 8, 2)
            last = book[-1][0]
            room = self.told(book)
            self.assertEqual(room, min(room_of_order(book, order) for order in orders(book, names_of(book))))
            self.assertEqual(room, once(book, [last])[0])
            if len(book) < 8:
                self.assertEqual(room, least(book, [last])[0])
            in_turns += room < in_one_go_room(book)
        self.assertTrue(in_turns > 5, in_turns)

    def test_trees_of_middling_size(self):
        chance = random.Random(12)
        in_turns = 0
        for turn in range(180):
            book = SOME[turn % 3](chance, 9 + turn // 3 % 6)
            room = self.told(book)
            self.assertEqual(room, plain_once_by_sets(book, [book[-1][0]]))
            in_turns += room < in_one_go_room(book)
        self.assertTrue(in_turns > 20, in_turns)


def in_one_go_room(book):
    """The least room where each need is begun only behind the end of another one."""
    best = {}
    for name, recipe, size, cost in book:
        below = needs(book, name)
        rooms = [load_of(book, below) + size]
        # Of needs made each in one go that one goes first that frees most behind it.
        below = sorted(below, key=lambda need: load_of(book, [need]) - best[need])
        for place, need in enumerate(below):
            rooms.append(load_of(book, below[:place]) + best[need])
        best[name] = max(rooms)
    return best[book[-1][0]]


class AtOnce(TreeCase):
    def test_a_long_line(self):
        with at_once():
            self.assertEqual(self.told(line([9] * 24)), 18)
            self.assertEqual(self.told(line([1 + number % 9 for number in range(24)])), 17)

    def test_broad_trees(self):
        tops = [word_of(20 + number) for number in range(3)]
        leaves = [leaf(word_of(number), 2) for number in range(12)]
        broad = [plus(top, [word_of(4 * place + number) for number in range(4)], 3) for place, top in enumerate(tops)]
        with at_once():
            self.assertEqual(self.told((*leaves, *broad, plus("last", tops, 1))), 2 * 3 + 4 * 2 + 3)

    def test_a_part_of_four_needs_below_each_other(self):
        book = [leaf("s")]
        for number in range(5):
            book += [leaf(letter * (number + 2)) for letter in "abc"]
            book.append(plus("s" * (number + 2), [letter * (number + 2) for letter in "abc"] + ["s" * (number + 1)]))
        with at_once():
            self.assertEqual(len(book), 21)
            self.assertEqual(self.told(tuple(book)), 5)

    def test_twenty_four_parts_by_chance(self):
        chance = random.Random(13)
        with at_once():
            for turn in range(100):
                book = SOME[turn % 3](chance, 24)
                self.assertEqual(len(book), 24)
                self.assertLessEqual(self.told(book), in_one_go_room(book))

    def test_books_somewhat_beyond_the_limits(self):
        with at_once():
            self.assertEqual(self.told(line([12, 30] * 20)), 42)
        six = (*[leaf(letter, 10) for letter in "abcdef"], plus("z", "abcdef", 40))
        self.assertEqual(self.told(six), 100)


class Apart(unittest.TestCase):
    def test_what_is_told_is_the_askers_own(self):
        book = turns()
        room, deeds = least_room(book)
        kept = list(deeds)
        deeds.clear()
        again = least_room(book)
        self.assertEqual(again[0], room)
        self.assertIs(answers(book, room, again[1], ["z"]), True)
        self.assertIs(answers(book, room, kept, ["z"]), True)


if __name__ == "__main__":
    unittest.main()
