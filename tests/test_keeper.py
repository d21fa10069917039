"""Points 17 and 18: a book that is kept while it changes."""

import copy
import random
import unittest

from holdshelf.books import why_no_book
from holdshelf.errors import Needed, NoBook, NoLeaf, NoPart
from holdshelf.keeper import Keeper
from holdshelf.worths import below, worths
from tests.keepers import NO_NUMBERS, NO_PARTS, PlainKeeper
from tests.makers import NO_NAMES, SAMPLE, at_once, chain, names_of, needs, some_book, some_recipe, two_chains, word_of

# The worths are a 40, b 70, z 0, c 10, d 70, e 70, f 10.
BOOK = (
    ("a", ("leaf", 40), 1, 1),
    ("b", ("leaf", 70), 2, 3),
    ("z", ("leaf", 0), 1, 7),
    ("c", ("plus", ("a", "b")), 1, 2),
    ("d", ("most", ("a", "b")), 9, 9),
    ("e", ("most", ("c", "d", "c")), 1, 5),
    ("f", ("less", ("c", "z")), 3, 4),
)


class KeeperCase(unittest.TestCase):
    def ask(self, keeper, names, worths_told, made):
        """An asking tells these worths and makes these parts anew."""
        before = list(names)
        told = keeper.ask(names)
        self.assertEqual(names, before)
        costs = {part[0]: part[3] for part in keeper.told()}
        self.assertEqual(told, (worths_told, sum(costs[name] for name in made), made))
        self.assertEqual([type(told), *map(type, told)], [tuple, list, int, list])
        self.assertEqual(told[0], [worths(keeper.told())[name] for name in names])

    def refused(self, error, call, *given):
        before = copy.deepcopy(given)
        with self.assertRaises(error) as caught:
            call(*given)
        self.assertIs(type(caught.exception), error)
        self.assertEqual(given, before)
        return caught.exception


class Ask(KeeperCase):
    def test_the_first_asking(self):
        self.ask(Keeper(BOOK), ["e"], [70], ["a", "b", "c", "d", "e"])
        self.ask(Keeper(BOOK), ["f"], [10], ["a", "b", "z", "c", "f"])
        self.ask(Keeper(BOOK), ["z"], [0], ["z"])
        self.ask(Keeper(BOOK), names_of(BOOK), [40, 70, 0, 10, 70, 70, 10], names_of(BOOK))

    def test_the_same_asking_again(self):
        keeper = Keeper(BOOK)
        for names in (["e"], ["f"], ["a", "e"]):
            keeper.ask(names)
            self.ask(keeper, names, [worths(BOOK)[name] for name in names], [])
        self.ask(keeper, names_of(BOOK), [40, 70, 0, 10, 70, 70, 10], [])

    def test_only_what_was_not_made_is_made(self):
        keeper = Keeper(BOOK)
        self.ask(keeper, ["c"], [10], ["a", "b", "c"])
        self.ask(keeper, ["e"], [70], ["d", "e"])
        self.ask(keeper, ["a"], [40], [])
        self.ask(keeper, ["f"], [10], ["z", "f"])

    def test_the_list_of_no_names(self):
        keeper = Keeper(BOOK)
        self.ask(keeper, [], [], [])
        keeper.ask(["e"])
        keeper.change("a", 41)
        self.ask(keeper, [], [], [])
        self.ask(keeper, ["a"], [41], ["a"])

    def test_a_name_twice_and_names_in_any_order(self):
        keeper = Keeper(BOOK)
        self.ask(keeper, ["f", "a", "f", "d"], [10, 40, 10, 70], ["a", "b", "z", "c", "d", "f"])
        self.ask(keeper, ["e", "e"], [70, 70], ["e"])
        self.ask(keeper, ["e", "a", "e"], [70, 40, 70], [])
        self.ask(Keeper(BOOK), ["a", "a"], [40, 40], ["a"])

    def test_a_leaf_changed_and_back(self):
        keeper = Keeper(BOOK)
        keeper.ask(["e"])
        keeper.change("b", 90)
        self.ask(keeper, ["e"], [90], ["b", "c", "d", "e"])
        keeper.change("b", 70)
        self.ask(keeper, ["e"], [70], ["b", "c", "d", "e"])
        # Back before it is asked for: nothing was made of the other number.
        keeper.change("b", 1)
        keeper.change("b", 70)
        self.ask(keeper, ["e"], [70], [])
        # Only the leaf was asked for in between: what stands above it was made of the same.
        keeper.change("b", 1)
        self.ask(keeper, ["b"], [1], ["b"])
        keeper.change("b", 70)
        self.ask(keeper, ["e"], [70], ["b"])

    def test_a_leaf_changed_to_its_own_number(self):
        keeper = Keeper(BOOK)
        keeper.change("a", 40)
        self.ask(keeper, ["c"], [10], ["a", "b", "c"])
        keeper.change("a", 40)
        self.ask(keeper, ["c"], [10], [])

    def test_a_part_that_comes_to_the_same_worth(self):
        keeper = Keeper(BOOK)
        keeper.ask(names_of(BOOK))
        # d stays 70, but c is another one.
        keeper.change("a", 50)
        self.ask(keeper, ["e"], [70], ["a", "c", "d", "e"])
        book = (("a", ("leaf", 40), 1, 1), ("b", ("leaf", 70), 2, 3), ("d", ("most", ("a", "b")), 9, 9),
                ("e", ("plus", ("d", "b")), 1, 5), ("f", ("times", ("e",)), 1, 1))
        keeper = Keeper(book)
        self.ask(keeper, ["f"], [40], ["a", "b", "d", "e", "f"])
        keeper.change("a", 69)
        self.ask(keeper, ["f"], [40], ["a", "d"])
        keeper.change("a", 0)
        self.ask(keeper, ["e", "f"], [40, 40], ["a", "d"])
        keeper.change("a", 71)
        self.ask(keeper, ["f"], [41], ["a", "d", "e", "f"])

    def test_the_same_worth_of_other_worths(self):
        book = (("a", ("leaf", 3), 1, 1), ("b", ("leaf", 4), 1, 2), ("c", ("plus", ("a", "b")), 1, 4),
                ("d", ("plus", ("c", "c")), 1, 8))
        keeper = Keeper(book)
        keeper.ask(["d"])
        # The sum is the same, but it is made of other worths: c is made anew, d isn't.
        keeper.change("a", 4)
        keeper.change("b", 3)
        self.ask(keeper, ["d"], [14], ["a", "b", "c"])

    def test_made_anew_under_changed_needs(self):
        keeper = Keeper(BOOK)
        keeper.ask(["e", "f"])
        keeper.change("z", 9)
        self.ask(keeper, ["z"], [9], ["z"])
        # f was made of another worth of z, that is fresh by now.
        self.ask(keeper, ["f"], [1], ["f"])
        keeper.forget("c")
        self.ask(keeper, ["f"], [1], ["c"])
        keeper.change("a", 45)
        keeper.forget("b")
        self.ask(keeper, ["c"], [15], ["a", "b", "c"])
        self.ask(keeper, ["f"], [6], ["f"])

    def test_what_is_not_below_the_names_stays_as_it_was_made(self):
        keeper = Keeper(BOOK)
        keeper.ask(names_of(BOOK))
        keeper.change("b", 71)
        keeper.change("z", 1)
        self.ask(keeper, ["d"], [71], ["b", "d"])
        self.ask(keeper, ["z"], [1], ["z"])
        # c, e and f were last made of 70 and 0.
        keeper.change("b", 70)
        keeper.change("z", 0)
        self.ask(keeper, ["f"], [10], ["b", "z"])
        self.ask(keeper, ["e"], [70], ["d"])

    def test_made_is_told_in_the_books_order(self):
        keeper = Keeper((("z", ("leaf", 1), 1, 1), ("m", ("leaf", 1), 1, 1), ("b", ("plus", ("m", "z")), 1, 1)))
        self.ask(keeper, ["b", "m", "z"], [2, 1, 1], ["z", "m", "b"])

    def test_a_name_of_no_part(self):
        keeper = Keeper(BOOK)
        keeper.ask(["c"])
        keeper.change("a", 41)
        for name in NO_NAMES:
            for names in ([name], ["f", name], [name, "a"]):
                self.refused(NoPart, keeper.ask, names)
        self.ask(keeper, ["c"], [11], ["a", "c"])
        self.ask(keeper, ["f"], [11], ["z", "f"])

    def test_numbers_by_their_rest(self):
        self.ask(Keeper(SAMPLE), ["e", "f"], [0, 70], ["a", "b", "c", "d", "e", "f"])

    def test_long_books_at_once(self):
        with at_once():
            for book in (chain(24, "plus", 4), chain(24, "times", 4), two_chains("most", 4)):
                keeper = Keeper(book)
                last = names_of(book)[-1]
                self.ask(keeper, [last], [worths(book)[last]], below(book, [last]))
                keeper.change(below(book, [last])[0], 7)
                keeper.ask([last] * 100)
                self.ask(keeper, [last], [worths(keeper.told())[last]], [])


class Change(KeeperCase):
    def test_change(self):
        keeper = Keeper(BOOK)
        for n in (0, 1, 55, 99):
            self.assertIsNone(keeper.change("b", n))
            self.assertEqual(keeper.told(), (BOOK[0], ("b", ("leaf", n), 2, 3), *BOOK[2:]))
            self.ask(keeper, ["b"], [n], ["b"])

    def test_what_it_made_stays_till_it_is_asked_for(self):
        keeper = Keeper(BOOK)
        keeper.ask(["c"])
        keeper.change("a", 1)
        self.ask(keeper, ["b"], [70], [])
        keeper.change("a", 40)
        self.ask(keeper, ["c"], [10], [])

    def test_a_name_of_no_part(self):
        keeper = Keeper(BOOK)
        for name in NO_NAMES:
            if name not in names_of(BOOK):
                for n in (5, 100, None):
                    self.refused(NoPart, keeper.change, name, n)
        self.assertEqual(keeper.told(), BOOK)

    def test_no_leaf(self):
        keeper = Keeper(BOOK)
        keeper.ask(["e"])
        for name in "cdef":
            for n in (0, 5, 99, *NO_NUMBERS):
                self.refused(NoLeaf, keeper.change, name, n)
        self.assertEqual(keeper.told(), BOOK)
        self.ask(keeper, ["e"], [70], [])

    def test_no_number(self):
        keeper = Keeper(BOOK)
        keeper.ask(["e"])
        for name in "abz":
            for n in NO_NUMBERS:
                self.refused(NoLeaf, keeper.change, name, n)
        self.assertEqual(keeper.told(), BOOK)
        self.ask(keeper, ["e"], [70], [])


class Put(KeeperCase):
    def test_put(self):
        keeper = Keeper(BOOK)
        keeper.ask(["e"])
        new = ("g", ("times", ("e", "z", "a")), 9, 9)
        self.assertIsNone(keeper.put(new))
        self.assertEqual(keeper.told(), (*BOOK, new))
        self.ask(keeper, ["e"], [70], [])
        self.ask(keeper, ["g"], [0], ["z", "g"])
        keeper.put(("eightlet", ("leaf", 99), 1, 1))
        keeper.put(("h", ("less", ("eightlet", "eightlet")), 1, 1))
        self.ask(keeper, ["h"], [0], ["eightlet", "h"])

    def test_shape(self):
        keeper = Keeper(BOOK)
        keeper.ask(["e"])
        for part in NO_PARTS:
            self.assertEqual(self.refused(NoBook, keeper.put, part).fault, "shape", part)
        self.assertEqual(keeper.told(), BOOK)
        self.ask(keeper, ["e"], [70], [])

    def test_names(self):
        keeper = Keeper(BOOK)
        keeper.ask(["e"])
        for part in (*BOOK, ("a", ("leaf", 1), 1, 1), ("g", ("plus", ("g",)), 1, 1), ("g", ("most", ("a", "x")), 1, 1),
                     ("g", ("less", ("nopart", "a")), 1, 1), ("a", ("plus", ("x",)), 1, 1)):
            self.assertEqual(self.refused(NoBook, keeper.put, part).fault, "names", part)
        self.assertEqual(keeper.told(), BOOK)
        self.ask(keeper, ["e"], [70], [])

    def test_shape_goes_ahead_of_names(self):
        keeper = Keeper(BOOK)
        for part in (("a", ("leaf", 100), 1, 1), ("g", ("plus", ("x",)), 0, 1), ("a", ("plus", ("x", "")), 1, 1)):
            self.assertEqual(self.refused(NoBook, keeper.put, part).fault, "shape")

    def test_the_twenty_fifth_part(self):
        keeper = Keeper(BOOK)
        for number in range(17):
            keeper.put(("g" + word_of(number), ("leaf", number), 1, 1))
        self.assertEqual(len(keeper.told()), 24)
        before = keeper.told()
        for part in (("new", ("leaf", 1), 1, 1), ("new", ("plus", ("nopart",)), 1, 1), ("a", ("leaf", 1), 1, 1), None,
                     ()):
            self.assertEqual(self.refused(NoBook, keeper.put, part).fault, "shape")
        self.assertEqual(keeper.told(), before)
        keeper.out("e")
        self.assertIsNone(keeper.put(("new", ("leaf", 1), 1, 1)))
        self.assertEqual(len(keeper.told()), 24)


class Out(KeeperCase):
    def test_out(self):
        keeper = Keeper(BOOK)
        keeper.ask(["e"])
        self.assertIsNone(keeper.out("e"))
        self.assertEqual(keeper.told(), (*BOOK[:5], BOOK[6]))
        self.refused(NoPart, keeper.ask, ["e"])
        self.ask(keeper, ["d"], [70], [])
        # Now d isn't needed any more.
        keeper.out("d")
        self.assertEqual(keeper.told(), (*BOOK[:4], BOOK[6]))

    def test_put_in_again_has_made_nothing(self):
        keeper = Keeper(BOOK)
        keeper.ask(["e"])
        keeper.out("e")
        keeper.put(BOOK[5])
        self.assertEqual(names_of(keeper.told()), ["a", "b", "z", "c", "d", "f", "e"])
        self.ask(keeper, ["e"], [70], ["e"])
        keeper.out("e")
        keeper.put(("e", ("leaf", 70), 1, 1))
        self.ask(keeper, ["e"], [70], ["e"])
        self.ask(keeper, ["e"], [70], [])

    def test_a_leaf_put_in_again_has_made_nothing(self):
        keeper = Keeper((*BOOK, ("g", ("leaf", 5), 1, 6)))
        keeper.ask(["g"])
        keeper.out("g")
        keeper.put(("g", ("leaf", 5), 1, 6))
        self.ask(keeper, ["g"], [5], ["g"])

    def test_needed(self):
        keeper = Keeper(BOOK)
        keeper.ask(["e"])
        for name in ("a", "b", "z", "c", "d"):
            self.refused(Needed, keeper.out, name)
        self.assertEqual(keeper.told(), BOOK)
        self.ask(keeper, ["e"], [70], [])

    def test_the_only_part(self):
        keeper = Keeper(BOOK[:1])
        keeper.ask(["a"])
        self.refused(Needed, keeper.out, "a")
        self.assertEqual(keeper.told(), BOOK[:1])
        self.ask(keeper, ["a"], [40], [])
        keeper.put(("new", ("leaf", 1), 1, 1))
        keeper.out("a")
        self.refused(Needed, keeper.out, "new")
        self.assertEqual(names_of(keeper.told()), ["new"])

    def test_a_name_of_no_part(self):
        for keeper in (Keeper(BOOK), Keeper(BOOK[:1])):
            before = keeper.told()
            for name in NO_NAMES:
                self.refused(NoPart, keeper.out, name)
            self.assertEqual(keeper.told(), before)


class Forget(KeeperCase):
    def test_forget(self):
        keeper = Keeper(BOOK)
        keeper.ask(["e", "f"])
        for name, made in (("a", ["a"]), ("c", ["c"]), ("e", ["e"])):
            self.assertIsNone(keeper.forget(name))
            # It comes to the same worth, so what stands above it is fresh.
            self.ask(keeper, ["e", "f"], [70, 10], made)
        keeper.forget("c")
        keeper.forget("c")
        keeper.forget("b")
        self.ask(keeper, ["a", "d"], [40, 70], ["b"])
        self.ask(keeper, ["f"], [10], ["c"])
        self.assertEqual(keeper.told(), BOOK)

    def test_forget_what_was_never_made(self):
        keeper = Keeper(BOOK)
        for name in names_of(BOOK):
            self.assertIsNone(keeper.forget(name))
        self.ask(keeper, ["c"], [10], ["a", "b", "c"])
        keeper.forget("e")
        self.ask(keeper, ["c"], [10], [])

    def test_a_name_of_no_part(self):
        keeper = Keeper(BOOK)
        keeper.ask(["e"])
        for name in NO_NAMES:
            self.refused(NoPart, keeper.forget, name)
        self.ask(keeper, ["e"], [70], [])


class Apart(KeeperCase):
    def test_two_keepers_of_one_book(self):
        one, other = Keeper(BOOK), Keeper(BOOK)
        one.ask(["e"])
        one.change("a", 1)
        one.put(("g", ("leaf", 1), 1, 1))
        one.out("f")
        self.assertEqual(other.told(), BOOK)
        self.ask(other, ["e"], [70], ["a", "b", "c", "d", "e"])
        other.forget("c")
        self.ask(one, ["c"], [71], ["a", "c"])

    def test_the_book_that_was_handed_in_stays(self):
        book = copy.deepcopy(BOOK)
        keeper = Keeper(book)
        keeper.change("a", 1)
        keeper.put(("g", ("leaf", 1), 1, 1))
        keeper.out("f")
        keeper.ask(["e"])
        self.assertEqual(book, BOOK)

    def test_the_book_told_earlier_stays(self):
        keeper = Keeper(BOOK)
        told = keeper.told()
        keeper.change("a", 1)
        keeper.out("f")
        self.assertEqual(told, BOOK)
        self.assertIsNone(why_no_book(keeper.told()))

    def test_what_is_told_is_the_askers_own(self):
        keeper = Keeper(BOOK)
        names = ["e"]
        told = keeper.ask(names)
        names.append("f")
        told[0].append(1)
        told[2].clear()
        self.ask(keeper, ["e"], [70], [])
        self.ask(keeper, ["f"], [10], ["z", "f"])


class Chance(KeeperCase):
    def change(self, chance, keepers):
        leaves = [part[0] for part in keepers[1].book if part[1][0] == "leaf"]
        name, n = chance.choice(leaves), chance.choice([0, 1, 2, chance.randint(0, 99)])
        for keeper in keepers:
            keeper.change(name, n)

    def put(self, chance, keepers):
        names = names_of(keepers[1].book)
        free = [word_of(number) for number in range(40) if word_of(number) not in names]
        recipe = some_recipe(chance, names) or ("leaf", chance.randint(0, 2))
        part = (chance.choice(free), recipe, chance.randint(1, 9), chance.randint(1, 9))
        if len(names) == 24:
            self.assertEqual(self.refused(NoBook, keepers[0].put, part).fault, "shape")
            return
        for keeper in keepers:
            keeper.put(part)

    def out(self, chance, keepers):
        book = keepers[1].book
        name = chance.choice(names_of(book))
        if len(book) == 1 or any(name in needs(book, high) for high in names_of(book)):
            self.refused(Needed, keepers[0].out, name)
            return
        for keeper in keepers:
            keeper.out(name)

    def forget(self, chance, keepers):
        name = chance.choice(names_of(keepers[1].book))
        for keeper in keepers:
            keeper.forget(name)

    def test_deed_by_deed(self):
        for seed in range(40):
            chance, book = random.Random(seed), some_book(seed, 10)
            keepers = [Keeper(book), PlainKeeper(book)]
            for turn in range(40):
                deed = chance.choice([self.change, self.change, self.change, self.put, self.out, self.forget])
                deed(chance, keepers)
                self.assertEqual(keepers[0].told(), keepers[1].told())
                self.assertIsNone(why_no_book(keepers[0].told()))
                if chance.random() < 0.7:
                    names = [chance.choice(names_of(keepers[1].book)) for place in range(chance.randint(0, 3))]
                    worths_told, cost, made = keepers[1].ask(names)
                    self.ask(keepers[0], names, worths_told, made)


if __name__ == "__main__":
    unittest.main()
