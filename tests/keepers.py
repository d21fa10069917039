"""A plain keeper to compare with, and things that are no parts and no numbers."""

from tests.makers import SAMPLE, is_below, names_of, needs, part_of, plain_worth

# Things of the kinds that are "anything", none of them a number from 0 to 99.
NO_NUMBERS = [
    -1, 100, 101, 10 ** 40, -10 ** 40, True, False, None, "", "5", "a", " 5", (), (5,), [], [5], {}, {"n": 5}, {5: 5},
    ("leaf", 5), ((((((((((((),),),),),),),),),),),), [0] * 300,
]

# None of these is a part, whatever book it is put into.
NO_PARTS = [
    None, True, False, 0, 7, "", "z", "part", (), [], {}, ((),), SAMPLE, list(SAMPLE),
    ("z",), ("z", ("leaf", 1)), ("z", ("leaf", 1), 1), ("z", ("leaf", 1), 1, 1, 1), ["z", ("leaf", 1), 1, 1],
    {"z": 1}, ("", ("leaf", 1), 1, 1), ("Z", ("leaf", 1), 1, 1), ("ninelette", ("leaf", 1), 1, 1),
    ("z1", ("leaf", 1), 1, 1), (7, ("leaf", 1), 1, 1), (None, ("leaf", 1), 1, 1), (("z",), ("leaf", 1), 1, 1),
    ("z", ["leaf", 1], 1, 1), ("z", ("leaf",), 1, 1), ("z", ("leaf", 1, 1), 1, 1), ("z", ("leaf", -1), 1, 1),
    ("z", ("leaf", 100), 1, 1), ("z", ("leaf", True), 1, 1), ("z", ("leaf", "1"), 1, 1), ("z", ("leaf", ()), 1, 1),
    ("z", ("leaf", ("a",)), 1, 1), ("z", ("plus", ()), 1, 1), ("z", ("plus", ("a",) * 5), 1, 1),
    ("z", ("plus", "a"), 1, 1), ("z", ("plus", ["a"]), 1, 1), ("z", ("plus", 1), 1, 1), ("z", ("plus", (1,)), 1, 1),
    ("z", ("less", ("a",)), 1, 1), ("z", ("less", ("a", "a", "a")), 1, 1), ("z", ("sum", ("a",)), 1, 1),
    ("z", ([], ("a",)), 1, 1), ("z", ({}, ("a",)), 1, 1), ("z", (("plus",), ("a",)), 1, 1), ("z", None, 1, 1),
    ("z", ("leaf", 1), 0, 1), ("z", ("leaf", 1), 10, 1), ("z", ("leaf", 1), True, 1), ("z", ("leaf", 1), None, 1),
    ("z", ("leaf", 1), 1, 0), ("z", ("leaf", 1), 1, 10), ("z", ("leaf", 1), 1, True), ("z", ("leaf", 1), 1, "1"),
    ("z", ("leaf", 1), 1, [1]), ("z", ("leaf", 1), {}, 1),
]


class PlainKeeper:
    """What point 17 and 18 say, word by word."""

    def __init__(self, book):
        self.book = list(book)
        self.worth_made = {}
        self.made_of = {}

    def ask(self, names):
        made = []
        for name in names_of(self.book):
            if not any(is_below(self.book, name, high) for high in names):
                continue
            word, given = part_of(self.book, name)[1]
            now = [plain_worth(self.book, need) for need in needs(self.book, name)]
            if name in self.worth_made:
                if word == "leaf" and given == self.worth_made[name]:
                    continue
                if word != "leaf" and now == self.made_of[name]:
                    continue
            self.worth_made[name], self.made_of[name] = plain_worth(self.book, name), now
            made.append(name)
        cost = sum(part_of(self.book, name)[3] for name in made)
        return [plain_worth(self.book, name) for name in names], cost, made

    def change(self, name, n):
        place = names_of(self.book).index(name)
        part = self.book[place]
        self.book[place] = (name, ("leaf", n), part[2], part[3])

    def put(self, part):
        self.book.append(part)

    def out(self, name):
        self.book.remove(part_of(self.book, name))
        self.forget(name)

    def forget(self, name):
        self.worth_made.pop(name, None)
        self.made_of.pop(name, None)

    def told(self):
        return tuple(self.book)
