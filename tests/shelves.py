"""Books, wishes and trees for the tests of the shelf, and slow, plain answers to compare with."""

import itertools
import random

from tests.makers import is_below, names_of, needs, part_of, word_of

# For g and j a room of 3 does where x is made twice, for a and for s; with each part made once it takes 4.
AGAIN = (
    ("x", ("leaf", 1), 1, 4),
    ("a", ("plus", ("x",)), 1, 3),
    ("p", ("leaf", 1), 1, 9),
    ("s", ("plus", ("x",)), 1, 8),
    ("q", ("leaf", 1), 1, 9),
    ("g", ("plus", ("a", "a", "q")), 1, 4),
    ("j", ("plus", ("q", "s", "s")), 1, 5),
)


def size_of(book, name):
    return part_of(book, name)[2]


def load_of(book, names):
    return sum(size_of(book, name) for name in names)


def needed(book, wishes):
    return [low for low in names_of(book) if any(is_below(book, low, wish) for wish in wishes)]


def some_shelf_book(chance, parts, most_size=9):
    """A book by chance of so many parts in which most parts need others."""
    names = [word_of(number) for number in range(26)]
    chance.shuffle(names)
    book = []
    for number in range(parts):
        recipe = ("leaf", chance.randint(0, 99))
        if number and chance.random() < 0.75:
            word = chance.choice(["plus", "times", "most", "less"])
            many = 2 if word == "less" else chance.randint(1, 4)
            recipe = (word, tuple(chance.choice(names[:number]) for place in range(many)))
        book.append((names[number], recipe, chance.randint(1, most_size), chance.randint(1, 9)))
    return tuple(book)


def some_wishes(chance, book):
    """One to three wishes by chance, mostly with the last part, below which there is most."""
    names = names_of(book)
    some = set(chance.sample(names, chance.randint(1, min(3, len(names)))))
    if len(some) < 3 and chance.random() < 0.7:
        some.add(names[-1])
    return sorted(some)


def books_and_wishes(seed, most_parts, many):
    """Books of one part to most_parts, each with wishes, the same for the same seed."""
    chance = random.Random(seed)
    found = []
    for turn in range(many):
        book = some_shelf_book(chance, 1 + turn % most_parts, chance.choice([1, 3, 9]))
        found.append((book, some_wishes(chance, book)))
    return found


def some_tree(chance, parts, most_size=9):
    """A tree by chance of so many parts, none needing more than four."""
    names = [word_of(number) for number in range(26)]
    chance.shuffle(names)
    free, book = [], []
    for number in range(parts):
        left = parts - number - 1
        # What is free now and what is to come must find room in the recipes that are to come.
        least = max(0, len(free) - 3 * left) if left else len(free)
        many = least if chance.random() < 0.4 else chance.randint(least, min(4, len(free)))
        taken = [free.pop(chance.randrange(len(free))) for turn in range(many)]
        recipe = (chance.choice(["plus", "times", "most"]), tuple(taken)) if taken else ("leaf", number)
        book.append((names[number], recipe, chance.randint(1, most_size), chance.randint(1, 9)))
        free.append(names[number])
    return tuple(book)


def some_lines(chance, parts):
    """A tree by chance: lines side by side, of high and low parts in turns, all needed by the last one."""
    many = chance.randint(2, 4)
    ends, book = [None] * many, []
    for number in range(parts - 1):
        place = number if number < many else chance.randrange(many)
        recipe = ("plus", (ends[place],)) if ends[place] else ("leaf", 1)
        size = chance.choice([[7, 8, 9], [1, 2, 3], [4, 5, 6]][number // many % 3])
        book.append((word_of(number), recipe, size, 1))
        ends[place] = word_of(number)
    return (*book, (word_of(parts - 1), ("most", tuple(end for end in ends if end)), 1, 1))


def some_hills(chance, parts):
    """A tree by chance in which parts mostly need one other, high and low ones in turns."""
    book, free = [], []
    for number in range(parts):
        left = parts - number - 1
        least = max(0, len(free) - 3 * left) if left else len(free)
        wished = chance.choice([0, 1, 1, 1, 1, 2])
        taken = [free.pop(chance.randrange(len(free))) for turn in range(max(least, min(wished, len(free))))]
        recipe = ("times", tuple(taken)) if taken else ("leaf", 1)
        high = not taken or max(size_of(book, name) for name in taken) < 4
        book.append((word_of(number), recipe, chance.choice([7, 8, 9] if high else [1, 2, 3, 5]), 1))
        free.append(word_of(number))
    return tuple(book)


def plain_run(book, room, deeds):
    """What is told of a row of deeds, or the number of the first one that can't be done."""
    shelf, cost, most = [], 0, 0
    for number, (word, name) in enumerate(deeds):
        if name not in names_of(book):
            return number
        if word == "make":
            lacks = [need for need in needs(book, name) if need not in shelf]
            if name in shelf or lacks or load_of(book, shelf + [name]) > room:
                return number
            shelf.append(name)
            cost += part_of(book, name)[3]
            most = max(most, load_of(book, shelf))
        elif word == "drop" and name in shelf:
            shelf.remove(name)
        else:
            return number
    return sorted(shelf, key=names_of(book).index), cost, most


def orders(book, names, made=()):
    """All orders in which these parts can be made, each behind all that it needs."""
    if len(made) == len(names):
        yield made
    for name in names:
        if name not in made and all(need in made for need in needs(book, name)):
            yield from orders(book, names, (*made, name))


def room_of_order(book, order):
    """The greatest load where each part is dropped as soon as none to come needs it."""
    most, held = 0, []
    for place, name in enumerate(order):
        held.append(name)
        most = max(most, load_of(book, held))
        wanted = [need for later in order[place + 1:] for need in needs(book, later)]
        held = [name for name in held if name in wanted]
    return most


def plain_once(book, wishes):
    """The least room with each part made once, all orders being tried."""
    return min(room_of_order(book, order) for order in orders(book, needed(book, wishes)))


def plain_once_by_sets(book, wishes):
    """The same, by what was made in any order; for books that have too many orders."""
    names = needed(book, wishes)
    best = {frozenset(): 0}
    for turn in names:
        after = {}
        for made, room in best.items():
            unmade = [name for name in names if name not in made]
            kept = load_of(book, [low for low in made if any(low in needs(book, name) for name in unmade)])
            for name in unmade:
                if made.issuperset(needs(book, name)):
                    more = max(room, kept + size_of(book, name))
                    after[made | {name}] = min(more, after.get(made | {name}, more))
        best = after
    return best[frozenset(names)]


def deeds_on(book, room, names, held):
    """All deeds of these parts that can be done, each with what is on the shelf then."""
    found = []
    for name in names:
        if name in held:
            found.append(("drop", name, held - {name}))
        elif held.issuperset(needs(book, name)) and load_of(book, [*held, name]) <= room:
            found.append(("make", name, held | {name}))
    return found


def can_be_answered(book, wishes, room):
    """Whether the wishes can be answered, over all stands of the shelf and told wishes."""
    names, begin = needed(book, wishes), (frozenset(), frozenset())
    seen, waiting = {begin}, [begin]
    while waiting:
        held, told = waiting.pop()
        if told == frozenset(wishes):
            return True
        for word, name, after in deeds_on(book, room, names, held):
            stand = (after, told | {name} if word == "make" and name in wishes else told)
            if stand not in seen:
                seen.add(stand)
                waiting.append(stand)
    return False


def plain_least(book, wishes):
    """The least room with parts made again, each room being tried."""
    return next(room for room in itertools.count(1) if can_be_answered(book, wishes, room))


def rows_of(names):
    """All tuples of some of the names, in their order."""
    return [row for many in range(len(names) + 1) for row in itertools.combinations(names, many)]


def once_stands(book, wishes):
    """All stands of point 11."""
    return [row for row in rows_of(needed(book, wishes)) if all(set(needs(book, name)) <= set(row) for name in row)]


def once_leads(book, wishes, room, stand):
    """All stands to which a part that can come next leads, as point 11 says it."""
    names, found = needed(book, wishes), []
    for name in names:
        if name in stand or not set(needs(book, name)) <= set(stand):
            continue
        kept = [low for low in stand if any(low in needs(book, high) for high in names if high not in stand)]
        if load_of(book, kept) + size_of(book, name) <= room:
            found.append(tuple(low for low in names if low in stand or low == name))
    return found


def plain_stuck(book, wishes, room, stands):
    """Whether stands are stuck, as point 12 says it."""
    if () not in stands or tuple(needed(book, wishes)) in stands or len(set(stands)) != len(stands):
        return False
    if not set(stands) <= set(once_stands(book, wishes)):
        return False
    return all(after in stands for stand in stands for after in once_leads(book, wishes, room, stand))


def again_stands(book, wishes):
    """All stands of point 13."""
    told = [name for name in names_of(book) if name in wishes]
    return list(itertools.product(rows_of(needed(book, wishes)), rows_of(told)))


def again_leads(book, wishes, room, stand):
    """All stands to which a deed leads, as point 13 says it."""
    names, found = needed(book, wishes), []
    for word, name, after in deeds_on(book, room, names, frozenset(stand[0])):
        told = [wish for wish in names if wish in stand[1] or (wish in wishes and (word, name) == ("make", wish))]
        found.append((tuple(low for low in names if low in after), tuple(told)))
    return found


def plain_shut(book, wishes, room, stands):
    """Whether stands are shut, as point 14 says it."""
    if ((), ()) not in stands or len(set(stands)) != len(stands):
        return False
    if any(set(told) == set(wishes) for held, told in stands):
        return False
    if not set(stands) <= set(again_stands(book, wishes)):
        return False
    return all(after in stands for stand in stands for after in again_leads(book, wishes, room, stand))


def hopeless(all_stands, leads, is_end):
    """All stands from which no way leads to an end, come to or not."""
    hope = {stand for stand in all_stands if is_end(stand)}
    grown = True
    while grown:
        more = {stand for stand in all_stands if stand not in hope and any(after in hope for after in leads(stand))}
        hope |= more
        grown = bool(more)
    return [stand for stand in all_stands if stand not in hope]
