"""Slow, plain answers about costs, to compare with."""

import heapq
import itertools

from tests.makers import part_of
from tests.shelves import again_stands, deeds_on, load_of, needed


def cost_of(book, names):
    return sum(part_of(book, name)[3] for name in names)


def plain_cheapest(book, wishes, room):
    """The least cost over all stands of shelf and told wishes, or None where there is no way."""
    names, count = needed(book, wishes), itertools.count()
    waiting, left = [(0, next(count), frozenset(), frozenset())], set()
    while waiting:
        cost, turn, held, told = heapq.heappop(waiting)
        if told == frozenset(wishes):
            return cost
        if (held, told) in left:
            continue
        left.add((held, told))
        for word, name, after in deeds_on(book, room, names, held):
            makes = word == "make"
            then = told | {name} if makes and name in wishes else told
            if (after, then) not in left:
                heapq.heappush(waiting, (cost + makes * cost_of(book, [name]), next(count), after, then))
    return None


def again_steps(book, wishes, room, stand):
    """All stands to which a deed leads, each with the deed's cost, as points 13 and 15 say it."""
    names, found = needed(book, wishes), []
    for word, name, after in deeds_on(book, room, names, frozenset(stand[0])):
        makes = word == "make"
        told = tuple(wish for wish in names if wish in stand[1] or (makes and wish == name and wish in wishes))
        found.append((cost_of(book, [name]) if makes else 0, (tuple(low for low in names if low in after), told)))
    return found


def plain_marks(book, wishes, room, cost, marks):
    """Whether a dict is marks of a cost, as point 15 says it."""
    if ((), ()) not in marks or marks[((), ())] != cost:
        return False
    if any(mark < 0 for mark in marks.values()) or not set(marks) <= set(again_stands(book, wishes)):
        return False
    for stand, mark in marks.items():
        if set(stand[1]) == set(wishes):
            if mark != 0:
                return False
            continue
        for price, after in again_steps(book, wishes, room, stand):
            if after not in marks or marks[after] < mark - price:
                return False
    return True


def costs_left(book, wishes, room):
    """The least cost from each stand, come to or not, to one with all wishes told, in a room that does."""
    steps = {stand: again_steps(book, wishes, room, stand) for stand in again_stands(book, wishes)}
    left = {stand: 0 if len(stand[1]) == len(wishes) else None for stand in steps}
    changed = True
    while changed:
        changed = False
        for stand in steps:
            for price, after in steps[stand]:
                if left[after] is not None and (left[stand] is None or left[after] + price < left[stand]):
                    left[stand] = left[after] + price
                    changed = True
    return left


def all_load(book, wishes):
    return load_of(book, needed(book, wishes))


def all_cost(book, wishes):
    return cost_of(book, needed(book, wishes))
