"""The least room of trees, by hills and valleys.

A row of makes is kept as its hills: tuples (hill, valley, names), where making the names leads over the hill, the
greatest load, down to the valley, the load that stays. Each hill is lower than the one before it and each valley
higher, so a row is best left at a valley, and never elsewhere, to go on with another one.
"""

from holdshelf.books import names_in
from holdshelf.errors import NoTree


def is_tree(book):
    """Tell whether each part but the last is needed once, and the last one never."""
    times = {part[0]: 0 for part in book}
    for part in book:
        for need in names_in(part[1]):
            times[need] += 1
    return [times[part[0]] for part in book] == [1] * (len(book) - 1) + [0]


def climbs(hills):
    """Tell the hills of a row as climbs (rise, gain, names), each over the valley before it."""
    found = []
    ground = 0
    for hill, valley, names in hills:
        found.append((hill - ground, valley - ground, names))
        ground = valley
    return found


def add_hill(hills, hill, valley, names):
    """Put makes behind a row, joined to hills ahead that are no higher or valleys that are no lower."""
    while hills and (hills[-1][0] <= hill or hills[-1][1] >= valley):
        last_hill, last_valley, last_names = hills.pop()
        hill = max(hill, last_hill)
        names = last_names + names
    hills.append((hill, valley, names))


def row_of(steps):
    """Tell the hills of climbs that are done one behind the other."""
    hills = []
    ground = 0
    for rise, gain, names in steps:
        add_hill(hills, ground + rise, ground + gain, names)
        ground += gain
    return hills


def best_row(part, sizes, rows):
    """Tell the hills of the best row that makes a part, by those of its needs."""
    name, recipe, size, cost = part
    needs = names_in(recipe)
    steps = [step for need in needs for step in climbs(rows[need])]
    # The deepest way down from hill to valley goes first; within a row these are falling already.
    steps = sorted(steps, key=lambda step: step[1] - step[0])
    freed = sum([sizes[need] for need in needs])
    return row_of([*steps, (size, size - freed, [name])])


def least_room(book):
    """Tell the least room that makes the last part of a tree, and deeds, or refuse with NoTree."""
    if not is_tree(book):
        raise NoTree("the book is no tree")
    sizes = {name: size for name, recipe, size, cost in book}
    needs = {name: names_in(recipe) for name, recipe, size, cost in book}
    rows = {}
    for part in book:
        rows[part[0]] = best_row(part, sizes, rows)
    hills = rows[book[-1][0]]
    deeds = []
    for made in [name for hill, valley, names in hills for name in names]:
        deeds.append(("make", made))
        deeds.extend([("drop", need) for need in needs[made]])
    return max([hill for hill, valley, names in hills]), deeds
