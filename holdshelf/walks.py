"""Walks over stands.

A maze has `first_stand()`, at which walks begin, `is_stand(thing)`, `is_end(stand)`, and `leads(stand)`, a list of
pairs (step, stand): the steps that can be done in a stand, with the stands to which they lead.
"""


def walk(maze):
    """Tell (ways, end): from where and by which step each stand was come to, and the first end, or None.

    Where there is no end, the ways are of all stands that can be come to.
    """
    start = maze.first_stand()
    ways = {start: None}
    waiting = [start]
    at = 0
    while at < len(waiting):
        stand = waiting[at]
        if maze.is_end(stand):
            return ways, stand
        for step, after in maze.leads(stand):
            if after not in ways:
                ways[after] = (stand, step)
                waiting.append(after)
        at += 1
    return ways, None


def cheap_walk(maze, price):
    """Tell (ways, costs): how each stand is come to at the least cost, ends leading no further, and this cost.

    The price of a step is a whole number from 0 on.
    """
    start = maze.first_stand()
    ways = {start: None}
    costs = {start: 0}
    waiting = {0: [start]}
    while waiting:
        cost = min(waiting)
        stand = waiting[cost].pop()
        if not waiting[cost]:
            del waiting[cost]
        # A stand that was come to for less since then has been left for less too.
        if cost > costs[stand] or maze.is_end(stand):
            continue
        for step, after in maze.leads(stand):
            total = cost + price(step)
            if after not in costs or total < costs[after]:
                ways[after] = (stand, step)
                costs[after] = total
                waiting.setdefault(total, []).append(after)
    return ways, costs


def steps_to(ways, end):
    """Tell the steps that led from the start to a stand."""
    steps = []
    stand = end
    while ways[stand] is not None:
        stand, step = ways[stand]
        steps.append(step)
    return steps[::-1]


def are_closed(maze, stands):
    """Tell whether a list has stands alone, each once, the first one, no end, and no step leads out of it."""
    known = {stand: True for stand in stands}
    if maze.first_stand() not in known or len(known) < len(stands):
        return False
    for stand in stands:
        if not maze.is_stand(stand) or maze.is_end(stand):
            return False
        if not all([after in known for step, after in maze.leads(stand)]):
            return False
    return True


def least_from(low, high, does):
    """Tell the least number from low to high that does, where high does and with each one all above it."""
    while low < high:
        middle = (low + high) // 2
        if does(middle):
            high = middle
        else:
            low = middle + 1
    return low
