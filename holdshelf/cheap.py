"""The cheapest deeds that answer wishes in a room, with marks that show that none are cheaper."""

from holdshelf.again import AgainMaze, least
from holdshelf.asked import Asked
from holdshelf.walks import cheap_walk, steps_to


def cheapest_asked(asked, room):
    """Tell ("made", cost, deeds, marks) or ("shut", stands) of what is asked and a room."""
    maze = AgainMaze(asked, room)
    ways, costs = cheap_walk(maze, lambda deed: asked.cost_of(deed))
    ends = [stand for stand in costs if maze.is_end(stand)]
    if not ends:
        return "shut", list(costs)
    end = min(ends, key=lambda stand: costs[stand])
    # A deed leads to a stand that costs at most its own cost more, so what is left of the whole cost is a mark.
    marks = {stand: max(0, costs[end] - costs[stand]) for stand in costs}
    return "made", costs[end], steps_to(ways, end), marks


def cheapest(book, wishes, room):
    """Tell ("made", cost, deeds, marks) of a room in which the wishes are answered, or ("shut", stands)."""
    return cheapest_asked(Asked(book, wishes), room)


def is_marked(asked, maze, stand, marks):
    """Tell whether a key of some marks is a stand whose mark is right beside those to which deeds lead."""
    if not maze.is_stand(stand) or marks[stand] < 0:
        return False
    if maze.is_end(stand):
        return marks[stand] == 0
    return all([
        after in marks and marks[after] >= marks[stand] - asked.cost_of(deed)
        for deed, after in maze.leads(stand)
    ])


def are_marks(book, wishes, room, cost, marks):
    """Tell whether a dict from pairs of tuples of texts to whole numbers is marks of a cost for a room."""
    asked = Asked(book, wishes)
    maze = AgainMaze(asked, room)
    if maze.first_stand() not in marks or marks[maze.first_stand()] != cost:
        return False
    return all([is_marked(asked, maze, stand, marks) for stand in marks])


def curve(book, wishes):
    """Tell the pairs (room, cost) of the least room, and of each at which the least cost falls."""
    asked = Asked(book, wishes)
    room = least(book, wishes)[0]
    # Each needed part must be made once at least, so no room is cheaper than this.
    lowest = sum([asked.costs[name] for name in asked.names])
    found = [(room, cheapest_asked(asked, room)[1])]
    while found[-1][1] > lowest:
        room += 1
        cost = cheapest_asked(asked, room)[1]
        if cost < found[-1][1]:
            found.append((room, cost))
    return found
