"""Wishes answered with each needed part made once."""

from holdshelf.asked import Asked, in_order
from holdshelf.walks import are_closed, least_from, steps_to, walk


class OnceMaze:
    """The stands of what was made, each part once, in some room; a step is the name of what is made."""

    def __init__(self, asked, room):
        self.asked = asked
        self.room = room

    def first_stand(self):
        """Tell the stand in which nothing was made."""
        return ()

    def is_stand(self, made):
        """Tell whether a tuple of texts is of needed parts in the book's order, with all that they need."""
        if made != in_order(made, self.asked.names):
            return False
        return all([need in made for name in made for need in self.asked.needs[name]])

    def is_end(self, made):
        """Tell whether all needed parts were made."""
        return made == self.asked.names

    def leads(self, made):
        """Tell the parts that can come next, with the stands behind them."""
        unmade = [name for name in self.asked.names if name not in made]
        wanted = still_wanted(self.asked, unmade)
        free = self.room - self.asked.load_of([name for name in made if name in wanted])
        return [
            (name, in_order((*made, name), self.asked.names))
            for name in unmade
            if self.asked.sizes[name] <= free and all([need in made for need in self.asked.needs[name]])
        ]


def still_wanted(asked, unmade):
    """Tell, as the keys of a dict, what parts that are to come need."""
    return {need: True for name in unmade for need in asked.needs[name]}


def with_drops(asked, order):
    """Tell the deeds that make parts in an order, each dropped as soon as none to come needs it."""
    deeds = []
    held = []
    for place, made in enumerate(order):
        deeds.append(("make", made))
        held.append(made)
        wanted = still_wanted(asked, order[place + 1:])
        deeds.extend([("drop", name) for name in held if name not in wanted])
        held = [name for name in held if name in wanted]
    return deeds


def once_asked(asked, room):
    """Tell ("does", deeds) or ("stuck", stands) of what is asked and a room."""
    ways, end = walk(OnceMaze(asked, room))
    if end is None:
        return "stuck", list(ways)
    return "does", with_drops(asked, steps_to(ways, end))


def once(book, wishes):
    """Tell the least room in which the wishes are answered with no part made twice, and deeds."""
    asked = Asked(book, wishes)
    # In the room of all needed parts nothing need ever be dropped.
    enough = asked.load_of(asked.names)
    room = least_from(asked.least_load(), enough, lambda tried: once_asked(asked, tried)[0] == "does")
    return room, once_asked(asked, room)[1]


def once_in(book, wishes, room):
    """Tell ("does", deeds) of a room that does with no part made twice, or ("stuck", stands)."""
    return once_asked(Asked(book, wishes), room)


def are_stuck(book, wishes, room, stands):
    """Tell whether a list of tuples of texts is stuck for a room."""
    return are_closed(OnceMaze(Asked(book, wishes), room), stands)
