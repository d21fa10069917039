"""Wishes answered with parts made as often as one likes."""

from holdshelf.asked import Asked, in_order
from holdshelf.once import once
from holdshelf.walks import are_closed, least_from, steps_to, walk


class AgainMaze:
    """The stands of what is on the shelf and which wishes were made, in some room; a step is a deed."""

    def __init__(self, asked, room):
        self.asked = asked
        self.room = room

    def first_stand(self):
        """Tell the stand in which nothing was made."""
        return (), ()

    def is_stand(self, pair):
        """Tell whether a pair of tuples of texts is of needed parts and of wishes, in the book's order."""
        held, told = pair
        return held == in_order(held, self.asked.names) and told == in_order(told, self.asked.wishes)

    def is_end(self, stand):
        """Tell whether all wishes were made."""
        return stand[1] == self.asked.wishes

    def leads(self, stand):
        """Tell the deeds that can be done, with the stands behind them."""
        held, told = stand
        free = self.room - self.asked.load_of(held)
        found = []
        for name in self.asked.names:
            if name in held:
                found.append((("drop", name), (tuple([other for other in held if other != name]), told)))
            elif self.asked.sizes[name] <= free and all([need in held for need in self.asked.needs[name]]):
                found.append((("make", name), self.after_make(held, told, name)))
        return found

    def after_make(self, held, told, name):
        """Tell the stand behind the make of a part."""
        return in_order((*held, name), self.asked.names), in_order((*told, name), self.asked.wishes)


def again_asked(asked, room):
    """Tell ("does", deeds) or ("shut", stands) of what is asked and a room."""
    ways, end = walk(AgainMaze(asked, room))
    if end is None:
        return "shut", list(ways)
    return "does", steps_to(ways, end)


def least(book, wishes):
    """Tell the least room in which the wishes are answered, and deeds."""
    asked = Asked(book, wishes)
    # Parts may be made again, but need not: so the room of each once does here too.
    enough = once(book, wishes)[0]
    room = least_from(asked.least_load(), enough, lambda tried: again_asked(asked, tried)[0] == "does")
    return room, again_asked(asked, room)[1]


def within(book, wishes, room):
    """Tell ("does", deeds) of a room in which the wishes are answered, or ("shut", stands)."""
    return again_asked(Asked(book, wishes), room)


def are_shut(book, wishes, room, stands):
    """Tell whether a list of pairs of tuples of texts is shut for a room."""
    return are_closed(AgainMaze(Asked(book, wishes), room), stands)
