"""Plain readers of texts and rows, to compare with."""

import re

LINE = re.compile(
    r"[a-z]{1,8} [1-9] [1-9] "
    r"(leaf (0|[1-9][0-9]?)|less [a-z]{1,8} [a-z]{1,8}|(plus|times|most)( [a-z]{1,8}){1,4})"
)

N, V, R = r"[a-z]{1,8}", r"(0|[1-9][0-9]?)", r"[1-9][0-9]?"
ROW = re.compile(
    rf"(worth|forget) {N}|(ask|room|once)( {N})+|change {N} {V}|joined|tree|least {R}( {N})+"
)

# Signs to bend texts with: some of each kind that a text may have.
SIGNS = " \naz019AZ{`/:~!-+_.,"


def plain_text(book):
    """A book's text, put together sign by sign."""
    text = ""
    for name, recipe, size, cost in book:
        text += name + " " + str(size) + " " + str(cost) + " " + recipe[0]
        if recipe[0] == "leaf":
            text += " " + str(recipe[1])
        else:
            for need in recipe[1]:
                text += " " + need
        text += "\n"
    return text


def wrong_line(text):
    """The number of the first line that isn't so, or None."""
    if not text:
        return 0
    for number, line in enumerate(re.findall(r"[^\n]*\n|[^\n]+", text)):
        if number == 24 or not line.endswith("\n") or not LINE.fullmatch(line[:-1]):
            return number
    return None


def is_plain_row(row):
    """Whether a row that tells no book is one by its words."""
    return ROW.fullmatch(row) is not None


def bent(text):
    """The text with one sign left out, put in, or another one in its stead, at each place."""
    for place in range(len(text) + 1):
        yield text[:place] + text[place + 1:]
        yield text[:place]
        for sign in SIGNS:
            yield text[:place] + sign + text[place:]
            yield text[:place] + sign + text[place + 1:]
