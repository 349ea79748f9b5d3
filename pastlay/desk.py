"""A desk: a house that is asked and answers in rows of words."""

from pastlay.errors import NoRow
from pastlay.house import House
from pastlay.seeing import giver
from pastlay.shapes import is_colour
from pastlay.writing import is_number

# What stands behind each row's first word: a name by any word (a), a number (n), a colour (c), stretches of a wish up
# to the end, three words each (w).
FORMS = {
    "build": "a", "paint": "annc", "strip": "an", "drop": "a", "mark": "a", "back": "a", "lay": "aaw", "withdraw": "aa",
    "look": "ann", "wish": "aw", "grant": "a", "book": "a", "at": "an", "who": "an", "looks": "a", "open": "a",
    "walls": "", "spent": "a",
}


def fits(word, kind):
    """Whether a word is of a kind; s is what a wish may tell in the place of a colour."""
    if kind == "n":
        return is_number(word)
    if kind == "c":
        return is_colour(word)
    if kind == "s":
        return word == "-" or is_colour(word)
    return True


def meant(word, kind):
    """What is meant by a word of a kind."""
    if kind == "n":
        return int(word)
    return None if kind == "s" and word == "-" else word


def read_row(row):
    """A row's first word, and the list of what is handed in by the others; NoRow where it is none by its words."""
    # Parting by blanks tells a word of no signs where two stand side by side, or one at an end.
    words = row.split(" ") if isinstance(row, str) else []
    if "" in words or not words or words[0] not in FORMS:
        raise NoRow("no row begins so")
    kinds = FORMS[words[0]]
    if kinds.endswith("w"):
        kinds = kinds[:-1] + "nns" * max(1, (len(words) - len(kinds)) // 3)
    if len(words) - 1 != len(kinds):
        raise NoRow("the row has more words, or fewer")
    for word, kind in zip(words[1:], kinds):
        if not fits(word, kind):
            raise NoRow("a word of the row is none that may stand there")
    return words[0], [meant(word, kind) for word, kind in zip(words[1:], kinds)]


def wish_of(some):
    """The wish of which each stretch is told by three things."""
    return tuple([(some[at], some[at + 1], some[at + 2]) for at in range(0, len(some), 3)])


def ones(wishes):
    """Prices by which each colour of some wishes costs 1."""
    return {colour: 1 for wish in wishes for _, _, colour in wish if colour is not None}


def words_or_none(words):
    """Words parted by blanks, "-" of none."""
    return " ".join(words) if words else "-"


def do_row(house, word, given):
    """Do what a row says that is answered by ok alone."""
    name = given[0]
    if word == "build":
        house.build(name)
    elif word == "paint":
        house.paint(name, (given[1], given[2], given[3]))
    elif word == "strip":
        house.strip(name, given[1])
    elif word == "drop":
        house.drop(name)
    elif word == "mark":
        house.mark(name)
    elif word == "back":
        house.back(name)
    elif word == "lay":
        house.lay(name, given[1], wish_of(given[2:]))
    else:
        house.withdraw(name, given[1])
    return "ok"


def number_row(house, word, given):
    """The number that a row is answered by."""
    name = given[0]
    if word == "look":
        return str(house.look(name, given[1], given[2]))
    if word == "wish":
        wish = wish_of(given[1:])
        return str(house.wish(name, wish, ones([wish]))[0])
    if word == "grant":
        return str(house.grant(name, ones([wish for _, wish in house.open_now(name)]))[0])
    return str(house.spent_now(name))


def place_row(house, word, given):
    """What is seen at a place, or by which stroke."""
    book = house.book_now(given[0])
    number = giver(book, given[1])
    if number is None:
        return "-"
    return str(number) if word == "who" else book.strokes()[number][2]


def told_row(house, word, given):
    """What a wall is told by, or which walls there are."""
    if word == "walls":
        return words_or_none(house.walls_now())
    name = given[0]
    if word == "book":
        return str(house.book_now(name)) or "-"
    if word == "looks":
        return words_or_none([f"{moment}:{low}:{high}" for moment, low, high in house.looks_now(name)])
    return words_or_none([hand for hand, _ in house.open_now(name)])


class Desk:
    """A house that is asked and answers in rows of words."""

    def __init__(self):
        self._house = House()

    def say(self, row):
        """Do what a row says, and answer it; NoRow where it is none, else as the house refuses."""
        word, given = read_row(row)
        if word in ("look", "wish", "grant", "spent"):
            return number_row(self._house, word, given)
        if word in ("at", "who"):
            return place_row(self._house, word, given)
        if word in ("book", "looks", "open", "walls"):
            return told_row(self._house, word, given)
        return do_row(self._house, word, given)
