"""A house: walls by names, each with a book, looks and open wishes, and deeds done on them."""

from pastlay.books import Book
from pastlay.errors import BadDeed, BadName, BadWish, Full, NoHand, NoMark, NoName, NoPlace, NoWish
from pastlay.errors import PastError, Twice, Witnessed
from pastlay.layings import check_prices, laid, led_over
from pastlay.least import least, runs
from pastlay.looks import MOST_LOOKS, shown
from pastlay.shapes import is_colour, is_stretch
from pastlay.wishes import is_wish

MOST_STROKES = 60


def is_name(thing):
    """Whether thing is a name: a text of one to eight small letters, as a colour is."""
    return is_colour(thing)


class Site:
    """A wall as it stands. It is never changed: a deed makes a new one, so marks and copies may share it."""

    def __init__(self, book, looks, hands, spent):
        self.book = book
        self.looks = looks
        self.hands = hands
        self.spent = spent


class State:
    """The walls by their names, and the walls as they stood at each mark."""

    def __init__(self, sites, marks):
        self.sites = sites
        self.marks = marks

    def kept(self):
        """A state like this one, which goes on by itself."""
        return State(dict(self.sites), dict(self.marks))

    def site(self, name):
        """The wall with this name; NoName where there is none."""
        if not is_name(name) or name not in self.sites:
            raise NoName("no wall has this name")
        return self.sites[name]


def build_deed(state, name):
    """Build a wall without strokes."""
    if not is_name(name):
        raise BadName("a name is a text of one to eight small letters")
    if name in state.sites:
        raise Twice("a wall has this name")
    state.sites[name] = Site(Book(), (), (), 0)


def paint_deed(state, name, stroke):
    """Paint a stroke behind all."""
    site = state.site(name)
    book = site.book.copy()
    book.put(len(book), stroke)
    if len(book) > MOST_STROKES:
        raise Full("the wall has sixty strokes")
    state.sites[name] = Site(book, site.looks, site.hands, site.spent)


def look_deed(state, name, low, high):
    """See the places from low to high now; tell the look's number."""
    site = state.site(name)
    if not is_stretch((low, high)):
        raise NoPlace("places are whole numbers from 0 to a thousand millions, low at most high")
    if len(site.looks) >= MOST_LOOKS:
        raise Full("the wall has twenty looks")
    looks = site.looks + ((len(site.book), low, high),)
    state.sites[name] = Site(site.book, looks, site.hands, site.spent)
    return len(site.looks)


def fulfil(state, name, wish, prices):
    """Put in a laying of least price for a wish, whose open ones fall; tell its price and it."""
    site = state.site(name)
    if len(site.book) + len(runs(site.book, wish, looks=site.looks)) > MOST_STROKES:
        raise Full("there are more than sixty strokes and runs")
    price, laying = least(site.book, wish, prices, looks=site.looks)
    looks = tuple([led_over(site.book, look, laying) for look in site.looks])
    state.sites[name] = Site(laid(site.book, laying), looks, (), site.spent + price)
    return price, laying


def wish_deed(state, name, wish, prices):
    """Wish places of a wall to show colours."""
    check_prices(prices)
    return fulfil(state, name, wish, prices)


def strip_deed(state, name, number):
    """Take a stroke out that no look shows."""
    site = state.site(name)
    book = site.book.copy()
    # What is no stroke's number is refused here, ahead of what a look shows.
    book.take(number)
    for at, look in enumerate(site.looks):
        if number in [shows for _, _, shows in shown(site.book, look)]:
            raise Witnessed(at)
    looks = tuple([(moment - 1 if number < moment else moment, low, high) for moment, low, high in site.looks])
    state.sites[name] = Site(book, looks, site.hands, site.spent)


def drop_deed(state, name):
    """Let a wall go."""
    state.site(name)
    del state.sites[name]


def together(hands):
    """The open wishes of all hands as one, rising."""
    parts = [part for _, wish in hands for part in wish]
    return tuple(sorted(parts, key=lambda part: part[0]))


def lay_deed(state, name, hand, wish):
    """Lay a wish by a hand, to stay open."""
    site = state.site(name)
    if not is_name(hand):
        raise BadName("a hand's name is a text of one to eight small letters")
    if hand in [other for other, _ in site.hands]:
        raise Twice("the hand has a wish open on this wall")
    # Whether some wishes have no place in common and are few enough is just whether they are one, put together.
    if not is_wish(wish) or not is_wish(together(site.hands + ((hand, wish),))):
        raise BadWish("this is no wish, or none that can stand beside the open ones")
    own_wish = tuple([(low, high, colour) for low, high, colour in wish])
    state.sites[name] = Site(site.book, site.looks, site.hands + ((hand, own_wish),), site.spent)


def withdraw_deed(state, name, hand):
    """Take an open wish back."""
    site = state.site(name)
    if not is_name(hand) or hand not in [other for other, _ in site.hands]:
        raise NoHand("no wish of this hand is open on this wall")
    hands = tuple([entry for entry in site.hands if entry[0] != hand])
    state.sites[name] = Site(site.book, site.looks, hands, site.spent)


def grant_deed(state, name, prices):
    """Wish all open wishes of a wall at once."""
    check_prices(prices)
    site = state.site(name)
    if not site.hands:
        raise NoWish("no wish is open on this wall")
    return fulfil(state, name, together(site.hands), prices)


def mark_deed(state, name):
    """Keep the walls as they stand by a mark."""
    if not is_name(name):
        raise BadName("a mark's name is a text of one to eight small letters")
    if name in state.marks:
        raise Twice("a mark has this name")
    state.marks[name] = dict(state.sites)


def back_deed(state, name):
    """Let the walls stand as they did at a mark."""
    if not is_name(name) or name not in state.marks:
        raise NoMark("no mark has this name")
    state.sites = dict(state.marks[name])


# Each deed, and how many things it takes.
DEEDS = {
    "build": build_deed, "paint": paint_deed, "look": look_deed, "wish": wish_deed, "strip": strip_deed,
    "drop": drop_deed, "lay": lay_deed, "withdraw": withdraw_deed, "grant": grant_deed, "mark": mark_deed,
    "back": back_deed,
}
SIZES = {
    "build": 1, "paint": 2, "look": 3, "wish": 3, "strip": 2, "drop": 1, "lay": 3, "withdraw": 2, "grant": 2, "mark": 1,
    "back": 1,
}


def check_deed(deed):
    """BadDeed where what is handed in as a deed is no tuple of a deed's name and as many things as it takes."""
    if not isinstance(deed, tuple) or not deed or not isinstance(deed[0], str):
        raise BadDeed("a deed is a tuple that begins with its name")
    if deed[0] not in SIZES or len(deed) - 1 != SIZES[deed[0]]:
        raise BadDeed("a deed is told by its name and as many things as it takes")


class House:
    """Walls by names, and all that is done on them."""

    def __init__(self):
        self._state = State({}, {})
        self._log = []

    def _do(self, word, given):
        """Do a deed, and write it down."""
        deed = DEEDS[word]
        self._log.append(word)
        try:
            told = deed(self._state, *given)
        except PastError:
            self._log.append("refused")
            raise
        self._log.append("done")
        return told

    def build(self, name):
        """Build a wall without strokes."""
        self._do("build", (name,))

    def paint(self, name, stroke):
        """Paint a stroke behind all."""
        self._do("paint", (name, stroke))

    def look(self, name, low, high):
        """See the places from low to high now, and tell the look's number."""
        return self._do("look", (name, low, high))

    def wish(self, name, wish, prices):
        """Put in a laying of least price for a wish, and tell its price and it."""
        return self._do("wish", (name, wish, prices))

    def strip(self, name, number):
        """Take a stroke out that no look shows."""
        self._do("strip", (name, number))

    def drop(self, name):
        """Let a wall go."""
        self._do("drop", (name,))

    def lay(self, name, hand, wish):
        """Lay a wish by a hand, to stay open."""
        self._do("lay", (name, hand, wish))

    def withdraw(self, name, hand):
        """Take an open wish back."""
        self._do("withdraw", (name, hand))

    def grant(self, name, prices):
        """Put in a laying of least price for all open wishes at once, and tell its price and it."""
        return self._do("grant", (name, prices))

    def mark(self, name):
        """Keep the walls as they stand by a mark."""
        self._do("mark", (name,))

    def back(self, name):
        """Let the walls stand as they did at a mark."""
        self._do("back", (name,))

    def _do_all(self, deeds):
        """Do deeds one behind the other; tell what each told."""
        if not isinstance(deeds, list):
            raise BadDeed("deeds are a list")
        told = []
        for deed in deeds:
            # Deeds further on are looked at only when those ahead are done.
            check_deed(deed)
            told.append(self._do(deed[0], deed[1:]))
        return told

    def batch(self, deeds):
        """Do deeds one behind the other, or none where one is refused; tell what each told."""
        kept = self._state.kept()
        self._log.append("batch")
        try:
            told = self._do_all(deeds)
        except PastError:
            self._state = kept
            self._log.append("refused")
            raise
        self._log.append("done")
        return told

    def walls_now(self):
        """The names of the walls, rising."""
        return sorted(list(self._state.sites))

    def book_now(self, name):
        """The book of a wall."""
        return self._state.site(name).book.copy()

    def looks_now(self, name):
        """The looks of a wall, as they were taken, with their moments by the strokes of now."""
        return tuple([(moment, low, high) for moment, low, high in self._state.site(name).looks])

    def open_now(self, name):
        """The open wishes of a wall, by their hands: a rising tuple of (hand, wish)."""
        entries = sorted(list(self._state.site(name).hands), key=lambda entry: entry[0])
        return tuple([(hand, tuple([(low, high, colour) for low, high, colour in wish])) for hand, wish in entries])

    def spent_now(self, name):
        """What a wall's wishes and grantings cost since it was built."""
        return self._state.site(name).spent

    def log_now(self):
        """What was done and refused."""
        return list(self._log)

    def copy(self):
        """A house like this one, which goes on by itself, with an empty log."""
        other = House()
        other._state = self._state.kept()
        return other
