"""Books read from their writing."""

from pastlay.books import Book
from pastlay.errors import NoText
from pastlay.shapes import is_colour, is_place


def is_number(word):
    """Whether a word is a number as it is written: one to ten figures, no 0 ahead but of 0 itself."""
    # Longer words go out first, for Python refuses to make numbers of some thousand figures.
    if not 1 <= len(word) <= 10:
        return False
    # isdigit takes figures of other alphabets, too, so each sign is compared.
    if not all(["0" <= sign <= "9" for sign in word]):
        return False
    return word == "0" or word[0] != "0"


def is_written_place(word):
    """Whether a word is a place as it is written."""
    return is_number(word) and is_place(int(word))


def goes_on(words, at):
    """Whether some book's writing begins with the words up to this one, where one does with those ahead of it."""
    word = words[at]
    part = at % 4
    if part == 0:
        return is_written_place(word)
    if part == 1:
        return is_written_place(word) and int(words[at - 1]) <= int(word)
    if part == 2:
        return is_colour(word)
    return word == "/"


def read(text):
    """The book that is written so; NoText where none is."""
    if not isinstance(text, str):
        raise NoText(0)
    # Parting an empty text would tell one word of no signs, but it has no word.
    words = text.split(" ") if text else []
    for at in range(len(words)):
        if not goes_on(words, at):
            raise NoText(at)
    # Each word fits its part by now, so a writing is broken off only where its last stroke lacks words.
    if words and len(words) % 4 != 3:
        raise NoText(len(words))
    return Book([(int(words[at]), int(words[at + 1]), words[at + 2]) for at in range(0, len(words), 4)])
