"""Logs of a house: reopened, wherever they were cut."""

from staffhome.errors import NoText, Wrong
from staffhome.forms import is_line, is_standing
from staffhome.house import House
from staffhome.standings import names_of


def whole_lines(text):
    """The tuple of the lines of a text that end with a line feed, without these."""
    return tuple(text.split("\n")[:-1])


def is_next(house, words):
    """Whether these are the words of a line that the house may write next."""
    if len(words) < 2 or words[1] not in names_of(house.standing()):
        return False
    return words == house.next_words(words[1])


def column_of(words, rows):
    """The index of the first word that none of some rows has behind the words ahead of it.

    If some row begins with all these words, it is the number of them.
    """
    column = 0
    while column < len(words) and any([row[:column + 1] == words[:column + 1] for row in rows]):
        column += 1
    return column


def reopened(line, standing, text):
    """The House that has written the whole lines of a text."""
    if not is_line(line):
        raise Wrong(0)
    if not is_standing(line, standing):
        raise Wrong(1)
    if not isinstance(text, str):
        raise Wrong(2)
    house = House(line, standing)
    for index, row in enumerate(whole_lines(text)):
        words = tuple(row.split(" "))
        if not is_next(house, words):
            rows = [house.next_words(name) for name in names_of(standing)]
            raise NoText(index, column_of(words, rows))
        house.write(words)
    return house
