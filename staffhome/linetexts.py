"""Texts of LINES."""

from staffhome.errors import NoText, Wrong
from staffhome.forms import SORTS, is_name
from staffhome.lines import made_line


def words_of(text):
    """The list of the lists of words of all lines of a text, remarks left out."""
    return [[word for word in row.split("#")[0].split(" ") if word != ""] for row in text.split("\n")]


def line_text(line):
    """The text of a LINE."""
    if len(line[1]) == 0:
        return line[0][0]
    return "\n".join([" ".join(row) for row in line[1]])


def section_fault(words):
    """The index of the word at fault, or of the one that lacks, in a line that has words; None if it is right."""
    if not is_name(words[0]):
        return 0
    if len(words) == 1:
        return None
    if not is_name(words[1]):
        return 1
    if len(words) == 2 or words[2] not in SORTS:
        return 2
    return 3 if len(words) > 3 else None


def read_line(text):
    """The LINE that a text shows."""
    if not isinstance(text, str):
        raise Wrong(0)
    stations = {}
    sections = []
    for index, words in enumerate(words_of(text)):
        if len(words) == 0:
            continue
        column = section_fault(words)
        if column is not None:
            raise NoText(index, column)
        for station in words[:2]:
            stations[station] = True
        if len(words) == 3:
            sections.append(tuple(words))
    return made_line(list(stations), sections)
