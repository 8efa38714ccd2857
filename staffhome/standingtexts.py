"""Texts of STANDINGS."""

from staffhome.errors import NoText, Wrong
from staffhome.forms import is_line, is_name
from staffhome.lines import key_of, section
from staffhome.linetexts import words_of


def standing_text(line, standing):
    """The text of a STANDING."""
    staffs = [("staff",) + key + (station,) for key, station in standing[0]]
    trains = [("train", name, place) + rest for name, place, rest in standing[1]]
    return "\n".join([" ".join(words) for words in staffs + trains])


def lacks_staff(line, staffs, one, other):
    """Whether a station and a word are ends of a section whose staff is still to be told."""
    row = section(line, one, other)
    return row is not None and row[2] != "free" and row[:2] not in staffs


def staff_fault(line, staffs, words):
    """The index of the word at fault, or of the one that lacks, in a line of a staff; None if it is right."""
    if len(words) < 2 or words[1] not in line[0]:
        return 1
    if len(words) < 3 or not lacks_staff(line, staffs, words[1], words[2]):
        return 2
    if len(words) < 4 or words[3] not in words[1:3]:
        return 3
    return 4 if len(words) > 4 else None


def train_fault(line, trains, words):
    """The index of the word at fault, or of the one that lacks, in a line of a train; None if it is right."""
    if len(words) < 2 or not is_name(words[1]) or words[1] in trains:
        return 1
    if len(words) < 3 or words[2] not in line[0]:
        return 2
    for column in range(3, len(words)):
        if section(line, words[column - 1], words[column]) is None:
            return column
    return None


def word_fault(line, staffs, trains, words):
    """The index of the word at fault, or of the one that lacks, in a line that has words; None if it is right."""
    if words[0] == "staff":
        return staff_fault(line, staffs, words)
    if words[0] == "train":
        return train_fault(line, trains, words)
    return 0


def read_rows(line, rows):
    """The STANDING that lists of words tell, one for each line of a text."""
    staffs = {}
    trains = {}
    for index, words in enumerate(rows):
        if len(words) == 0:
            continue
        column = word_fault(line, staffs, trains, words)
        if column is not None:
            raise NoText(index, column)
        if words[0] == "staff":
            staffs[key_of(words[1], words[2])] = words[3]
        else:
            trains[words[1]] = (words[1], words[2], tuple(words[3:]))
    if len(staffs) < len([row for row in line[1] if row[2] != "free"]):
        raise NoText(len(rows), 0)
    return (
        tuple([(key, staffs[key]) for key in sorted(staffs)]),
        tuple([trains[name] for name in sorted(trains)]),
    )


def read_standing(line, text):
    """The STANDING of a LINE that a text tells."""
    if not is_line(line):
        raise Wrong(0)
    if not isinstance(text, str):
        raise Wrong(1)
    return read_rows(line, words_of(text))
