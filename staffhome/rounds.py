"""Rounds: ROWS that lead back to where they began, and can be done for ever."""

from staffhome.moves import run
from staffhome.plans import is_plan, plan
from staffhome.shut import shut_part


def is_round(train):
    """Whether a train has nothing left, or ends where it stands."""
    return len(train[2]) == 0 or train[2][-1] == train[1]


def are_rounds(standing):
    """Whether a STANDING is ROUND."""
    return all([is_round(train) for train in standing[1]])


def go_on(line, standing):
    """Whether there is a ROUND ROW of a ROUND STANDING."""
    return shut_part(line, standing) is None


def without_tickets(line):
    """The LINE in which the "ticket" sections are "staff" ones."""
    return (line[0], tuple([row[:2] + ("staff",) if row[2] == "ticket" else row for row in line[1]]))


def round_row(line, standing):
    """A ROUND ROW of a ROUND STANDING."""
    # Each section is passed equally often both ways: gone with staffs alone, all fit, and each staff comes back.
    return plan(without_tickets(line), standing)


def is_round_row(line, standing, thing):
    """Whether thing is a ROUND ROW of a ROUND STANDING."""
    return is_plan(line, standing, thing) and run(line, standing, thing)[0] == standing[0]


def waits(row):
    """The dict from the names of the movers of a ROUND ROW, done again and again, to their longest waits in MOVES."""
    turns = {}
    for index, move in enumerate(row):
        turns.setdefault(move[0], []).append(index)
    return {name: longest_wait(turns[name], len(row)) for name in sorted(turns)}


def longest_wait(indexes, many):
    """The greatest number of MOVES between two of these, in a ROW of so many that is done again and again."""
    later = indexes[1:] + [indexes[0] + many]
    return max([after - before - 1 for before, after in zip(indexes, later)])


def shares(line, standing):
    """The dict from the names of all trains to the numbers of stations in their rests."""
    return {train[0]: len(train[2]) for train in standing[1]}
