"""STANDINGS kept under changes, which can be taken back and done once more."""

from staffhome.errors import Nothing, Wrong
from staffhome.fits import overfull, staff_counts
from staffhome.forms import are_moves, is_key, is_line, is_name, is_rest, is_standing, is_station, is_walk
from staffhome.held import held
from staffhome.moves import run
from staffhome.openruns import run_from
from staffhome.standings import staff_of, stops_left, with_staff, without_train
from staffhome.verdicts import is_safe, reason
from staffhome.whatif import joined, last_stop, longer


class Kept:
    """A LINE, a STANDING of it, and the end of its OPEN RUN.

    now is the STANDING, end the STANDING at the end of the OPEN RUN, in which staffs are not moved, passed the dict
    from the KEYS of the sections that are passed in it; steps is how many passes were gone for the last change. past
    and future are the lists of the states that undo and redo go back to, the next one last.
    """

    def __init__(self, line, standing):
        if not is_line(line):
            raise Wrong(0)
        if not is_standing(line, standing):
            raise Wrong(1)
        self.railway = line
        self.past = []
        self.future = []
        self.lead(standing, standing, {})

    def lead(self, standing, begin, passed):
        """Keeps a STANDING, the OPEN RUN of which goes on from this begin, with these sections passed."""
        staffs = {key: station for key, station in standing[0]}
        firsts, trains = run_from(staffs, passed, begin[1], self.railway[0])
        self.now = standing
        self.end = (standing[0], tuple(trains))
        self.passed = firsts
        self.steps = stops_left(begin) - stops_left(self.end)

    def state(self):
        """What undo and redo bring back."""
        return (self.now, self.end, self.passed)

    def change(self, standing, begin, passed):
        """Leads to a STANDING as a change that can be taken back."""
        self.past.append(self.state())
        self.future = []
        self.lead(standing, begin, passed)

    def change_anew(self, standing):
        """Leads to a STANDING as a change behind which the OPEN RUN is another one."""
        self.change(standing, standing, {})

    def go_back(self, state, steps):
        """Brings back a state as it was kept."""
        self.now, self.end, self.passed = state
        self.steps = steps

    def do(self, row):
        """Does MOVES one behind the other."""
        if not are_moves(row):
            raise Wrong(0)
        self.change_anew(run(self.railway, self.now, row))

    def put(self, name, place, rest):
        """Puts in a train."""
        if not is_name(name):
            raise Wrong(0)
        if not is_station(self.railway, place):
            raise Wrong(1)
        if not is_rest(self.railway, place, rest):
            raise Wrong(2)
        behind = joined(self.railway, self.now, name, place, rest)
        self.change(behind, joined(self.railway, self.end, name, place, rest), self.passed)

    def take(self, name):
        """Takes a train out."""
        if not is_name(name):
            raise Wrong(0)
        self.change_anew(without_train(self.now, name))

    def longer(self, name, more):
        """Puts stations behind the rest of a train."""
        if not is_name(name):
            raise Wrong(0)
        # That there is no such train, which last_stop tells, comes ahead of what its last stop is.
        if not is_walk(self.railway, more) or not is_rest(self.railway, last_stop(self.now, name), more):
            raise Wrong(1)
        behind = longer(self.railway, self.now, name, more)
        self.change(behind, longer(self.railway, self.end, name, more), self.passed)

    def lay(self, key, station):
        """Lays the staff of a section at one of its ends by hand."""
        if not is_key(self.railway, key) or staff_of(self.now, key) is None:
            raise Wrong(0)
        if station not in key:
            raise Wrong(1)
        self.change_anew(with_staff(self.now, key, station))

    def undo(self):
        """Takes back the last change that is not taken back."""
        if len(self.past) == 0:
            raise Nothing()
        self.future.append(self.state())
        self.go_back(self.past.pop(), 0)

    def redo(self):
        """Does the change once more that was taken back last."""
        if len(self.future) == 0:
            raise Nothing()
        self.past.append(self.state())
        self.go_back(self.future.pop(), 0)

    def line(self):
        """The LINE."""
        return self.railway

    def standing(self):
        """The STANDING."""
        return self.now

    def opened(self):
        """The tuple of the sections that are passed in the OPEN RUN, and of the trains at its end."""
        return (tuple(sorted(self.passed)), self.end[1])

    def counts(self):
        """The dict from the KEYS of the "staff" sections to how many passes are LEFT from both ends."""
        return staff_counts(self.railway, self.now)

    def overfull(self):
        """The LOT of the "staff" sections that do not FIT."""
        return overfull(self.railway, self.now)

    def held(self):
        """The LOT within which all HELD LOTS lie; it is HELD itself, or ()."""
        return held(self.railway, self.now)

    def reason(self):
        """Why the STANDING is not SAFE, None if it is."""
        return reason(self.railway, self.now)

    def is_safe(self):
        """Whether the STANDING is SAFE."""
        return is_safe(self.railway, self.now)

    def gone(self):
        """How many passes of OPEN RUNS were gone for the last change."""
        return self.steps

    def twin(self):
        """An independent Kept in the same state."""
        other = Kept(self.railway, self.now)
        other.past = list(self.past)
        other.future = list(self.future)
        other.go_back(self.state(), self.steps)
        return other

    def __eq__(self, other):
        return isinstance(other, Kept) and self.railway == other.railway and self.now == other.now
