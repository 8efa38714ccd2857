"""Days of a house and its drivers, tick by tick, with letters that are lost."""

from staffhome.drivers import ask_of, came, driver_at_first, heard
from staffhome.house import House
from staffhome.standings import stops_left


class Day:
    """A House, the drivers of all trains, and what they have done up to a tick.

    passes is how many rows the JOURNAL gets, rows the list of those that it has; ends is the dict from the names of the
    trains that go to the ticks at which they come; asks is how many asks there were.
    """

    def __init__(self, line, standing, times, order, lost):
        self.house = House(line, standing)
        self.drivers = {name: driver_at_first(name) for name in order}
        self.passes = stops_left(standing)
        self.times = times
        self.order = order
        self.lost = {pair: True for pair in lost}
        self.tick = 0
        self.ends = {}
        self.asks = 0
        self.rows = []

    def come(self):
        """The list of the names of the trains that come in this tick, in the order."""
        names = [name for name in self.order if self.ends.get(name) == self.tick]
        for name in names:
            self.drivers[name] = came(self.drivers[name])
            self.ends.pop(name)
        return names

    def is_over(self):
        """Whether nobody goes, and all passes are gone."""
        return len(self.ends) == 0 and len(self.rows) == self.passes

    def ask(self, name):
        """The driver of a train that stands asks, and goes if it hears that it may."""
        index = self.asks
        self.asks += 1
        if (index, "ask") in self.lost:
            return
        asker, number = ask_of(self.drivers[name])
        answer = self.house.ask(asker, number)
        if (index, "answer") not in self.lost:
            self.hear(name, answer)

    def hear(self, name, answer):
        """The driver of a train that stands hears an answer, and goes if it may."""
        self.drivers[name] = heard(self.drivers[name], answer)
        going = self.drivers[name][2]
        if going is not None:
            number, how = going
            self.ends[name] = self.tick + self.times[number % len(self.times)]
            self.rows.append((self.tick, name, how, self.ends[name]))

    def ask_all(self, names):
        """All asks of this tick, those of the trains that came in it first; whether they would be answered so again."""
        first, written = self.asks, len(self.house.lines)
        for name in names + list(self.order):
            if name not in self.ends:
                self.ask(name)
        lost = [pair for pair in self.lost if first <= pair[0] < self.asks]
        return len(lost) == 0 and written == len(self.house.lines)

    def go_on(self, settled):
        """Goes on to the next tick, or, if all asks would be answered as they were, to the next one with a train."""
        later = min(self.ends.values()) if settled else self.tick + 1
        # Those who stand ask in the ticks between, too; who may not go, and knows it, does not mind a letter lost.
        self.asks += (later - self.tick - 1) * (len(self.order) - len(self.ends))
        self.tick = later


def play(line, standing, times, order, lost):
    """The JOURNAL of a day of a house and its drivers."""
    day = Day(line, standing, times, order, lost)
    names = day.come()
    while not day.is_over():
        settled = day.ask_all(names)
        day.go_on(settled)
        names = day.come()
    return tuple(day.rows)


def latest_end(line, standing, times, lost):
    """A bound for the last end of a day, whatever the order is."""
    return stops_left(standing) * max(times) + 2 * len(lost)
