"""Whether any value is what a definition of the document says."""

# A MOVE is done in one of the ways that sections are sorted by, so these are its hows, too.
SORTS = ("free", "staff", "ticket")
LONGEST_NAME = 12


def is_integer(thing):
    """Whether thing is an integer; a truth is none."""
    return isinstance(thing, int) and not isinstance(thing, bool)


def is_name(thing):
    """Whether thing is a NAME."""
    if not isinstance(thing, str) or not 1 <= len(thing) <= LONGEST_NAME:
        return False
    return all(["a" <= letter <= "z" for letter in thing])


def is_tuple_of(thing, many):
    """Whether thing is a tuple of so many items."""
    return isinstance(thing, tuple) and len(thing) == many


def ascends(things):
    """Whether each of things, which can be compared, is less than the next one."""
    return all([one < other for one, other in zip(things, things[1:])])


def links_of(stations, sections):
    """The dict from each station to the list of those to which it has a section."""
    links = {station: [] for station in stations}
    for row in sections:
        links[row[0]].append(row[1])
        links[row[1]].append(row[0])
    return links


def steps_to(links, end):
    """The dict from all stations that end can be reached from to the next one on the way, None for end."""
    steps = {end: None}
    waiting = [end]
    while len(waiting) > 0:
        here = waiting.pop()
        for there in links[here]:
            if there not in steps:
                steps[there] = here
                waiting.append(there)
    return steps


def is_line(thing):
    """Whether thing is a LINE."""
    if not is_tuple_of(thing, 2):
        return False
    stations, sections = thing
    if not are_stations(stations) or not are_sections(stations, sections):
        return False
    # With one section fewer than stations there is a ring just if some station cannot be reached.
    return len(steps_to(links_of(stations, sections), stations[0])) == len(stations)


def are_stations(thing):
    """Whether thing may be the stations of a LINE."""
    if not isinstance(thing, tuple) or len(thing) == 0:
        return False
    return all([is_name(station) for station in thing]) and ascends(thing)


def are_sections(stations, thing):
    """Whether thing may be the sections of a LINE of stations, rings and lines in two not being looked for."""
    if not is_tuple_of(thing, len(stations) - 1):
        return False
    return all([is_section(stations, row) for row in thing]) and ascends([row[:2] for row in thing])


def is_section(stations, thing):
    """Whether thing is a tuple (one, other, sort) between two of stations."""
    if not is_tuple_of(thing, 3) or thing[0] not in stations or thing[1] not in stations:
        return False
    return thing[0] < thing[1] and thing[2] in SORTS


def is_station(line, thing):
    """Whether thing is a station of the LINE."""
    return thing in line[0]


def is_key(line, thing):
    """Whether thing is the KEY of a section of the LINE."""
    return thing in [row[:2] for row in line[1]]


def is_lot(line, thing):
    """Whether thing is a LOT of the LINE."""
    return isinstance(thing, tuple) and all([is_key(line, key) for key in thing]) and ascends(thing)


def is_part(line, thing):
    """Whether thing is a PART of the LINE."""
    if not isinstance(thing, tuple) or len(thing) == 0:
        return False
    if not all([is_station(line, station) for station in thing]) or not ascends(thing):
        return False
    within = [row for row in line[1] if row[0] in thing and row[1] in thing]
    # As there is no ring, stations hang together just if the sections between them are one fewer.
    return len(within) == len(thing) - 1


def are_neighbours(line, one, other):
    """Whether there is a section between two values, in whatever order."""
    return is_key(line, (one, other)) or is_key(line, (other, one))


def is_rest(line, place, thing):
    """Whether thing may be the rest of a train at a place."""
    if not isinstance(thing, tuple):
        return False
    return all([are_neighbours(line, one, other) for one, other in zip((place,) + thing, thing)])


def is_walk(line, thing):
    """Whether thing is a tuple of stations, each but the first one a NEIGHBOUR of the one ahead of it."""
    if not isinstance(thing, tuple):
        return False
    return len(thing) == 0 or (is_station(line, thing[0]) and is_rest(line, thing[0], thing[1:]))


def is_train(line, thing):
    """Whether thing is a tuple (name, place, rest) as trains of the LINE are."""
    if not is_tuple_of(thing, 3):
        return False
    name, place, rest = thing
    return is_name(name) and is_station(line, place) and is_rest(line, place, rest)


def are_trains(line, thing):
    """Whether thing may be the trains of a STANDING of the LINE."""
    if not isinstance(thing, tuple) or not all([is_train(line, train) for train in thing]):
        return False
    return ascends([train[0] for train in thing])


def is_staff(key, thing):
    """Whether thing tells that the staff of a section lies at one of its ends."""
    return is_tuple_of(thing, 2) and thing[0] == key and thing[1] in key


def are_staffs(line, thing):
    """Whether thing may be the staffs of a STANDING of the LINE."""
    keys = [row[:2] for row in line[1] if row[2] != "free"]
    if not is_tuple_of(thing, len(keys)):
        return False
    return all([is_staff(key, staff) for key, staff in zip(keys, thing)])


def is_standing(line, thing):
    """Whether thing is a STANDING of the LINE."""
    return is_tuple_of(thing, 2) and are_staffs(line, thing[0]) and are_trains(line, thing[1])


def is_move(thing):
    """Whether thing is a MOVE."""
    return is_tuple_of(thing, 2) and is_name(thing[0]) and thing[1] in SORTS


def are_moves(thing):
    """Whether thing is a tuple of MOVES."""
    return isinstance(thing, tuple) and all([is_move(move) for move in thing])
