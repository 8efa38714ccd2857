"""Drivers: they begin each GRANT once at most, whatever letters are lost, doubled or late."""


def driver_at_first(name):
    """The DRIVER of a train that has come with no GRANT yet."""
    return (name, None, None)


def ask_of(driver):
    """The tuple (name, done) with which a DRIVER asks the house, None while it goes."""
    name, done, going = driver
    return (name, done) if going is None else None


def heard(driver, answer):
    """The DRIVER behind an answer of the house."""
    name, done, going = driver
    if going is not None or answer[0] != "go":
        return driver
    if done is not None and answer[1] <= done:
        return driver
    return (name, done, (answer[1], answer[2]))


def came(driver):
    """The DRIVER, which goes, behind its pass."""
    return (driver[0], driver[2][0], None)
