"""Sections to widen so that nobody loses much, widenings that harm, and latest starts."""

from slowleaders.checks import LATEST_START, check_cars, check_known, is_number
from slowleaders.driving import Drive
from slowleaders.errors import InvalidNumber

GREATEST_LOSS = 1000000
LATEST_DEADLINE = 10000000


def first_loser(road, cars, most, *sections):
    """Return the first car that loses more ticks than told if some sections are wide, too, or None."""
    check_cars(cars)
    if not is_number(most, 0, GREATEST_LOSS):
        raise InvalidNumber("a loss is from 0 to 1000000")
    losses = Drive(road.widened(*sections), cars).losses()
    losers = [name for name, loss in losses.items() if loss > most]
    return losers[0] if losers else None


def fewest_widened(road, cars, most):
    """Return the shortest list of narrow sections that must be wide so that nobody loses more."""
    narrow = [at for at, (kind, length) in enumerate(road.sections) if kind == "narrow"]
    # All ascending lists of one length, in list order. The one of all narrow sections is enough.
    choices = [[]]
    while True:
        for chosen in choices:
            if first_loser(road, cars, most, *chosen) is None:
                return chosen
        choices = [
            chosen + [section]
            for chosen in choices
            for section in narrow
            if not chosen or chosen[-1] < section
        ]


def harmful_widenings(road, cars):
    """Return the list of all tuples (section, car) of a section that, if widened, makes a car later."""
    drive = Drive(road, cars)
    harmful = []
    for section in range(len(road.sections)):
        wider = Drive(road.widened(section), cars)
        harmful += [(section, name) for name, start, pace in cars if wider(name) > drive(name)]
    return harmful


def _arrival(road, cars, name, start):
    """Return the tick at which a car arrives if it has another start."""
    moved = [(known, start if known == name else other, pace) for known, other, pace in cars]
    drive = Drive(road, tuple(moved))
    return drive(name)


def latest_start(road, cars, name, deadline):
    """Return the latest start with which a car arrives at a deadline or earlier, or None."""
    check_cars(cars)
    check_known(cars, name)
    if not is_number(deadline, 0, LATEST_DEADLINE):
        raise InvalidNumber("a deadline is from 0 to 10000000")
    if _arrival(road, cars, name, 0) > deadline:
        return None
    # A car that starts later never arrives earlier, so the starts can be halved.
    low = 0
    high = LATEST_START
    while low < high:
        middle = (low + high + 1) // 2
        if _arrival(road, cars, name, middle) <= deadline:
            low = middle
        else:
            high = middle - 1
    return low
