"""Traffic and timetables as texts."""

from slowleaders.checks import check_cars, is_name
from slowleaders.driving import Drive
from slowleaders.errors import NotationError
from slowleaders.roads import Road

MOST_DIGITS = 7
COLUMN = 8
# The words behind the first word of a row.
FORMS = {
    "narrow": ("integer",),
    "wide": ("integer",),
    "car": ("name", "integer", "integer"),
}
FIRST_AT_BEGIN = ("narrow", "wide")
FIRST_BEHIND_SECTION = ("narrow", "wide", "car")
FIRST_BEHIND_CAR = ("car",)


def format_traffic(road, cars):
    """Return the text of a road and cars."""
    check_cars(cars)
    rows = [f"{kind} {length}" for kind, length in road.sections]
    rows += [f"car {name} {start} {pace}" for name, start, pace in cars]
    return "\n".join(rows)


def _is_integer(word):
    """Tell whether a word is an integer of one to seven digits without leading zeros."""
    if not 1 <= len(word) <= MOST_DIGITS:
        return False
    # Other digits than these would pass isdigit.
    if not all(["0" <= digit <= "9" for digit in word]):
        return False
    return word == "0" or word[0] != "0"


def _has_form(word, form):
    """Tell whether a word is a name or an integer, as its form says."""
    return is_name(word) if form == "name" else _is_integer(word)


def _first_fault(words, first):
    """Return the number of the first word of a row that is wrong, missing or superfluous, or None.

    The first word of the row must be one of those that are told.
    """
    if words[0] not in first:
        return 0
    forms = FORMS[words[0]]
    for number, form in enumerate(forms, start=1):
        if number == len(words) or not _has_form(words[number], form):
            return number
    if len(words) > len(forms) + 1:
        return len(forms) + 1
    return None


def parse_traffic(text):
    """Return the tuple of the road and the cars of a text."""
    if not isinstance(text, str):
        raise NotationError(0, 0)
    sections = []
    cars = []
    first = FIRST_AT_BEGIN
    for row, line in enumerate(text.split("\n")):
        words = line.split(" ")
        fault = _first_fault(words, first)
        if fault is not None:
            raise NotationError(row, fault)
        if words[0] == "car":
            first = FIRST_BEHIND_CAR
            cars.append((words[1], int(words[2]), int(words[3])))
        else:
            first = FIRST_BEHIND_SECTION
            sections.append((words[0], int(words[1])))
    road = Road(*sections)
    check_cars(tuple(cars))
    return road, tuple(cars)


def timetable(road, cars):
    """Return a text with a row for each car: its name and the ticks at which it passes all places."""
    drive = Drive(road, cars)
    rows = []
    for name, start, pace in cars:
        ticks = [str(tick).rjust(COLUMN) for tick in drive[name]]
        rows.append(name.ljust(COLUMN) + "".join(ticks))
    return "\n".join(rows)
