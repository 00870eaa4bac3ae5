"""Traffic as text by the plain words of point 16, as a second computation for the tests."""

import re

from outcomes import outcome, raises, returns
from plain_driving import plain_ticks
from slowleaders.driving import Drive
from slowleaders.roads import Road

INTEGER = "(0|[1-9][0-9]{0,6})"
NAME = "[a-z]{1,8}"
SECTION_ROW = re.compile(f"(narrow|wide) {INTEGER}")
CAR_ROW = re.compile(f"car {NAME} {INTEGER} {INTEGER}")
# Each row of the right form is like one of these in its words from some word on.
SAMPLES = (["narrow", "1"], ["wide", "1"], ["car", "a", "0", "1"])


def plain_text(sections, cars):
    rows = []
    for section in sections:
        rows.append(" ".join(str(value) for value in section))
    for car in cars:
        rows.append(" ".join(str(value) for value in ("car", *car)))
    return "\n".join(rows)


def plain_timetable(sections, cars):
    ticks = plain_ticks(sections, cars)
    rows = []
    for name, _, _ in cars:
        row = name
        while len(row) < 8:
            row += " "
        for tick in ticks[name]:
            row += " " * (8 - len(str(tick))) + str(tick)
        rows.append(row)
    return "\n".join(rows)


def plain_fault(words, patterns):
    """Return the first word of a row that no row of the right form has behind those before it."""
    def fits(words):
        return any(pattern.fullmatch(" ".join(words)) for pattern in patterns)

    for word in range(len(words)):
        begin = words[:word + 1]
        if not any(fits(begin + sample[len(begin):]) for sample in SAMPLES):
            return word
    return None if fits(words) else len(words)


def plain_parse(text):
    """Return the outcome of reading a text: its sections and cars, or an error."""
    sections, cars = [], []
    for row, line in enumerate(re.split("\n", text)):
        patterns = [SECTION_ROW] if not cars else []
        patterns += [CAR_ROW] if sections else []
        words = re.split(" ", line)
        fault = plain_fault(words, patterns)
        if fault is not None:
            return raises("NotationError", row=row, word=fault)
        if words[0] == "car":
            cars.append((words[1], int(words[2]), int(words[3])))
        else:
            sections.append((words[0], int(words[1])))
    road = outcome(Road, *sections)
    if road[0] == "raises":
        return road
    drive = outcome(Drive, road[1], tuple(cars))
    if drive[0] == "raises":
        return drive
    return returns((tuple(sections), tuple(cars)))
