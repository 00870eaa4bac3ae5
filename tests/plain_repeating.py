"""Rounds by the plain words of point 11, written out as one drive, for the tests."""

from plain_driving import plain_ticks


def plain_rounds(sections, cars, period, many):
    """Return, for each of the first rounds, a dict from each car to its ticks in its round."""
    written_out = tuple(
        ((number, name), number * period + start, pace)
        for number in range(many)
        for name, start, pace in cars
    )
    ticks = plain_ticks(sections, written_out)
    return [
        {name: tuple(tick - number * period for tick in ticks[number, name]) for name, _, _ in cars}
        for number in range(many)
    ]


def enough_rounds(sections, cars, period):
    """Return a number of rounds of which the last one is certainly like all further ones.

    A car depends on slower ones alone, and these are on the road for so many rounds at most. So
    cars of the slowest pace are the same in all rounds, those of the next pace from so many rounds
    on, and so forth.
    """
    if not cars:
        return 1
    units = sum(length for _, length in sections)
    longest = max(start for _, start, _ in cars) + units * max(pace for _, _, pace in cars)
    return (longest // period + 1) * (len({pace for _, _, pace in cars}) - 1) + 1


def plain_settled(rounds):
    """Return the first round from which on all of these are the same."""
    return min(number for number in range(len(rounds)) if all(rounds[number] == later for later in rounds[number:]))
