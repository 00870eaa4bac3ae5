"""Roads that are alike, and cars that part those that are not."""

from slowleaders.driving import Drive


def two_cars(start):
    """Return a slow car, and a fast one that starts later."""
    return (("a", 0, 3), ("b", start, 1))


def fast_arrival(road, start):
    """Return the tick at which the fast one of two cars arrives."""
    drive = Drive(road, two_cars(start))
    return drive("b")


def parting_cars(road, other):
    """Return the fewest cars that arrive at different ticks on two roads, or None."""
    if road == other:
        return None
    if len(road) != len(other):
        return (("a", 0, 1),)
    # This ends: where the first different unit is wide, the fast car that reaches the slow one in
    # it overtakes, and on the other road it has to follow.
    start = 1
    while fast_arrival(road, start) == fast_arrival(other, start):
        start += 2
    return two_cars(start)
