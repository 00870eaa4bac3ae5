"""Roads that are used live: cars join and are removed, and sections change."""

from slowleaders.checks import (
    LATEST_START, LATEST_TICK, MOST_CARS, SLOWEST_PACE, check_known, check_new_name, is_number,
)
from slowleaders.driving import Drive
from slowleaders.errors import (
    AlreadyOpen, InvalidKind, InvalidNumber, InvalidOperation, TooManyCars, UnknownSection,
)
from slowleaders.positions import position_at
from slowleaders.roads import Road


def _arrivals(road, cars):
    """Return a dict from each car to its arrival."""
    drive = Drive(road, cars)
    return {name: drive(name) for name, start, pace in cars}


def _changes(before, after):
    """Return a dict from each car that arrives at another tick to both its arrivals."""
    return {
        name: (before[name], arrival) for name, arrival in after.items() if before[name] != arrival
    }


def _join(road, cars, name, start, pace):
    """Return the road and the cars after a car joined, and its arrival."""
    check_new_name(cars, name)
    earliest = cars[-1][1] if cars else 0
    if not is_number(start, earliest, LATEST_START):
        raise InvalidNumber("a start is from that of the last car to 1000000")
    if not is_number(pace, 1, SLOWEST_PACE):
        raise InvalidNumber("a pace is from 1 to 60")
    if len(cars) == MOST_CARS:
        raise TooManyCars("there are 10 cars already")
    joined = cars + ((name, start, pace),)
    return road, joined, _arrivals(road, joined)[name]


def _remove(road, cars, name):
    """Return the road and the cars after a car was removed, and the cars that change."""
    check_known(cars, name)
    left = tuple([car for car in cars if car[0] != name])
    return road, left, _changes(_arrivals(road, cars), _arrivals(road, left))


def _set_kind(road, cars, section, kind):
    """Return the road after a section changed and the cars, and the cars that change."""
    if not is_number(section, 0, len(road.sections) - 1):
        raise UnknownSection(section)
    if kind not in ("narrow", "wide"):
        raise InvalidKind("a section is narrow or wide")
    sections = list(road.sections)
    sections[section] = (kind, sections[section][1])
    changed = Road(*sections)
    return changed, cars, _changes(_arrivals(road, cars), _arrivals(changed, cars))


ACTIONS = {"join": _join, "remove": _remove, "set_kind": _set_kind}
ARGUMENTS = {"join": 3, "remove": 1, "set_kind": 2}


def _is_operation(value):
    """Tell whether a value is a tuple of the name of an operation and as many arguments as it takes."""
    if not isinstance(value, tuple) or len(value) == 0 or not isinstance(value[0], str):
        return False
    return ARGUMENTS.get(value[0]) == len(value) - 1


def _execute(states, operations):
    """Return the states after some operations, behind the earlier ones, and their results."""
    for index, operation in enumerate(operations):
        if not _is_operation(operation):
            raise InvalidOperation(index)
    states = list(states)
    results = []
    for operation in operations:
        action = ACTIONS[operation[0]]
        arguments = operation[1:]
        road, cars, last = states[-1]
        road, cars, result = action(road, cars, *arguments)
        states.append((road, cars, operation))
        results.append(result)
    return states, results


class LiveRoad:
    """A road that cars join and leave, and whose sections change."""

    def __init__(self, road):
        # A state is a tuple of the road, the cars, and the operation that led to it. These lists
        # are replaced, never modified, so that a block can keep those of its beginning.
        self._states = [(road, (), None)]
        self._undone = []
        self._in_block = False
        self._kept_states = self._states
        self._kept_undone = self._undone

    def join(self, name, start, pace):
        """Let a car join behind all others, and return its arrival."""
        return self.apply(("join", name, start, pace))[0]

    def remove(self, name):
        """Remove a car, and return a dict from each car that changes to both its arrivals."""
        return self.apply(("remove", name))[0]

    def set_kind(self, section, kind):
        """Make a section narrow or wide, and return a dict like that of remove."""
        return self.apply(("set_kind", section, kind))[0]

    def apply(self, *operations):
        """Execute operations and return the list of their results; all of them, or none."""
        states, results = _execute(self._states, operations)
        if operations:
            self._states = states
            self._undone = []
        return results

    @classmethod
    def replay(cls, road, operations):
        """Return a live road after a list of operations."""
        live = cls(road)
        live.apply(*operations)
        return live

    def undo(self):
        """Undo the last operation in effect; return False if there is none."""
        if len(self._states) == 1:
            return False
        self._undone = self._undone + [self._states[-1]]
        self._states = self._states[:-1]
        return True

    def redo(self):
        """Execute the operation that was undone last once more; return False if there is none."""
        if len(self._undone) == 0:
            return False
        # It was undone from this very state, so it leads to the same one as before.
        self._states = self._states + [self._undone[-1]]
        self._undone = self._undone[:-1]
        return True

    def _check_no_block(self):
        if self._in_block:
            raise AlreadyOpen("a block of this live road is open already")

    def __enter__(self):
        self._check_no_block()
        self._in_block = True
        self._kept_states = self._states
        self._kept_undone = self._undone
        return self

    def __exit__(self, kind, value, trace):
        self._states = self._kept_states
        self._undone = self._kept_undone
        self._in_block = False

    def arrivals_after(self, *operations):
        """Return a dict from each car that is there after some operations to its arrival.

        The operations are tried only, as in a block: all is as before.
        """
        self._check_no_block()
        states, results = _execute(self._states, operations)
        road, cars, last = states[-1]
        return _arrivals(road, cars)

    def drive(self):
        """Return the drive of all cars."""
        road, cars, last = self._states[-1]
        return Drive(road, cars)

    def position(self, name, tick):
        """Return how many units a car has driven at a tick, a tuple (numerator, denominator)."""
        road, cars, last = self._states[-1]
        check_known(cars, name)
        if not is_number(tick, 0, LATEST_TICK):
            raise InvalidNumber("a tick is from 0 to 1000000000")
        return position_at(road, cars, name, tick)

    @property
    def present_road(self):
        """The road with its present sections."""
        return self._states[-1][0]

    @property
    def present_cars(self):
        """The tuple of the cars that are there, in the order of joining."""
        return self._states[-1][1]

    @property
    def history(self):
        """The list of the operations in effect."""
        return [operation for road, cars, operation in self._states[1:]]

    def __contains__(self, x):
        return x in [name for name, start, pace in self._states[-1][1]]

    def __len__(self):
        return len(self._states[-1][1])
