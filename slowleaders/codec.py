"""Traffic as bytes."""

from slowleaders.checks import LATEST_START, LONGEST_NAME, MOST_CARS, SLOWEST_PACE, check_cars, is_number
from slowleaders.errors import DecodeError, InvalidCount
from slowleaders.roads import LONGEST_SECTION, MOST_SECTIONS, Road

FIRST_BYTE = 82
GREATEST_BYTE = 255
KINDS = ("narrow", "wide")
LETTERS = "abcdefghijklmnopqrstuvwxyz"


def pack_bytes(values):
    """Return the bytes with the values of a list."""
    if not isinstance(values, list):
        raise InvalidCount("values of bytes are given as a list")
    for value in values:
        if not is_number(value, 0, GREATEST_BYTE):
            raise InvalidCount("the value of a byte is from 0 to 255")
    return bytes(values)


def unpack_bytes(data):
    """Return the list of the values of bytes."""
    return list(data)


def _checksum(values):
    """Return the checksum of the values of bytes."""
    checksum = 2
    for value in values:
        checksum = int(5 * checksum + value) % 233
    return checksum


def _start_groups(start):
    """Return the values of the bytes of a start: groups of seven bits, the lowest one first."""
    groups = []
    rest = start
    while rest >= 128:
        groups.append((rest & 127) + 128)
        rest = rest >> 7
    groups.append(rest)
    return groups


def encode_traffic(road, cars):
    """Return the bytes of a road and cars."""
    check_cars(cars)
    values = [FIRST_BYTE, len(road.sections)]
    for kind, length in road.sections:
        values += [KINDS.index(kind), length]
    values.append(len(cars))
    for name, start, pace in cars:
        values.append(len(name))
        values += [LETTERS.index(letter) for letter in name]
        values += _start_groups(start)
        values.append(pace)
    values.append(_checksum(values))
    return pack_bytes(values)


class Reader:
    """Bytes that are read from left to right."""

    def __init__(self, data):
        self._data = data
        self.offset = 0

    def take(self, least, most):
        """Return the value of the next byte; raise DecodeError unless it is within limits."""
        if self.offset == len(self._data):
            raise DecodeError(self.offset)
        value = self._data[self.offset]
        if not least <= value <= most:
            raise DecodeError(self.offset)
        self.offset += 1
        return value

    def take_name(self, earlier):
        """Return the next name, which must differ from all earlier ones."""
        begin = self.offset
        many = self.take(1, LONGEST_NAME)
        name = ""
        for _ in range(many):
            name += LETTERS[self.take(0, len(LETTERS) - 1)]
        if name in earlier:
            raise DecodeError(begin)
        return name

    def take_start(self):
        """Return the next start."""
        begin = self.offset
        value = self.take(0, GREATEST_BYTE)
        start = value & 127
        weight = 128
        while value >= 128:
            # Only a last byte can be 0, and it must not be behind others.
            value = self.take(1, GREATEST_BYTE)
            start += (value & 127) * weight
            weight *= 128
        if start > LATEST_START:
            raise DecodeError(begin)
        return start

    def take_sections(self):
        """Return the list of the next sections, their number first."""
        many = self.take(1, MOST_SECTIONS)
        sections = []
        for _ in range(many):
            kind = KINDS[self.take(0, 1)]
            sections.append((kind, self.take(1, LONGEST_SECTION)))
        return sections

    def take_cars(self):
        """Return the list of the next cars, their number first."""
        many = self.take(0, MOST_CARS)
        cars = []
        for _ in range(many):
            name = self.take_name([car[0] for car in cars])
            start = self.take_start()
            cars.append((name, start, self.take(1, SLOWEST_PACE)))
        return cars


def decode_traffic(data):
    """Return the tuple of the road and the cars of bytes."""
    if not isinstance(data, bytes):
        raise DecodeError(0)
    reader = Reader(data)
    reader.take(FIRST_BYTE, FIRST_BYTE)
    sections = reader.take_sections()
    cars = reader.take_cars()
    checksum = _checksum(data[:reader.offset])
    reader.take(checksum, checksum)
    if reader.offset < len(data):
        raise DecodeError(reader.offset)
    return Road(*sections), tuple(cars)
