"""Traffic as bytes by the plain words of point 17, as a second computation for the tests."""

from outcomes import raises, returns

LETTERS = "abcdefghijklmnopqrstuvwxyz"


def plain_checksum(values):
    """Return the checksum, written out as one sum: each byte counts five times as much as the next one."""
    total = 2 * 5 ** len(values)
    for at, value in enumerate(values):
        total += value * 5 ** (len(values) - 1 - at)
    return total % 233


def start_bytes(start):
    """Return the bytes of a start, cut from its binary digits."""
    digits = bin(start)[2:]
    groups = []
    while digits:
        groups.append(int(digits[-7:], 2))
        digits = digits[:-7]
    return [128 + group for group in groups[:-1]] + groups[-1:]


def sealed(values):
    """Return the bytes of values and their checksum."""
    return bytes([*values, plain_checksum(values)])


def plain_encode(sections, cars):
    values = [82, len(sections)]
    for kind, length in sections:
        values += [{"narrow": 0, "wide": 1}[kind], length]
    values += [len(cars)]
    for name, start, pace in cars:
        values += [len(name), *[ord(letter) - ord("a") for letter in name], *start_bytes(start), pace]
    return sealed(values)


class Wrong(Exception):
    """Some bytes are no traffic from an offset on."""


class PlainReader:
    """Reads values off the front of a list, and knows how many it has read."""

    def __init__(self, data):
        self.left = list(data)
        self.many = len(data)

    def at(self):
        return self.many - len(self.left)

    def value(self, allowed):
        """Take a value, and raise Wrong at its offset unless it is allowed."""
        at = self.at()
        if not self.left or self.left[0] not in allowed:
            raise Wrong(at)
        return self.left.pop(0)

    def name(self, names):
        at = self.at()
        letters = [LETTERS[self.value(range(26))] for _ in range(self.value(range(1, 9)))]
        if "".join(letters) in names:
            raise Wrong(at)
        return "".join(letters)

    def start(self):
        at = self.at()
        values = [self.value(range(256))]
        while values[-1] > 127:
            values.append(self.value(range(256)))
        if len(values) > 1 and values[-1] == 0:
            raise Wrong(self.at() - 1)
        digits = "".join(format(value % 128, "07b") for value in reversed(values))
        if int(digits, 2) > 1000000:
            raise Wrong(at)
        return int(digits, 2)

    def traffic(self, data):
        self.value([82])
        sections = []
        for _ in range(self.value(range(1, 13))):
            sections.append((("narrow", "wide")[self.value([0, 1])], self.value(range(1, 100))))
        cars = []
        for _ in range(self.value(range(11))):
            name = self.name([car[0] for car in cars])
            cars.append((name, self.start(), self.value(range(1, 61))))
        self.value([plain_checksum(data[:self.at()])])
        if self.left:
            raise Wrong(self.at())
        return tuple(sections), tuple(cars)


def plain_decode(data):
    """Return the outcome of reading bytes: their sections and cars, or an error."""
    try:
        return returns(PlainReader(data).traffic(data))
    except Wrong as wrong:
        return raises("DecodeError", offset=wrong.args[0])
