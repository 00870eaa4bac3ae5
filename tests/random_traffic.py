"""Random roads and cars for the tests; equal seeds give equal ones."""

NAMES = ["tom", "ann", "bob", "eve", "z", "abcdefgh", "b", "a", "kim", "zzzzzzzz"]


def random_sections(source, most, longest):
    many = source.randint(1, most)
    return [(source.choice(["narrow", "wide"]), source.randint(1, longest)) for _ in range(many)]


def random_cars(source, most, latest, slowest):
    names = source.sample(NAMES, source.randint(0, most))
    return tuple((name, source.randint(0, latest), source.randint(1, slowest)) for name in names)


def random_convoy(source, most):
    """Return alternating sections and cars that start the later the faster they are.

    Among these, longer chains of leaders are not rare.
    """
    sections = [(("narrow", "wide")[at % 2], source.randint(1, 12)) for at in range(source.choice([5, 7, 9]))]
    many = source.randint(3, most)
    starts = sorted(source.randint(0, 20 * many) for _ in range(many))
    paces = sorted((source.randint(1, 20) for _ in range(many)), reverse=True)
    cars = list(zip(source.sample(NAMES, many), starts, paces))
    source.shuffle(cars)
    return sections, tuple(cars)


def in_order(cars):
    """Return the cars as they can join a live road one after the other."""
    return tuple(sorted(cars, key=lambda car: car[1]))
