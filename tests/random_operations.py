"""Random operations of live roads for the tests, right and wrong ones; equal seeds give equal ones."""

from random_traffic import NAMES
from wrong_values import NOT_INTEGERS

WRONG_NAMES = ["", "abcdefghi", "Tom", "t1", "to m", None, True, 0, 5, (), ("tom",), [], ["tom"]]
WRONG_KINDS = ["", "n", "Narrow", "wide ", None, True, 0, 1, (), ("wide",), [], ["narrow"]]
MALFORMED = [
    (), ("join",), ("join", "tom", 0), ("join", "tom", 0, 1, 2), ("remove",), ("remove", "tom", "ann"),
    ("set_kind", 0), ("set_kind", 0, "wide", 1), ("leave", "tom"), ("undo",), ("redo",), ("position", "tom", 0),
    ["remove", "tom"], ["join", "tom", 0, 1], None, True, 0, 7, "remove", "", [], [("remove", "tom")],
    (None, "tom"), (["remove"], "tom"), (("remove", "tom"),), ("Remove", "tom"),
]


def either(source, share, right, wrong):
    """Return the wrong one of two values with a probability, otherwise the right one."""
    return wrong if source.random() < share else right


def random_join(source, cars, spread, slowest, share):
    latest = cars[-1][1] if cars else 0
    free = [name for name in NAMES + ["x", "y", "xy"] if name not in [car[0] for car in cars]]
    wrong_names = WRONG_NAMES + [car[0] for car in cars]
    wrong_starts = [latest - 1, -1, 10 ** 6 + 1, *NOT_INTEGERS]
    wrong_paces = [0, 61, -1, 10 ** 30, *NOT_INTEGERS]
    name = either(source, share, source.choice(free), source.choice(wrong_names))
    start = either(source, share, min(10 ** 6, latest + source.randint(0, spread)), source.choice(wrong_starts))
    pace = either(source, share, source.randint(1, slowest), source.choice(wrong_paces))
    return ("join", name, start, pace)


def random_remove(source, cars, share):
    names = [name for name, _, _ in cars]
    wrong = source.choice([*WRONG_NAMES, *[name for name in NAMES if name not in names]])
    return ("remove", either(source, share, source.choice(names), wrong) if names else wrong)


def random_set_kind(source, sections, share):
    wrong = source.choice([-1, len(sections), 10 ** 30, *NOT_INTEGERS])
    section = either(source, share, source.randrange(len(sections)), wrong)
    kind = either(source, share, source.choice(["narrow", "wide"]), source.choice(WRONG_KINDS))
    return ("set_kind", section, kind)


def random_operation(source, sections, cars, share=0.1, spread=8, slowest=12):
    """Return an operation of the right form; about the share of its arguments is wrong."""
    word = source.choice(["join", "join", "join", "remove", "set_kind"])
    if word == "join":
        return random_join(source, cars, spread, slowest, share)
    if word == "remove":
        return random_remove(source, cars, share)
    return random_set_kind(source, sections, share)
