"""Wrong arguments of all kinds that point 1 of the document lists, for the tests."""

NOT_INTEGERS = [
    True, False, None, "", "1", "narrow", (), (1,), ("a", 0), [], [1], ["a", [0]], ([1],),
]

NOT_NAMES = [
    True, False, None, "", 0, 1, -1, 10 ** 30, (), ("a",), ("a", 0, 1), [], ["a"], [["a"]], (["a"],),
    "abcdefghi", "A", "aB", "a1", "a b", " a", "a\n", "a-b", "_", "\u00e4", "\u00df", "\u0430", "\u0661",
]

WRONG_SECTIONS = [
    True, False, None, "", "narrow", "n", 0, 5, (), [], ["narrow", 10], ("narrow",), (10,),
    ("narrow", 10, 1), ("narrow", 10, None), (("narrow", 10),), (10, "narrow"),
    ("wide", 0), ("wide", 100), ("wide", -1), ("narrow", 0), ("narrow", 100), ("narrow", 10 ** 30),
    ("n", 10), ("w", 10), ("Narrow", 10), ("wide ", 10), ("", 10),
    *[(kind, 10) for kind in (True, False, None, 1, ("wide",), ["wide"], (), [])],
    *[("wide", length) for length in NOT_INTEGERS],
    *[("narrow", length) for length in NOT_INTEGERS],
]

WRONG_CARS = [
    True, False, None, "", "tom", "abc", 0, 5, (), [], ["tom", 0, 6], ("tom",), ("tom", 0), (0, 6),
    ("tom", 0, 6, 0), ("tom", 0, 6, None), (("tom", 0, 6),), (0, "tom", 6),
    ("tom", -1, 6), ("tom", 10 ** 6 + 1, 6), ("tom", 10 ** 30, 6),
    ("tom", 0, 0), ("tom", 0, 61), ("tom", 0, -1), ("tom", 0, 10 ** 30),
    *[(name, 0, 6) for name in NOT_NAMES],
    *[("tom", start, 6) for start in NOT_INTEGERS],
    *[("tom", 0, pace) for pace in NOT_INTEGERS],
]
