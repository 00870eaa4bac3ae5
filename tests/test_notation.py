"""Traffic and timetables as texts (point 16 of the document)."""

import inspect
import random
import unittest

from live_case import short_road
from outcomes import outcome, raises, returns
from plain_notation import plain_parse, plain_text, plain_timetable
from random_traffic import random_cars, random_sections
from slowleaders.driving import Drive
from slowleaders.errors import InvalidCars, InvalidRoad, NotationError
from slowleaders.notation import format_traffic, parse_traffic, timetable
from slowleaders.roads import Road
from traffic_case import CARS, TEN, TrafficCase, example_road

TEXT = "narrow 10\nwide 5\nnarrow 10\ncar tom 0 6\ncar ann 5 2\ncar bob 10 4"
# Not one of these is an integer or a name.
NO_INTEGERS = [
    "", "00", "01", "007", "0000000", "12345678", "99999999", "123456789012", "+1", "-1", "-0", "--1", "1.0", "1e3",
    "1_0", "0x1", "a", "1a", "a1", "\t1", "1\t", "1\r", "\u0661", "\u0967", "1\u0661", "\u00b2", "\uff11", "\u00a01",
    "1\u2003", "None", "True", "one", "1,", "(1)", "~", "/", ":", "1/", ":1",
]
NO_NAMES = [
    "", "abcdefghi", "A", "Tom", "toM", "t1", "1", "0", "t-m", "t_m", "\u00e4", "to\u00df", "\u0430", "tom\t", "\rtom",
    "tom,", "`", "{", "a`", "{a", "t\u00a0m",
]


class NotationCase(TrafficCase):
    def assert_fault(self, row, word, text):
        self.assertEqual(outcome(parse_traffic, text), raises("NotationError", row=row, word=word), repr(text))

    def assert_read(self, text, sections, cars):
        road, found = parse_traffic(text)
        self.assertEqual((road.sections, found), (sections, cars))


class ExamplesTest(NotationCase):
    def test_format_traffic(self):
        self.assertEqual(format_traffic(short_road(), (("a", 0, 3),)), "narrow 10\nwide 10\ncar a 0 3")

    def test_parse_traffic(self):
        self.assertEqual(parse_traffic("wide 10\ncar a 0 3")[1], (("a", 0, 3),))

    def test_notation_error(self):
        self.assert_fault(1, 3, "wide 10\ncar a 0 03")

    def test_timetable(self):
        self.assertEqual(
            timetable(short_road(), (("a", 0, 3), ("b", 10, 1))),
            "a              0      30      60\nb             10      30      40",
        )


class InterfaceTest(NotationCase):
    def test_parameters(self):
        for function, parameters in (
            (format_traffic, ["road", "cars"]), (parse_traffic, ["text"]), (timetable, ["road", "cars"]),
        ):
            self.assertEqual(list(inspect.signature(function).parameters), parameters)
            self.assertEqual(function.__module__, "slowleaders.notation")


class FormatTest(NotationCase):
    def test_rows(self):
        self.assertEqual(format_traffic(example_road(), CARS), TEXT)

    def test_no_cars(self):
        self.assertEqual(format_traffic(Road(("wide", 99)), ()), "wide 99")
        self.assertEqual(timetable(Road(("wide", 99)), ()), "")

    def test_adjacent_sections_of_one_kind(self):
        road = Road(("narrow", 1), ("narrow", 2), ("wide", 3), ("wide", 3))
        self.assertEqual(format_traffic(road, ()), "narrow 1\nnarrow 2\nwide 3\nwide 3")

    def test_limits(self):
        sections = tuple((("narrow", "wide")[at % 2], (1, 99)[at % 2]) for at in range(12))
        cars = (("abcdefgh", 0, 1), ("z", 10 ** 6, 60), *TEN[:8])
        text = format_traffic(Road(*sections), cars)
        self.assertEqual(text.split("\n")[11:14], ["wide 99", "car abcdefgh 0 1", "car z 1000000 60"])
        self.assert_read(text, sections, cars)

    def test_invalid_cars(self):
        for call in (format_traffic, timetable):
            self.check_invalid_cars(lambda cars: call(example_road(), cars))

    def test_plain_texts(self):
        source = random.Random(91)
        for _ in range(300):
            sections, cars = random_sections(source, 12, 99), random_cars(source, 10, 10 ** 6, 60)
            text = format_traffic(Road(*sections), cars)
            self.assertEqual(text, plain_text(sections, cars))
            self.assert_read(text, tuple(sections), cars)
            self.assertEqual(plain_parse(text), returns((tuple(sections), cars)))


class TimetableTest(NotationCase):
    def test_rows(self):
        self.assertEqual(timetable(example_road(), CARS), "\n".join([
            "tom            0      60      90     150",
            "ann            5      60      70      90",
            "bob           10      60      80     120",
        ]))

    def test_widths(self):
        cars = (("abcdefgh", 10 ** 6, 60), ("z", 0, 1))
        self.assertEqual(
            timetable(Road(("wide", 99)), cars), "abcdefgh 1000000 1005940\nz              0      99"
        )

    def test_plain_timetables(self):
        source = random.Random(92)
        for _ in range(300):
            sections, cars = random_sections(source, 12, 99), random_cars(source, 10, 10 ** 6, 60)
            text = timetable(Road(*sections), cars)
            self.assertEqual(text, plain_timetable(sections, cars))
            drive = Drive(Road(*sections), cars)
            rows = text.split("\n") if cars else []
            self.assertEqual([row[:8].rstrip() for row in rows], [name for name, _, _ in cars])
            for row, (name, _, _) in zip(rows, cars):
                self.assertEqual(len(row), 8 * (len(sections) + 2))
                self.assertEqual(tuple(int(word) for word in row[8:].split()), drive[name])


class ParseTest(NotationCase):
    def test_texts(self):
        self.assert_read(TEXT, example_road().sections, CARS)
        self.assert_read("narrow 1", (("narrow", 1),), ())
        self.assert_read("wide 99\ncar a 1000000 60", (("wide", 99),), (("a", 10 ** 6, 60),))
        self.assert_read("wide 9\nwide 9\ncar z 0 1", (("wide", 9), ("wide", 9)), (("z", 0, 1),))

    def test_kinds_of_values(self):
        found = parse_traffic(TEXT)
        self.assertIs(type(found), tuple)
        self.assertIsInstance(found[0], Road)
        self.assertEqual({type(value) for value in (found[1], *found[1])}, {tuple})
        self.assertEqual([type(value) for value in found[1][0]], [str, int, int])
        self.assertTrue(found[0] == parse_traffic(TEXT)[0])

    def test_empty_rows(self):
        self.assert_fault(0, 0, "")
        self.assert_fault(0, 0, "\n")
        self.assert_fault(0, 0, "\n" + TEXT)
        self.assert_fault(6, 0, TEXT + "\n")
        self.assert_fault(6, 0, TEXT + "\n\n")
        self.assert_fault(1, 0, TEXT.replace("\n", "\n\n"))
        self.assert_fault(3, 0, TEXT.replace("\ncar", "\n\ncar"))
        self.assert_fault(1, 0, "wide 3\n")

    def test_blanks(self):
        for row, line in enumerate(TEXT.split("\n")):
            words = line.split(" ")
            for changed, word in (
                (" " + line, 0), (line + " ", len(words)), (line.replace(" ", "  "), 1), (" ", 0), ("  " + line, 0),
                (line + "  ", len(words)), (line.replace(" ", "\t"), 0), ("\t" + line, 0), (line + "\t", len(words) - 1),
                (line + "\r", len(words) - 1), (line.replace(" ", "\u00a0"), 0), (line + "\u2028", len(words) - 1),
                (line + "\x0b", len(words) - 1), (line + "\x0c" + line, len(words) - 1),
            ):
                rows = TEXT.split("\n")
                rows[row] = changed
                self.assert_fault(row, word, "\n".join(rows))
        self.assert_fault(3, 2, TEXT.replace("tom 0", "tom  0"))
        self.assert_fault(3, 3, TEXT.replace("0 6", "0  6"))

    def test_other_line_ends(self):
        for end in ("\r\n", "\r", "\x0b", "\x0c", "\x1c", "\x85", "\u2028"):
            self.assert_fault(0, 1, TEXT.replace("\n", end))

    def test_missing_words(self):
        for row, line in enumerate(TEXT.split("\n")):
            words = line.split(" ")
            for many in range(1, len(words)):
                rows = TEXT.split("\n")
                rows[row] = " ".join(words[:many])
                self.assert_fault(row, many, "\n".join(rows))
                rows[row] += " "
                self.assert_fault(row, many, "\n".join(rows))

    def test_superfluous_words(self):
        for row, line in enumerate(TEXT.split("\n")):
            for more in ("1", "car", "wide 3", "x y", ""):
                rows = TEXT.split("\n")
                rows[row] += " " + more
                self.assert_fault(row, len(line.split(" ")), "\n".join(rows))

    def test_wrong_first_words(self):
        for word in ("", "n", "w", "Narrow", "WIDE", "Car", "cars", "ca", "narro", "wider", "tom", "1", "road", "wide\t"):
            for row, line in enumerate(TEXT.split("\n")):
                rows = TEXT.split("\n")
                rows[row] = " ".join([word, *line.split(" ")[1:]])
                self.assert_fault(row, 0, "\n".join(rows))
                rows[row] = word
                self.assert_fault(row, 0, "\n".join(rows))

    def test_order_of_rows(self):
        self.assert_fault(0, 0, "car tom 0 6")
        self.assert_fault(0, 0, "car tom 0 6\nwide 5")
        self.assert_fault(0, 0, "car")
        self.assert_fault(2, 0, "wide 5\ncar tom 0 6\nnarrow 4")
        self.assert_fault(2, 0, "wide 5\ncar tom 0 6\nwide")
        self.assert_fault(4, 0, "wide 5\nnarrow 4\ncar tom 0 6\ncar ann 0 6\nnarrow 0 0")

    def test_wrong_integers(self):
        for wrong in NO_INTEGERS:
            with self.subTest(wrong=wrong):
                self.assert_fault(1, 1, TEXT.replace("wide 5", "wide " + wrong))
                self.assert_fault(0, 1, TEXT.replace("narrow 10", "narrow " + wrong))
                self.assert_fault(3, 2, TEXT.replace("tom 0 6", f"tom {wrong} 6"))
                self.assert_fault(5, 3, TEXT.replace("bob 10 4", "bob 10 " + wrong))

    def test_wrong_names(self):
        for wrong in NO_NAMES:
            with self.subTest(wrong=wrong):
                self.assert_fault(4, 1, TEXT.replace("ann", wrong))
                self.assert_fault(4, 1, TEXT.replace("ann 5 2", wrong + " x y"))

    def test_first_fault(self):
        self.assert_fault(1, 1, TEXT.replace("wide 5", "wide x y").replace("tom", "Tom"))
        self.assert_fault(3, 1, TEXT.replace("tom 0 6", "Tom 00 06 6"))
        self.assert_fault(3, 2, TEXT.replace("tom 0 6", "tom 00 06 6"))
        self.assert_fault(3, 3, TEXT.replace("tom 0 6", "tom 0 06 6"))
        self.assert_fault(3, 4, TEXT.replace("tom 0 6", "tom 0 6 6").replace("ann", "Ann"))

    def test_faults_ahead_of_other_errors(self):
        # The road and the cars are looked at when all rows have the right form.
        self.assert_fault(5, 1, TEXT.replace("wide 5", "wide 0").replace("bob", "Bob"))
        self.assert_fault(6, 0, TEXT.replace("tom 0 6", "tom 0 0") + "\n")
        self.assert_fault(13, 0, "\n".join(["wide 1"] * 13) + "\n")

    def test_numbers_that_are_no_lengths(self):
        for length in ("0", "100", "1000", "1000000", "9999999"):
            self.assertEqual(outcome(parse_traffic, "wide " + length), raises("InvalidRoad", index=0))
            self.assertEqual(
                outcome(parse_traffic, TEXT.replace("wide 5", "wide " + length)), raises("InvalidRoad", index=1)
            )
        self.assertEqual(
            outcome(parse_traffic, TEXT.replace("wide 5", "wide 0").replace("6", "0")), raises("InvalidRoad", index=1)
        )

    def test_thirteen_sections(self):
        text = "\n".join(["wide 1"] * 12)
        self.assertEqual(len(parse_traffic(text)[0].sections), 12)
        for more in ("\nwide 1", "\nwide 0", "\nwide 1\nwide 0\ncar a 0 0"):
            self.assertEqual(outcome(parse_traffic, text + more), raises("InvalidRoad", index=12))

    def test_numbers_that_are_no_starts_and_paces(self):
        for old, new, index in (
            ("tom 0 6", "tom 0 0", 0), ("tom 0 6", "tom 0 61", 0), ("tom 0 6", "tom 1000001 6", 0),
            ("ann 5 2", "ann 9999999 2", 1), ("bob 10 4", "bob 10 9999999", 2), ("bob 10 4", "tom 10 4", 2),
            ("ann 5 2", "tom 0 61", 1),
        ):
            self.assertEqual(outcome(parse_traffic, TEXT.replace(old, new)), raises("InvalidCars", index=index))

    def test_eleven_cars(self):
        text = format_traffic(example_road(), TEN)
        self.assertEqual(parse_traffic(text)[1], TEN)
        for more in ("\ncar tom 0 6", "\ncar tom 0 0", "\ncar tom 0 6\ncar tom 0 0"):
            self.assertEqual(outcome(parse_traffic, text + more), raises("InvalidCars", index=10))

    def test_no_texts(self):
        for text in (None, True, False, 0, 7, (), ("wide 1",), [], ["wide 1"]):
            self.assert_fault(0, 0, text)

    def test_errors_of_the_package(self):
        for text, error in (("", NotationError), ("wide 0", InvalidRoad), ("wide 1\ncar a 0 0", InvalidCars)):
            for _ in range(2):
                with self.assertRaises(error):
                    parse_traffic(text)


class PlainReaderTest(NotationCase):
    LETTERS = "nwcar tom\n\n  0123456789+-az\t\rA\u0661\u00a0"
    WORDS = [
        "narrow", "wide", "car", "tom", "a", "abcdefgh", "abcdefghi", "0", "1", "60", "61", "99", "100", "00", "1000000",
        "1000001", "9999999", "12345678", "", "x1", "-1",
    ]

    def check(self, text):
        expected = plain_parse(text)
        found = outcome(parse_traffic, text)
        if found[0] == "returns":
            road, cars = found[1]
            found = returns((road.sections, cars))
            self.assertEqual(format_traffic(road, cars), text)
        self.assertEqual(found, expected, repr(text))
        return found[1] if found[0] == "raises" else "returns"

    def random_text(self, source):
        sections, cars = random_sections(source, 4, 99), random_cars(source, 4, 10 ** 6, 60)
        return plain_text(sections, cars)

    def check_changes(self, seed, change, names=("returns", "NotationError", "InvalidRoad", "InvalidCars")):
        source = random.Random(seed)
        told = set()
        for _ in range(2500):
            text = self.random_text(source)
            for _ in range(source.choice([1, 1, 2, 3])):
                text = change(source, text)
            told.add(self.check(text))
        self.assertEqual(told, set(names))

    def test_changed_characters(self):
        def change(source, text):
            at = source.randrange(len(text) + 1)
            kept = source.choice([at, at + 1])
            return text[:at] + source.choice(["", source.choice(self.LETTERS)]) + text[kept:]

        self.check_changes(93, change)

    def test_changed_words(self):
        def change(source, text):
            rows = [row.split(" ") for row in text.split("\n")]
            words = source.choice(rows)
            at = source.randrange(len(words))
            words[at:at + source.randint(0, 1)] = source.choice([[], [source.choice(self.WORDS)], [words[at]] * 2])
            return "\n".join(" ".join(words) for words in rows)

        self.check_changes(94, change)

    def test_changed_rows(self):
        def change(source, text):
            rows = text.split("\n")
            at = source.randrange(len(rows))
            more = [self.random_text(source).split("\n")[0], "car tom 3 4", "wide 0", "car z 0 61", "", " "]
            kind = source.randrange(5)
            if kind == 0:
                del rows[at]
            elif kind == 1:
                rows[at:at] = source.choice([rows[at:at + 1], [source.choice(more)]])
            elif kind == 2:
                rows[at] = source.choice(more)
            elif kind == 3:
                rows = rows * source.choice([2, 5])
            else:
                source.shuffle(rows)
            return "\n".join(rows)

        self.check_changes(95, change)

    def test_drawn_rows(self):
        source = random.Random(96)
        told = set()
        for _ in range(5000):
            rows = []
            for _ in range(source.randint(1, 4)):
                words = source.choices(self.WORDS[:6] + self.WORDS, k=source.choice([1, 2, 2, 2, 4, 4, 5]))
                if source.random() < 0.7:
                    words[0] = source.choice(["narrow", "wide", "car"])
                rows.append(" ".join(words))
            told.add(self.check("\n".join(rows)))
        self.assertTrue({"NotationError", "returns", "InvalidRoad"} <= told)

    def test_cut_texts(self):
        for at in range(len(TEXT) + 1):
            self.check(TEXT[:at])
            self.check(TEXT[at:])
            self.check(TEXT[:at] + TEXT[at + 1:])
            self.check(TEXT[:at] + TEXT[at:at + 1] + TEXT[at:])


class RoundTest(NotationCase):
    def test_texts_again(self):
        for _ in range(2):
            self.assertEqual(format_traffic(*parse_traffic(TEXT)), TEXT)
            self.assertEqual(timetable(*parse_traffic(TEXT)), timetable(example_road(), CARS))


if __name__ == "__main__":
    unittest.main()
