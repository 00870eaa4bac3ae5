"""Traffic as bytes (point 17 of the document)."""

import inspect
import random
import unittest

from live_case import short_road
from outcomes import outcome, raises, returns
from plain_codec import plain_checksum, plain_decode, plain_encode, sealed
from random_traffic import random_cars, random_sections
from slowleaders.codec import decode_traffic, encode_traffic, pack_bytes, unpack_bytes
from slowleaders.errors import DecodeError, InvalidCount
from slowleaders.roads import Road
from traffic_case import CARS, TEN, TrafficCase, example_road
from wrong_values import NOT_INTEGERS

# The road and the cars of the example up to the checksum; tom, ann and bob are at 9, 15 and 21.
VALUES = [
    82, 3, 0, 10, 1, 5, 0, 10, 3, 3, 19, 14, 12, 0, 6, 3, 0, 13, 13, 5, 2, 3, 1, 14, 1, 10, 4,
]
# A road with a car "a" that starts at 10 ** 6; the start is at 6, 7 and 8.
LATE = [82, 1, 0, 9, 1, 1, 0, 192, 132, 61, 7]


class CodecCase(TrafficCase):
    def assert_offset(self, offset, data):
        self.assertEqual(outcome(decode_traffic, data), raises("DecodeError", offset=offset), list(data))

    def assert_read(self, data, sections, cars):
        road, found = decode_traffic(data)
        self.assertEqual((road.sections, found), (sections, cars))

    def check(self, data):
        """Compare with the plain reader, and return whether the bytes are read."""
        found = outcome(decode_traffic, data)
        if found[0] == "returns":
            road, cars = found[1]
            found = returns((road.sections, cars))
            self.assertEqual(encode_traffic(road, cars), data)
        self.assertEqual(found, plain_decode(data), list(data))
        return found[0] == "returns"


class ExamplesTest(CodecCase):
    def test_pack_bytes(self):
        self.assertEqual(unpack_bytes(pack_bytes([82, 0, 255])), [82, 0, 255])

    def test_traffic(self):
        self.assertEqual(decode_traffic(encode_traffic(short_road(), (("a", 0, 3),)))[1], (("a", 0, 3),))

    def test_decode_error(self):
        self.assert_offset(1, pack_bytes([82, 13]))


class InterfaceTest(CodecCase):
    def test_parameters(self):
        for function, parameters in (
            (pack_bytes, ["values"]), (unpack_bytes, ["data"]), (encode_traffic, ["road", "cars"]),
            (decode_traffic, ["data"]),
        ):
            self.assertEqual(list(inspect.signature(function).parameters), parameters)
            self.assertEqual(function.__module__, "slowleaders.codec")


class PackTest(CodecCase):
    def test_all_values(self):
        values = list(range(256))
        self.assertEqual(pack_bytes(values), bytes(range(256)))
        self.assertEqual(unpack_bytes(bytes(range(256))), values)
        self.assertEqual((pack_bytes([]), unpack_bytes(b"")), (b"", []))
        for value in values:
            self.assertEqual(unpack_bytes(pack_bytes([value])), [value])

    def test_kinds_of_values(self):
        self.assertIs(type(pack_bytes([1])), bytes)
        self.assertIs(type(unpack_bytes(b"a")), list)
        self.assertIs(type(unpack_bytes(b"a")[0]), int)

    def test_numbers_that_are_no_bytes(self):
        for wrong in [-1, 256, 1000, 10 ** 30, -10 ** 30, *NOT_INTEGERS]:
            with self.subTest(wrong=wrong):
                for values in ([wrong], [1, 2, wrong], [wrong, 3], [0, wrong, 0]):
                    with self.assertRaises(InvalidCount):
                        pack_bytes(values)

    def test_no_lists(self):
        for wrong in (None, True, False, 0, 3, -1, "", "ab", (), (1, 2), ((1, 2),)):
            with self.subTest(wrong=wrong), self.assertRaises(InvalidCount):
                pack_bytes(wrong)

    def test_lists_are_not_kept(self):
        values = [1, 2, 3]
        data = pack_bytes(values)
        values[0] = 9
        unpack_bytes(data).clear()
        self.assertEqual((data, unpack_bytes(data)), (bytes([1, 2, 3]), [1, 2, 3]))


class EncodeTest(CodecCase):
    def test_example(self):
        self.assertEqual(list(encode_traffic(example_road(), CARS)), [*VALUES, plain_checksum(VALUES)])

    def test_checksum(self):
        # 2 -> 92 -> 461 % 233 = 228 -> 1141 % 233 = 209 -> 1046 % 233 = 114 -> 570 % 233 = 104
        self.assertEqual(list(encode_traffic(Road(("wide", 1)), ())), [82, 1, 1, 1, 0, 104])

    def test_no_cars(self):
        values = [82, 2, 0, 99, 1, 1, 0]
        self.assertEqual(encode_traffic(Road(("narrow", 99), ("wide", 1)), ()), sealed(values))

    def test_starts(self):
        for start, values in (
            (0, [0]), (1, [1]), (127, [127]), (128, [128, 1]), (129, [129, 1]), (255, [255, 1]), (256, [128, 2]),
            (16383, [255, 127]), (16384, [128, 128, 1]), (16385, [129, 128, 1]), (999999, [191, 132, 61]),
            (10 ** 6, [192, 132, 61]),
        ):
            found = encode_traffic(Road(("wide", 1)), (("z", start, 60),))
            self.assertEqual(list(found[:-1]), [82, 1, 1, 1, 1, 1, 25, *values, 60])
            self.assert_read(found, (("wide", 1),), (("z", start, 60),))

    def test_names(self):
        found = encode_traffic(Road(("wide", 1)), (("abcdefgh", 0, 1), ("z", 0, 1)))
        self.assertEqual(list(found[4:-1]), [2, 8, 0, 1, 2, 3, 4, 5, 6, 7, 0, 1, 1, 25, 0, 1])

    def test_adjacent_sections_of_one_kind(self):
        road = Road(("narrow", 1), ("narrow", 2))
        self.assertEqual(list(encode_traffic(road, ())[:-1]), [82, 2, 0, 1, 0, 2, 0])
        self.assert_read(encode_traffic(road, ()), road.sections, ())

    def test_invalid_cars(self):
        self.check_invalid_cars(lambda cars: encode_traffic(example_road(), cars))

    def test_plain_bytes(self):
        source = random.Random(101)
        for _ in range(500):
            sections, cars = random_sections(source, 12, 99), random_cars(source, 10, 10 ** 6, 60)
            data = encode_traffic(Road(*sections), cars)
            self.assertIs(type(data), bytes)
            self.assertEqual(data, plain_encode(sections, cars))
            self.assert_read(data, tuple(sections), cars)
            self.assertTrue(self.check(data))


class DecodeTest(CodecCase):
    def test_example(self):
        self.assert_read(sealed(VALUES), example_road().sections, CARS)
        self.assert_read(sealed(LATE), (("narrow", 9),), (("a", 10 ** 6, 7),))

    def test_limits(self):
        sections = tuple((("narrow", "wide")[at % 2], (1, 99)[at % 2]) for at in range(12))
        cars = (("abcdefgh", 0, 1), ("z", 10 ** 6, 60), *TEN[:8])
        self.assert_read(plain_encode(sections, cars), sections, cars)

    def test_kinds_of_values(self):
        found = decode_traffic(sealed(VALUES))
        self.assertIs(type(found), tuple)
        self.assertIsInstance(found[0], Road)
        self.assertEqual({type(value) for value in (found[1], *found[1])}, {tuple})
        self.assertEqual([type(value) for value in found[1][0]], [str, int, int])

    def test_cut_off(self):
        for values in (VALUES, LATE):
            data = sealed(values)
            for many in range(len(data)):
                self.assert_offset(many, data[:many])

    def test_limits_of_each_byte(self):
        # At these offsets, the bytes from the first to the last number are allowed.
        for offset, first, last in (
            (0, 82, 82), (1, 1, 12), (2, 0, 1), (3, 1, 99), (4, 0, 1), (5, 1, 99), (8, 0, 10), (9, 1, 8),
            (10, 0, 25), (12, 0, 25), (14, 1, 60), (15, 1, 8), (26, 1, 60),
        ):
            for value in range(256):
                values = list(VALUES)
                values[offset] = value
                found = outcome(decode_traffic, sealed(values))
                if value < first or value > last:
                    self.assertEqual(found, raises("DecodeError", offset=offset))
                else:
                    self.assertNotEqual(found, raises("DecodeError", offset=offset))

    def test_checksum(self):
        data = sealed(VALUES)
        for value in range(256):
            if value != data[-1]:
                self.assert_offset(len(VALUES), bytes([*VALUES, value]))

    def test_byte_after_the_checksum(self):
        for value in (0, 1, 82, 255):
            self.assert_offset(len(VALUES) + 1, sealed(VALUES) + bytes([value]))
            self.assert_offset(len(VALUES) + 1, sealed(VALUES) + bytes([value, value]))
        self.assert_offset(len(VALUES) + 1, sealed(VALUES) * 2)

    def test_repeated_names(self):
        cars = VALUES[:9]
        tom, short_tom = [3, 19, 14, 12], [2, 19, 14]
        self.assert_offset(15, sealed([*cars, *tom, 0, 6, *tom, 0, 6, *tom, 0, 6]))
        self.assert_offset(20, sealed([*cars, *tom, 0, 6, *short_tom, 0, 6, *tom, 0, 6]))
        self.assert_offset(15, bytes([*cars, *tom, 0, 6, *tom]))
        self.assert_offset(15, bytes([*cars, *tom, 0, 6, *tom, 255, 255]))
        # The name is reported when it has been read.
        self.assert_offset(18, bytes([*cars, *tom, 0, 6, 3, 19, 14]))
        self.assert_offset(18, bytes([*cars, *tom, 0, 6, 3, 19, 14, 26]))
        self.assert_read(
            sealed([82, 1, 0, 9, 2, *tom, 0, 6, *short_tom, 0, 6]), (("narrow", 9),), (("tom", 0, 6), ("to", 0, 6))
        )

    def test_great_starts(self):
        for start in ([193, 132, 61], [192, 133, 61], [192, 132, 62], [255, 255, 127], [128, 128, 128, 1]):
            self.assert_offset(7, sealed([*LATE[:7], *start, 7]))
            self.assert_offset(7, sealed([*LATE[:7], *start, 0]))
            self.assert_offset(7, bytes([*LATE[:7], *start]))
        self.assert_offset(7, bytes([*LATE[:7], *[128] * 40, 1]))
        self.assert_offset(7, bytes([*LATE[:7], *[255] * 40, 127]))
        # Its last byte is missing.
        self.assert_offset(10, bytes([*LATE[:7], 193, 132, 189]))

    def test_last_byte_of_0(self):
        for start in ([128, 0], [255, 0], [192, 132, 0], [192, 132, 189, 0], [128] * 9 + [0]):
            self.assert_offset(6 + len(start), sealed([*LATE[:7], *start, 7]))
            self.assert_offset(6 + len(start), sealed([*LATE[:7], *start, 0]))
            self.assert_offset(6 + len(start), bytes([*LATE[:7], *start]))
        self.assert_read(sealed([*LATE[:7], 0, 7]), (("narrow", 9),), (("a", 0, 7),))
        self.assert_read(sealed([*LATE[:7], 128, 128, 1, 7]), (("narrow", 9),), (("a", 16384, 7),))

    def test_first_invalid_byte(self):
        values = list(VALUES)
        values[26] = 61
        self.assert_offset(26, bytes([*values, 0]))
        values[14] = 0
        self.assert_offset(14, bytes([*values, 0]))
        values[3] = 100
        self.assert_offset(3, bytes([*values, 0]))
        self.assert_offset(3, bytes(values[:20]))
        values[0] = 0
        self.assert_offset(0, bytes(values[:1]))

    def test_no_bytes(self):
        self.assert_offset(0, b"")
        for value in (0, 81, 83, 255):
            self.assert_offset(0, bytes([value]))
        self.assert_offset(1, bytes([82]))

    def test_no_bytes_but_other_values(self):
        for data in (None, True, False, 0, 82, "", "R", (), tuple(sealed(VALUES)), [], list(sealed(VALUES))):
            with self.subTest(data=data):
                self.assertEqual(outcome(decode_traffic, data), raises("DecodeError", offset=0))

    def test_errors_again(self):
        for _ in range(3):
            with self.assertRaises(DecodeError):
                decode_traffic(bytes(VALUES))
            self.assert_read(sealed(VALUES), example_road().sections, CARS)


class PlainReaderTest(CodecCase):
    def resealed(self, data):
        return sealed(list(data[:-1]))

    def test_each_byte_changed(self):
        for values in (VALUES, LATE):
            data = sealed(values)
            for at in range(len(data)):
                for value in range(256):
                    changed = data[:at] + bytes([value]) + data[at + 1:]
                    self.assertEqual(self.check(changed), changed == data)
                    self.check(self.resealed(changed))

    def test_each_byte_left_out_and_repeated(self):
        source = random.Random(102)
        for _ in range(60):
            data = plain_encode(random_sections(source, 4, 99), random_cars(source, 4, 10 ** 6, 60))
            for at in range(len(data)):
                for changed in (data[:at] + data[at + 1:], data[:at] + data[at:at + 1] + data[at:], data[:at]):
                    self.check(changed)
                    if changed:
                        self.check(self.resealed(changed))

    def test_drawn_changes(self):
        source = random.Random(103)
        read = []
        for _ in range(6000):
            data = list(plain_encode(random_sections(source, 4, 99), random_cars(source, 4, 10 ** 6, 60)))
            for _ in range(source.choice([1, 1, 2, 4])):
                at = source.randrange(len(data))
                value = source.choice([source.randint(0, 255), data[at] ^ 1 << source.randint(0, 7), 0, 1, 128, 255])
                data[at:at + source.randint(0, 1)] = source.choice([[value], [value], [value], [], [data[at]] * 2])
                data = data or [82]
            read.append(self.check(self.resealed(bytes(data)) if source.random() < 0.7 else bytes(data)))
        self.assertTrue(set(read) == {True, False})
        self.assertGreater(read.count(True), 500)

    def test_drawn_names(self):
        # Few letters, so that names are often repeated.
        source = random.Random(104)
        for _ in range(2000):
            values = [82, 1, source.randint(0, 1), 5, source.randint(0, 5)]
            for _ in range(values[4]):
                letters = [source.choice([0, 0, 1, 25, 26]) for _ in range(source.randint(1, 3))]
                many = source.choice([len(letters)] * 9 + [0, 9])
                start = [source.choice([128, 129, 255]) for _ in range(source.choice([0, 0, 0, 1, 2, 3]))]
                values += [many, *letters, *start, source.choice([0, 1, 5, 61, 127]), source.choice([1, 1, 1, 60, 61])]
            data = sealed(values)
            self.check(data)
            self.check(data[:source.randint(0, len(data))])

    def test_drawn_bytes(self):
        source = random.Random(105)
        for _ in range(3000):
            self.check(bytes([82, *source.choices(range(3), k=source.randint(0, 12))]))
            self.check(bytes(source.choices([82, 0, 1, 2, 3, 99, 128, 255], k=source.randint(0, 12))))


if __name__ == "__main__":
    unittest.main()
