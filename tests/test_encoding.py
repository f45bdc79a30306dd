"""Promise 12: halls as lists of bytes."""

import random
import unittest

import simulation
from ticketwrap.encoding import decode, encode
from ticketwrap.errors import InvalidCode
from ticketwrap.halls import Hall

GOOD = [84, 0, 3, 2, 2, 0, 1, 1, 2, 95]
NO_CODES = (None, True, False, 0, 84, "", "84", (), tuple(GOOD), (GOOD,), "T\x00\x03")
NO_BYTES = (-1, -256, 256, 257, 1024, 10 ** 30, -10 ** 30, True, False, None, "", "0", "T", (), (84,), [], [84], [[0]])


def parts_of(hall):
    return hall.modulus, hall.takes, hall.calls, hall.lateness


def bytes_of(parts):
    """Return the bytes of a hall, computed without the package."""
    modulus, takes, calls, lateness = parts
    data = b"T" + modulus.to_bytes(2, "big")
    for pattern in (takes, calls):
        data += bytes([len(pattern)]) + bytes(pattern)
    data += bytes([lateness])
    total = 0
    for byte in data:
        total = (total + byte) & 255
    return list(data + bytes([total]))


def some_parts():
    source = random.Random(40)
    parts = simulation.hall_parts() + simulation.small_hall_parts()[:100]
    for _ in range(300):
        parts.append((source.randint(2, 10000), simulation.pattern(source, 12, 9), simulation.pattern(source, 12, 9),
                      source.randint(0, 99)))
    for modulus in (2, 255, 256, 257, 511, 512, 9983, 9984, 9999, 10000):
        for length in (1, 12):
            parts.append((modulus, (9,) * length, (0,) * (13 - length), 99))
    return parts


def ranges_of(parts):
    """Return the list of the bytes that are possible at each place behind the bytes before it."""
    modulus, takes, calls, lateness = parts
    moduli = range(2, 10001)
    found = [range(84, 85), range(0, 40), [other % 256 for other in moduli if other // 256 == modulus // 256]]
    for pattern in (takes, calls):
        found += [range(1, 13)] + [range(0, 10)] * len(pattern)
    return found + [range(0, 100), [sum(bytes_of(parts)[:-1]) % 256]]


class TestBytes(unittest.TestCase):
    def test_known(self):
        for parts, code in (
                ((3, (2, 0), (1,), 2), GOOD),
                ((2, (0,), (0,), 0), [84, 0, 2, 1, 0, 1, 0, 0, 88]),
                ((256, (9,), (8, 7), 99), [84, 1, 0, 1, 9, 2, 8, 7, 99, 211]),
                ((255, (0,), (0,), 0), [84, 0, 255, 1, 0, 1, 0, 0, 85]),
                # The sums of the bytes before the checksum are 255, 256, 257 and 478.
                ((100, (0,), (0,), 69), [84, 0, 100, 1, 0, 1, 0, 69, 255]),
                ((100, (0,), (0,), 70), [84, 0, 100, 1, 0, 1, 0, 70, 0]),
                ((100, (0,), (0,), 71), [84, 0, 100, 1, 0, 1, 0, 71, 1]),
                ((10000, (9,) * 12, (9,) * 12, 99), [84, 39, 16, 12] + [9] * 12 + [12] + [9] * 12 + [99, 222])):
            with self.subTest(parts=parts):
                self.assertEqual(encode(Hall(*parts)), code)
                self.assertEqual(parts_of(decode(code)), parts)

    def test_there_and_back(self):
        for parts in some_parts():
            hall = Hall(*parts)
            with self.subTest(parts=parts):
                code = encode(hall)
                self.assertIs(type(code), list)
                self.assertEqual(code, bytes_of(parts))
                decoded = decode(code)
                self.assertIsInstance(decoded, Hall)
                self.assertEqual(parts_of(decoded), parts)
                self.assertEqual(encode(decoded), code)

    def test_a_decoded_hall_works(self):
        hall = decode(list(GOOD))
        self.assertEqual([hall.period, hall.taken(3), hall.called(3), hall.text],
                         [2, 4, 3, "modulus 3\ntakes 2 0\ncalls 1\nlateness 2"])

    def test_all_moduli(self):
        for modulus in range(2, 10001):
            code = encode(Hall(modulus, (1,), (1,), 0))
            self.assertEqual(code[1:3], [modulus // 256, modulus % 256])
            self.assertEqual(decode(code).modulus, modulus)

    def test_lists_are_new_and_arguments_stay_as_they_are(self):
        hall = Hall(3, (2, 0), (1,), 2)
        first = encode(hall)
        first[0] = 7
        first.append(8)
        self.assertEqual(encode(hall), GOOD)
        code = list(GOOD)
        decoded = decode(code)
        self.assertEqual(code, GOOD)
        code[2] = 5
        code.clear()
        self.assertEqual(parts_of(decoded), (3, (2, 0), (1,), 2))


class TestInvalidCode(unittest.TestCase):
    def assert_invalid(self, code, place):
        with self.assertRaises(InvalidCode, msg=str(code)) as caught:
            decode(code)
        self.assertEqual(caught.exception.place, place, code)
        self.assertIs(type(caught.exception.place), int)

    def test_no_list(self):
        for code in NO_CODES:
            self.assert_invalid(code, 0)

    def test_codes_that_are_cut(self):
        for parts in some_parts():
            code = bytes_of(parts)
            for many in range(len(code)):
                self.assert_invalid(code[:many], many)

    def test_codes_that_are_extended(self):
        for parts in some_parts():
            code = bytes_of(parts)
            for more in (0, code[-1], 84, 256, -1, True, None, "", (), []):
                self.assert_invalid(code + [more], len(code))
                self.assert_invalid(code + [more, 0], len(code))
            self.assert_invalid(code + code, len(code))

    def test_each_byte_of_each_place(self):
        for parts in ((3, (2, 0), (1,), 2), (10000, (9,), (9, 0, 1), 99), (2, (0,) * 12, (5,) * 12, 0),
                      (255, (1,), (1,), 1), (256, (1,), (1,), 1), (9984, (0, 0), (0,), 0)):
            code = bytes_of(parts)
            for place, possible in enumerate(ranges_of(parts)):
                for byte in range(-2, 259):
                    if byte not in possible:
                        self.assert_invalid(code[:place] + [byte] + code[place + 1:], place)
                        self.assert_invalid(code[:place] + [byte], place)

    def test_what_is_no_byte_in_each_place(self):
        for parts in ((3, (2, 0), (1,), 2), (2, (0, 1), (1, 0), 0), (257, (1,), (1,), 1), (10000, (1,), (1,), 99)):
            code = bytes_of(parts)
            for place in range(len(code)):
                for wrong in NO_BYTES:
                    self.assert_invalid(code[:place] + [wrong] + code[place + 1:], place)
                    self.assert_invalid(code[:place] + [wrong] * 3, place)

    def test_true_and_false_instead_of_1_and_0(self):
        # All bytes of this code that can be 0 or 1 are, its checksum too.
        code = bytes_of((256 + 100, (0,), (1,), 68))
        self.assertEqual(code, [84, 1, 100, 1, 0, 1, 1, 68, 0])
        for place, byte in enumerate(code):
            if byte in (0, 1):
                self.assert_invalid(code[:place] + [byte == 1] + code[place + 1:], place)

    def test_moduli(self):
        for high, low, place in ((0, 0, 2), (0, 1, 2), (39, 17, 2), (39, 255, 2), (40, 0, 1), (40, 16, 1),
                                 (255, 255, 1), (-1, 2, 1), (0, -1, 2), (0, 256, 2), (38, 256, 2), (39, -1, 2),
                                 (40, 256, 1)):
            code = [84, high, low] + GOOD[3:]
            self.assert_invalid(code, place)
            self.assert_invalid(code[:3], place)
        self.assert_invalid([84, 0], 2)
        self.assert_invalid([84, 39], 2)
        self.assert_invalid([84, 40], 1)
        self.assert_invalid([84, 0, 1], 2)

    def test_other_lengths(self):
        # A length that is possible, but not the right one, gives the following bytes another meaning.
        self.assert_invalid([84, 0, 3, 1, 2, 0, 1, 1, 2, 95], 5)
        self.assert_invalid([84, 0, 3, 3, 2, 0, 1, 1, 2, 95], 10)
        self.assert_invalid([84, 0, 3, 4, 2, 0, 1, 1, 2, 95], 9)
        self.assert_invalid([84, 0, 3, 5, 2, 0, 1, 1, 2, 95], 9)
        self.assert_invalid([84, 0, 3, 12, 2, 0, 1, 1, 2, 3], 10)
        self.assert_invalid([84, 0, 3, 2, 2, 0, 2, 1, 2, 95], 10)
        self.assert_invalid([84, 0, 3, 2, 2, 0, 2, 1, 10, 95], 8)
        self.assert_invalid([84, 0, 3, 13] + [1] * 13 + [1, 1, 0, 0], 3)
        self.assert_invalid([84, 0, 3, 0, 1, 1, 0, 89], 3)
        self.assert_invalid([84, 0, 3, 1, 1, 0, 0, 89], 5)

    def test_the_first_invalid_byte(self):
        self.assert_invalid([85, 40, 0, 0, 10, 0, 10, 100, 0, 0], 0)
        self.assert_invalid([84, 0, 1, 0, 10], 2)
        self.assert_invalid([84, 0, 3, 13, 10], 3)
        self.assert_invalid([84, 0, 3, 1, 10, 13], 4)
        self.assert_invalid([84, 0, 3, 1, 1, 1, 1, 100, 0, 0], 7)
        self.assert_invalid([84, 0, 3, 1, 1, 1, 1, 99, 0, 0], 8)
        self.assert_invalid([84, 0, 3, None], 3)

    def test_wrong_checksums(self):
        for parts in some_parts()[:150]:
            code = bytes_of(parts)
            for byte in range(256):
                if byte != code[-1]:
                    self.assert_invalid(code[:-1] + [byte], len(code) - 1)
            self.assert_invalid(code[:-1] + [code[-1] + 256], len(code) - 1)
            self.assert_invalid(code[:-1] + [code[-1] - 256], len(code) - 1)

    def test_the_code_stays_as_it_is(self):
        code = [84, 0, 3, 2, 2, 0, True, [1], None]
        self.assert_invalid(code, 6)
        self.assertEqual(repr(code), "[84, 0, 3, 2, 2, 0, True, [1], None]")


if __name__ == "__main__":
    unittest.main()
