"""Promise 11: the text of a hall."""

import unittest

import simulation
from ticketwrap.errors import InvalidHall, TextFault
from ticketwrap.halls import Hall

GOOD = ["modulus 3", "takes 2 0", "calls 1", "lateness 2"]
NO_NUMBERS = ("", " ", "-1", "+1", "00", "01", "007", "100000", "000001", "1.0", "1,", "a", "0x1", "1_0", "\u0661",
              "\u00b2", "1\t", "\t1", "1\r")


def parts_of(hall):
    return hall.modulus, hall.takes, hall.calls, hall.lateness


class TestText(unittest.TestCase):
    def test_known(self):
        for parts, text in (
                ((2, (0,), (0,), 0), "modulus 2\ntakes 0\ncalls 0\nlateness 0"),
                ((10000, (9, 8), (1, 2, 3), 99), "modulus 10000\ntakes 9 8\ncalls 1 2 3\nlateness 99"),
                ((57, tuple(range(10)), (7,) * 12, 10),
                 "modulus 57\ntakes 0 1 2 3 4 5 6 7 8 9\ncalls 7 7 7 7 7 7 7 7 7 7 7 7\nlateness 10")):
            with self.subTest(text=text):
                self.assertEqual(Hall(*parts).text, text)
                self.assertEqual(parts_of(Hall.parse(text)), parts)

    def test_round_trip(self):
        for parts in simulation.hall_parts():
            hall = Hall.parse(Hall(*parts).text)
            with self.subTest(parts=parts):
                self.assertIsInstance(hall, Hall)
                self.assertEqual(parts_of(hall), parts)

    def test_a_parsed_hall_works(self):
        hall = Hall.parse("\n".join(GOOD))
        self.assertEqual([hall.period, hall.taken(3), hall.called(3), hall.text], [2, 4, 3, "\n".join(GOOD)])

    def test_parse_off_an_object(self):
        self.assertEqual(Hall(2, (1,), (1,), 0).parse("\n".join(GOOD)).modulus, 3)


class TestTextFault(unittest.TestCase):
    def assert_fault(self, text, line):
        with self.subTest(text=text):
            with self.assertRaises(TextFault) as caught:
                Hall.parse(text)
            self.assertEqual(caught.exception.line, line)
            self.assertIs(type(caught.exception.line), int)

    def assert_bad_line(self, line, text):
        lines = list(GOOD)
        lines[line] = text
        self.assert_fault("\n".join(lines), line)

    def test_missing_lines(self):
        for many in (1, 2, 3):
            self.assert_fault("\n".join(GOOD[:many]), many)
        self.assert_fault("", 0)

    def test_superfluous_lines(self):
        for more in ("", "lateness 2", "modulus 3", "undo", " "):
            self.assert_fault("\n".join(GOOD + [more]), 4)
            self.assert_fault("\n".join(GOOD + [more, more]), 4)
        self.assert_fault("\n" + "\n".join(GOOD), 0)
        self.assert_fault("\n\n".join(GOOD), 1)

    def test_another_word(self):
        for line, good in enumerate(GOOD):
            numbers = good.split(" ", 1)[1]
            for word in ("", "Modulus", "take", "call", "latenes", "x", "undo", "modulus:", "3", " " + good.split()[0]):
                self.assert_bad_line(line, word + " " + numbers)
            self.assert_bad_line(line, "")
            self.assert_bad_line(line, numbers)
            self.assert_bad_line(line, good.replace(" ", "", 1))
            self.assert_bad_line(line, good.upper())
            self.assert_bad_line(line, GOOD[line - 1])

    def test_swapped_lines(self):
        self.assert_fault("\n".join([GOOD[0], GOOD[2], GOOD[1], GOOD[3]]), 1)
        self.assert_fault("\n".join([GOOD[3], GOOD[1], GOOD[2], GOOD[0]]), 0)

    def test_invalid_numbers(self):
        for number in NO_NUMBERS:
            for line, word in enumerate(("modulus", "takes", "calls", "lateness")):
                self.assert_bad_line(line, word + " " + number)
            for line in (1, 2):
                self.assert_bad_line(line, GOOD[line] + " " + number)
                self.assert_bad_line(line, GOOD[line] + " " + number + " 1")

    def test_spaces(self):
        for line, good in enumerate(GOOD):
            self.assert_bad_line(line, good + " ")
            self.assert_bad_line(line, " " + good)
            self.assert_bad_line(line, good.replace(" ", "  ", 1))
            self.assert_bad_line(line, good.replace(" ", "\t", 1))

    def test_count_of_numbers(self):
        for line, word in ((0, "modulus"), (3, "lateness")):
            for numbers in ("", " 3 3", " 3 3 3"):
                self.assert_bad_line(line, word + numbers)

    def test_first_invalid_line(self):
        self.assert_fault("modulus 3\ntakes x\ncalls x\nlateness x\n", 1)
        self.assert_fault("modulus 3\ntakes 1\ncalls x", 2)
        self.assert_fault("modulus 3\ntakes x", 1)
        self.assert_fault("modulus 3\ntakes 1\ncalls 1\nlateness x\nundo", 3)

    def test_faults_come_before_invalid_halls(self):
        self.assert_fault("modulus 1\ntakes 10\ncalls 10\nlateness 100\n", 4)
        self.assert_fault("modulus 1\ntakes 10\ncalls 10", 3)
        self.assert_fault("modulus 1\ntakes 10\ncalls 10\nlateness 0100", 3)

    def test_no_text(self):
        for text in (None, True, False, 0, 3, (), tuple(GOOD), [], list(GOOD)):
            self.assert_fault(text, 0)


class TestInvalidHallOfText(unittest.TestCase):
    def assert_invalid(self, text, part, index):
        with self.subTest(text=text):
            with self.assertRaises(InvalidHall) as caught:
                Hall.parse(text)
            self.assertEqual((caught.exception.part, caught.exception.index), (part, index))

    def test_each_part(self):
        for number in ("0", "1", "10001", "99999"):
            self.assert_invalid(f"modulus {number}\ntakes 2 0\ncalls 1\nlateness 2", "modulus", 0)
        for number in ("10", "99", "99999"):
            self.assert_invalid(f"modulus 3\ntakes 2 {number}\ncalls 1\nlateness 2", "takes", 1)
            self.assert_invalid(f"modulus 3\ntakes 2 0\ncalls 1 1 1 {number}\nlateness 2", "calls", 3)
        for number in ("100", "99999"):
            self.assert_invalid(f"modulus 3\ntakes 2 0\ncalls 1\nlateness {number}", "lateness", 0)

    def test_length_of_patterns(self):
        self.assert_invalid("modulus 3\ntakes\ncalls 1\nlateness 2", "takes", 0)
        self.assert_invalid("modulus 3\ntakes 1\ncalls\nlateness 2", "calls", 0)
        self.assert_invalid("modulus 3\ntakes" + 13 * " 1" + "\ncalls 1\nlateness 2", "takes", 12)
        self.assert_invalid("modulus 3\ntakes 1\ncalls" + 14 * " 1" + "\nlateness 2", "calls", 12)

    def test_first_invalid_part(self):
        self.assert_invalid("modulus 1\ntakes\ncalls 10\nlateness 100", "modulus", 0)
        self.assert_invalid("modulus 2\ntakes 0 10\ncalls 10\nlateness 100", "takes", 1)


if __name__ == "__main__":
    unittest.main()
