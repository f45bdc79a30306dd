"""Promise 15: sessions, a hall and operations as a text."""

import random
import unittest

import simulation
import states
from ticketwrap.bench import Bench, format_session, parse_session
from ticketwrap.errors import InvalidHall, InvalidOperation, TextFault
from ticketwrap.halls import Hall

HALL = "modulus 3\ntakes 2 0\ncalls 1\nlateness 2"
# Lines that are no operations.
NO_LINES = (
    "", " ", "x", "Undo", "UNDO", "undo ", " undo", "redo ", " redo", "undo undo", "undo redo", "undo 1", "undo 0",
    "redo 1 2", "undo x", "redo -1", "undone", "modulus", "modulus ", " modulus 7", "modulus 7 ", "modulus  7",
    "modulus 7 7", "modulus 7 8 9", "modulus x", "modulus -7", "modulus +7", "modulus 07", "modulus 000007",
    "modulus 100000", "modulus 7.0", "modulus\t7", "modulus7", "Modulus 7", "modulus (7,)", "modulus None",
    "lateness", "lateness 1 1", "lateness 01", "lateness 000001", "lateness x", "lateness 1 x", "lateness  1",
    "takes ", "takes  1", "takes 1 ", "takes 1  1", "takes 1 x", "takes 01", "takes 1 00", "takes 100000", "takes -1",
    "takes 1,1", "takes (1, 1)", "take 1", "take", "calls ", "calls 1 01", "calls 1 -", "calls 123456", "call 1",
    "text", "save x", "restore x", "batch", "period 2", "7", "1 1", "modulus: 7", "modulus 7;undo", "undo\r")
# Lines of operations that fail.
FAILING = ("modulus 0", "modulus 1", "modulus 10001", "modulus 99999", "lateness 100", "lateness 99999", "takes",
           "calls", "takes 10", "takes 1 10", "calls 99999", "takes" + " 1" * 13, "calls" + " 0" * 14)


def line_of(operation):
    """Return the line of an operation, written without the package."""
    word, *arguments = operation
    if word in ("takes", "calls"):
        arguments = arguments[0]
    return " ".join([word, *map(str, arguments)])


def random_session(source):
    """Return the parts of a hall and a list of operations."""
    parts = (source.choice((2, 3, 10000)), simulation.pattern(source, 12, 9), simulation.pattern(source, 12, 9),
             source.choice((0, 99)))
    return parts, [states.random_operation(source) for _ in range(source.randint(0, 12))]


class SessionCase(unittest.TestCase):
    def assert_fault(self, text, line):
        with self.subTest(text=text):
            with self.assertRaises(TextFault) as caught:
                parse_session(text)
            self.assertEqual(caught.exception.line, line)
            self.assertIs(type(caught.exception.line), int)

    def assert_invalid_hall(self, text, part, index):
        with self.subTest(text=text):
            with self.assertRaises(InvalidHall) as caught:
                parse_session(text)
            self.assertEqual((caught.exception.part, caught.exception.index), (part, index))

    def assert_invalid_operation(self, text, place):
        with self.subTest(text=text):
            with self.assertRaises(InvalidOperation) as caught:
                parse_session(text)
            self.assertEqual(caught.exception.place, place)
            self.assertIs(type(caught.exception.place), int)


class TestThereAndBack(SessionCase):
    def test_random_sessions(self):
        source = random.Random(70)
        for _ in range(250):
            parts, operations = random_session(source)
            hall_text = states.text_of(parts)
            text = "\n".join([hall_text] + [line_of(operation) for operation in operations])
            with self.subTest(text=text):
                self.assertEqual(format_session(Hall(*parts), operations), text)
                self.assertEqual(parse_session(text), (hall_text, operations))

    def test_against_single_calls(self):
        source = random.Random(71)
        for _ in range(100):
            parts, operations = random_session(source)
            hall_text, found = parse_session(format_session(Hall(*parts), operations))
            bench, other = Bench.replay(Hall.parse(hall_text), found), Bench(Hall(*parts))
            for operation in operations:
                states.call(other, operation)
            with self.subTest(parts=parts, operations=operations):
                self.assertEqual(states.complete_state(bench), states.complete_state(other))

    def test_known(self):
        operations = [("takes", (1, 1)), ("undo",), ("modulus", 10000), ("redo",), ("calls", (0,) * 12),
                      ("lateness", 99), ("undo",), ("undo",), ("undo",), ("undo",), ("redo",)]
        text = (HALL + "\ntakes 1 1\nundo\nmodulus 10000\nredo\ncalls 0 0 0 0 0 0 0 0 0 0 0 0\nlateness 99"
                + "\nundo" * 4 + "\nredo")
        self.assertEqual(format_session(Hall(*states.START), operations), text)
        self.assertEqual(parse_session(text), (HALL, operations))

    def test_without_operations(self):
        self.assertEqual(format_session(Hall(*states.START), []), HALL)
        self.assertEqual(parse_session(HALL), (HALL, []))

    def test_undo_and_redo_alone(self):
        operations = [("undo",), ("redo",), ("redo",), ("undo",)]
        text = HALL + "\nundo\nredo\nredo\nundo"
        self.assertEqual(format_session(Hall(*states.START), operations), text)
        self.assertEqual(parse_session(text), (HALL, operations))

    def test_kinds(self):
        found = parse_session(HALL + "\nmodulus 7\ntakes 1\nundo")
        self.assertEqual([type(found), type(found[0]), type(found[1])], [tuple, str, list])
        self.assertEqual([type(entry) for entry in found[1]], [tuple] * 3)
        self.assertEqual([type(found[1][0][1]), type(found[1][1][1])], [int, tuple])


class TestFormatSession(SessionCase):
    def assert_format_fails(self, operations, place):
        with self.subTest(operations=operations):
            with self.assertRaises(InvalidOperation) as caught:
                format_session(Hall(*states.START), operations)
            self.assertEqual(caught.exception.place, place)

    def test_no_list(self):
        for operations in states.NO_LISTS:
            self.assert_format_fails(operations, 0)

    def test_malformed_entries_and_failures(self):
        failures = tuple((part, value) for part, value, _ in states.INVALID)
        for entry in states.MALFORMED + failures:
            self.assert_format_fails([entry], 0)
            self.assert_format_fails([("undo",), ("takes", (1,)), entry, None], 2)

    def test_the_first_of_both_counts(self):
        self.assert_format_fails([("modulus", 1), ("x",)], 0)
        self.assert_format_fails([("undo",), ("x",), ("modulus", 1)], 1)

    def test_arguments_stay_as_they_are(self):
        hall = Hall(*states.START)
        operations = [("modulus", 7), ("takes", (1, 2)), ("undo",)]
        text = format_session(hall, operations)
        self.assertEqual([operations, hall.text], [[("modulus", 7), ("takes", (1, 2)), ("undo",)], HALL])
        self.assertEqual(format_session(hall, operations), text)


class TestParseSession(SessionCase):
    def test_no_text(self):
        for text in (None, True, False, 0, 4, (), [], tuple(HALL.split("\n")), HALL.split("\n"), (HALL,)):
            self.assert_fault(text, 0)

    def test_the_first_four_lines(self):
        lines = HALL.split("\n")
        for many in range(4):
            self.assert_fault("\n".join(lines[:many]), many)
            following = lines[many + 1:]
            for wrong in ("", "undo", "redo", "x", "lateness", "calls 01", "modulus 3 3", "lateness x",
                          lines[many - 1], lines[many] + " ", " " + lines[many]):
                for rest in (following, following + ["x"], ["modulus 1"], following + ["modulus 1"]):
                    self.assert_fault("\n".join(lines[:many] + [wrong] + rest), many)
        self.assert_fault("", 0)
        self.assert_fault("undo", 0)
        self.assert_fault("\n" + HALL, 0)
        self.assert_fault("modulus 3\nundo\n" + HALL, 1)

    def test_each_invalid_line(self):
        for line in NO_LINES:
            self.assert_fault(HALL + "\n" + line, 4)
            self.assert_fault(HALL + "\n" + line + "\n" + line, 4)
            self.assert_fault(HALL + "\nundo\nmodulus 7\n" + line + "\nundo", 6)
            # Invalid lines come before operations that fail.
            self.assert_fault(HALL + "\nmodulus 1\n" + line, 5)
            self.assert_fault(HALL + "\ntakes\nlateness 100\n" + line + "\nmodulus 1", 6)

    def test_a_line_feed_at_the_end(self):
        self.assert_fault(HALL + "\n", 4)
        self.assert_fault(HALL + "\nundo\n", 5)
        self.assert_fault(HALL + "\n\nundo", 4)

    def test_each_operation_that_fails(self):
        for line in FAILING:
            self.assert_invalid_operation(HALL + "\n" + line, 0)
            self.assert_invalid_operation(HALL + "\nundo\nmodulus 7\n" + line + "\nmodulus 0", 2)

    def test_invalid_halls_come_before_the_following_lines(self):
        for rest in ("", "\nundo", "\nx", "\n", "\nmodulus 1", "\nmodulus 1\nx"):
            self.assert_invalid_hall("modulus 1\ntakes 2 0\ncalls 1\nlateness 2" + rest, "modulus", 0)
            self.assert_invalid_hall("modulus 3\ntakes 2 10\ncalls 1\nlateness 2" + rest, "takes", 1)
            self.assert_invalid_hall("modulus 3\ntakes\ncalls 10\nlateness 2" + rest, "takes", 0)
            self.assert_invalid_hall("modulus 3\ntakes 2 0\ncalls" + " 1" * 13 + "\nlateness 2" + rest, "calls", 12)
            self.assert_invalid_hall("modulus 3\ntakes 2 0\ncalls 1\nlateness 100" + rest, "lateness", 0)

    def test_faults_of_the_first_lines_come_before_invalid_halls(self):
        self.assert_fault("modulus 1\ntakes 10\ncalls 10\nlateness", 3)
        self.assert_fault("modulus 1\ntakes 10\ncalls 10", 3)
        self.assert_fault("modulus 1\ntakes 10\nundo\nx", 2)
        self.assert_fault("modulus 10001\ntakes x\ncalls x\nlateness x\nx\nmodulus 1", 1)

    def test_superfluous_lines_of_halls_are_operations(self):
        self.assertEqual(parse_session(HALL + "\nlateness 2\nmodulus 3")[1], [("lateness", 2), ("modulus", 3)])
        self.assertEqual(parse_session(HALL + "\n" + HALL)[1],
                         [("modulus", 3), ("takes", (2, 0)), ("calls", (1,)), ("lateness", 2)])

    def test_lists_are_new(self):
        text = HALL + "\nmodulus 7\nundo"
        first = parse_session(text)[1]
        first.append(("redo",))
        first[0] = None
        self.assertEqual(parse_session(text)[1], [("modulus", 7), ("undo",)])

    def test_undo_and_redo_are_no_lines_of_halls(self):
        for text in (HALL + "\nundo", HALL + "\nmodulus 7"):
            with self.assertRaises(TextFault) as caught:
                Hall.parse(text)
            self.assertEqual(caught.exception.line, 4)


if __name__ == "__main__":
    unittest.main()
