"""Promise 1 over the whole program, and the names of the interface in their files."""

import copy
import importlib
import inspect
import random
import unittest

import simulation
import states
from ticketwrap import errors
from ticketwrap.bench import Bench, format_session, parse_session
from ticketwrap.clashes import (first_clash, first_mistake, holders, least_colors, mistaken, most_open,
                                open_tickets)
from ticketwrap.comparison import first_difference, first_error
from ticketwrap.encoding import decode, encode
from ticketwrap.halls import Hall
from ticketwrap.planning import greatest_lateness, least_modulus, plan_calls
from ticketwrap.times import display, longest_wait, ticket_times
from ticketwrap.watching import Watcher

# The functions of each file with their arguments; classes with theirs, and then their methods and properties.
FUNCTIONS = {
    "times": {"ticket_times": "hall number", "display": "hall tick", "longest_wait": "hall"},
    "clashes": {"open_tickets": "hall tick", "most_open": "hall", "first_clash": "hall", "least_colors": "hall",
                "holders": "hall tick digits", "mistaken": "hall tick", "first_mistake": "hall"},
    "planning": {"plan_calls": "hall limit", "least_modulus": "hall", "greatest_lateness": "hall"},
    "comparison": {"first_difference": "hall other", "first_error": "hall log"},
    "encoding": {"encode": "hall", "decode": "code"},
    "bench": {"format_session": "hall operations", "parse_session": "text"}}
METHODS = {
    ("halls", "Hall"): {"__init__": "modulus takes calls lateness", "taken": "tick", "called": "tick",
                        "waiting": "tick", "events": "start end", "parse": "text"},
    ("watching", "Watcher"): {"__init__": "hall", "see": "digits", "see_all": "displays", "waits": "digits"},
    ("bench", "Bench"): {"__init__": "hall", "set_modulus": "modulus", "set_takes": "takes", "set_calls": "calls",
                         "set_lateness": "lateness", "undo": "", "redo": "", "save": "name", "restore": "name",
                         "batch": "operations", "replay": "hall operations"}}
PROPERTIES = {("halls", "Hall"): ("period", "growth", "text"),
              ("watching", "Watcher"): ("candidates", "history", "next_displays"),
              ("bench", "Bench"): ("text", "operations")}
HALL_TEXT = states.text_of(states.START)


def state_of(call):
    """Return what a call returns, or the error with its attributes."""
    try:
        found = call()
    except errors.HallError as error:
        return type(error), vars(error)
    if isinstance(found, (Hall, Bench)):
        return found.text
    return found


def calls_of(hall, other, watcher, bench):
    """Return many calls over the same objects that change none of them."""
    log = [display(other, tick) for tick in range(20)]
    operations = [("modulus", 9), ("undo",), ("takes", (1, 2)), ("calls", (10,))]
    code = encode(other)
    calls = [lambda: hall.period, lambda: hall.growth, lambda: hall.text, lambda: Hall.parse(other.text),
             lambda: list(hall.events(3, 7)), lambda: list(hall.events(-1, 7)), lambda: hall.waiting(True),
             lambda: longest_wait(hall), lambda: most_open(hall), lambda: first_clash(hall), lambda: least_colors(hall),
             lambda: first_mistake(hall), lambda: plan_calls(hall, 2), lambda: plan_calls(hall, 5),
             lambda: least_modulus(hall), lambda: greatest_lateness(hall), lambda: first_difference(hall, other),
             lambda: first_difference(other, hall), lambda: first_error(hall, log), lambda: first_error(hall, None),
             lambda: encode(hall), lambda: decode(code), lambda: decode(code[:5]), lambda: watcher.candidates,
             lambda: watcher.history, lambda: watcher.next_displays, lambda: watcher.see(True),
             lambda: watcher.see_all(-1, 0), lambda: bench.text, lambda: bench.operations,
             lambda: bench.batch(operations), lambda: bench.batch([None]), lambda: bench.restore("unknown"),
             lambda: bench.save("Wrong"), lambda: bench.set_modulus(1), lambda: bench.set_takes(),
             lambda: Bench.replay(hall, operations), lambda: Bench.replay(hall, operations[:3]),
             lambda: format_session(hall, operations[:3]), lambda: format_session(hall, operations),
             lambda: parse_session(format_session(other, operations[:3]))]
    for tick in (0, 1, 17, 10 ** 18, 10 ** 18 + 1, -1):
        calls += [lambda tick=tick: hall.taken(max(tick, 0)), lambda tick=tick: hall.called(tick),
                  lambda tick=tick: hall.waiting(tick), lambda tick=tick: display(hall, tick),
                  lambda tick=tick: open_tickets(hall, tick), lambda tick=tick: mistaken(hall, tick),
                  lambda tick=tick: ticket_times(hall, tick), lambda tick=tick: holders(hall, tick, 1),
                  lambda tick=tick: watcher.waits(tick)]
    return calls


class TestInterface(unittest.TestCase):
    def assert_arguments(self, function, words):
        names = [name for name in inspect.signature(function).parameters if name not in ("self", "cls")]
        self.assertEqual(names, words.split(), function)

    def test_functions(self):
        for file, functions in FUNCTIONS.items():
            module = importlib.import_module("ticketwrap." + file)
            for name, words in functions.items():
                self.assertEqual(getattr(module, name).__module__, module.__name__)
                self.assert_arguments(getattr(module, name), words)

    def test_classes(self):
        for (file, name), methods in METHODS.items():
            module = importlib.import_module("ticketwrap." + file)
            found = getattr(module, name)
            self.assertEqual(found.__module__, module.__name__)
            for method, words in methods.items():
                self.assertIn(method, vars(found))
                self.assert_arguments(getattr(found, method), words)
            for word in PROPERTIES[file, name]:
                self.assertIsInstance(vars(found)[word], property)
        self.assertIsInstance(vars(Hall)["parse"], classmethod)
        self.assertIsInstance(vars(Bench)["replay"], classmethod)
        self.assertTrue(inspect.isgeneratorfunction(Hall.events))

    def test_stars(self):
        for function in (Watcher.see_all, Bench.set_takes, Bench.set_calls):
            kinds = [parameter.kind for parameter in inspect.signature(function).parameters.values()]
            self.assertEqual(kinds[1:], [inspect.Parameter.VAR_POSITIONAL])


class TestTrueAndFalse(unittest.TestCase):
    def test_they_are_no_integers(self):
        hall = Hall(3, (2, 0), (1,), 2)
        bench = Bench(hall)
        for value in (True, False):
            for error, call in (
                    (errors.InvalidHall, lambda: Hall(value, (1,), (1,), 0)),
                    (errors.InvalidHall, lambda: Hall(3, (value,), (1,), 0)),
                    (errors.InvalidHall, lambda: Hall(3, (1,), (0, value), 0)),
                    (errors.InvalidHall, lambda: Hall(3, (1,), (1,), value)),
                    (errors.InvalidTick, lambda: hall.waiting(value)),
                    (errors.InvalidTick, lambda: list(hall.events(value, 2))),
                    (errors.InvalidTick, lambda: list(hall.events(0, value))),
                    (errors.InvalidTick, lambda: display(hall, value)),
                    (errors.InvalidNumber, lambda: ticket_times(hall, value)),
                    (errors.InvalidTick, lambda: open_tickets(hall, value)),
                    (errors.InvalidTick, lambda: holders(hall, value, 0)),
                    (errors.InvalidDigits, lambda: holders(hall, 0, value)),
                    (errors.InvalidTick, lambda: mistaken(hall, value)),
                    (errors.InvalidDigits, lambda: Watcher(hall).see(value)),
                    (errors.InvalidDigits, lambda: Watcher(hall).see_all(0, value)),
                    (errors.InvalidDigits, lambda: Watcher(hall).waits(value)),
                    (errors.InvalidLimit, lambda: plan_calls(hall, value)),
                    (errors.InvalidCode, lambda: decode([84, 0, 3, 2, 2, value, 1, 1, 2, 95])),
                    (errors.InvalidHall, lambda: bench.set_modulus(value)),
                    (errors.InvalidHall, lambda: bench.set_takes(1, value)),
                    (errors.InvalidHall, lambda: bench.set_calls(value)),
                    (errors.InvalidHall, lambda: bench.set_lateness(value)),
                    (errors.InvalidHall, lambda: bench.batch([("lateness", value)])),
                    (errors.InvalidOperation, lambda: Bench.replay(hall, [("lateness", value)])),
                    (errors.InvalidOperation, lambda: format_session(hall, [("takes", (value,))]))):
                with self.assertRaises(error):
                    call()
        self.assertEqual(first_error(hall, [False]), 0)
        self.assertEqual(first_error(hall, [0, True]), 1)


class TestLeftToRight(unittest.TestCase):
    def test_the_first_wrong_argument_counts(self):
        for arguments, part in (((1, (), (), 100), "modulus"), ((2, (), (), 100), "takes"),
                                ((2, (0,), (), 100), "calls"), ((2, (0,), (0,), 100), "lateness")):
            with self.assertRaises(errors.InvalidHall) as caught:
                Hall(*arguments)
            self.assertEqual(caught.exception.part, part)
        hall = Hall(2, (9,), (0,), 0)
        self.assertRaises(errors.InvalidTick, holders, hall, -1, -1)
        self.assertRaises(errors.InvalidDigits, holders, hall, 10 ** 18, 2)
        self.assertRaises(errors.TooMany, holders, hall, 10 ** 18, 1)


class TestRepeatedCalls(unittest.TestCase):
    def objects(self, source):
        """Return two halls, a watcher and a bench on which something has happened."""
        all_parts = simulation.small_hall_parts()
        hall, other = Hall(*source.choice(all_parts)), Hall(*source.choice(all_parts))
        watcher, bench = Watcher(hall), Bench(hall)
        watcher.see_all(*[display(hall, tick) for tick in range(3, 6)])
        bench.batch([("modulus", 7), ("lateness", 3), ("takes", (1,)), ("undo",)])
        bench.save("known")
        return hall, other, watcher, bench

    def test_in_whatever_order(self):
        source = random.Random(80)
        for _ in range(40):
            hall, other, watcher, bench = self.objects(source)
            attributes = [dict(vars(each)) for each in (hall, other)]
            calls = calls_of(hall, other, watcher, bench)
            places = list(range(len(calls)))
            expected = [copy.deepcopy(state_of(call)) for call in calls]
            for _ in range(3):
                source.shuffle(places)
                for place in places:
                    self.assertEqual(state_of(calls[place]), expected[place], place)
            self.assertEqual([(each.modulus, each.takes, each.calls, each.lateness) for each in (hall, other)],
                             [tuple(each[word] for word in states.WORDS) for each in attributes])
            self.assertEqual([bench.redo(), bench.operations], [True, ["modulus", "lateness", "takes"]])

    def test_returned_lists_are_new(self):
        source = random.Random(81)
        for _ in range(40):
            calls = calls_of(*self.objects(source))
            for place, call in enumerate(calls):
                found = state_of(call)
                if isinstance(found, list):
                    before = list(found)
                    found.append("more")
                    found[0] = "other"
                    self.assertEqual(state_of(call), before, place)

    def test_equal_objects_do_not_influence_each_other(self):
        source = random.Random(82)
        for _ in range(20):
            hall, other, watcher, bench = self.objects(source)
            twin = Hall(hall.modulus, hall.takes, hall.calls, hall.lateness)
            expected = [state_of(call) for call in calls_of(twin, other, watcher, bench)]
            busy_watcher, busy_bench = Watcher(hall), Bench(hall)
            busy_watcher.see(busy_watcher.next_displays[-1])
            busy_bench.batch([("takes", (9, 9)), ("calls", (0,)), ("modulus", 2), ("undo",)])
            busy_bench.save("known")
            busy_bench.undo()
            self.assertEqual([state_of(call) for call in calls_of(hall, other, watcher, bench)], expected)


class TestPartsTogether(unittest.TestCase):
    def test_texts_bytes_and_benches_agree(self):
        for parts in simulation.hall_parts():
            hall = Hall(*parts)
            bench = Bench(Hall(*states.START))
            bench.batch(list(zip(states.WORDS, parts)))
            with self.subTest(parts=parts):
                self.assertEqual([bench.text, decode(encode(hall)).text, Hall.parse(hall.text).text], [hall.text] * 3)
                self.assertEqual(parse_session(HALL_TEXT + "\n" + hall.text)[1], list(zip(states.WORDS, parts)))
                self.assertEqual(bench.set_lateness(hall.lateness), most_open(hall))

    def test_halls_of_texts_and_bytes_show_the_same(self):
        for parts in simulation.small_hall_parts()[:60]:
            hall = Hall(*parts)
            self.assertIsNone(first_difference(hall, decode(encode(hall))))
            self.assertIsNone(first_difference(Hall.parse(hall.text), hall))
            self.assertIsNone(first_error(hall, [display(hall, tick) for tick in range(30)]))


if __name__ == "__main__":
    unittest.main()
