"""Ranges and what is sure, in small towns against all of their records, and in large ones worked out by hand."""

import random
import unittest

from bikestands.errors import Impossible, InvalidAsk, InvalidWord, NotALog, UnknownName
from bikestands.logs import Log
from bikestands.ranges import (
    ask_range, end_record, fewest_vans, possible, profile, some_record, surely, surely_empty, surely_full,
    surely_moved,
)
from bikestands.records import fits, value
from bikestands.towns import Town
from tests.cases import Case
from tests.every_record import EveryRecord, random_facts, small_towns
from tests.samples import (
    FACTS, asks_of, make_impossible, make_log, make_slow, make_town, no_asks, no_logs, no_names, no_strings,
)


def no_words():
    return [*no_strings(), (), ("least",), "", "Least", "least ", "leas", "most\n", "mos", "fewest", "leastmost"]


def no_stands():
    return [*no_names(), "hall", "hil", "hills", "hill port", "bikes", ("hill", 4)]


class Small(unittest.TestCase):
    """Small towns, against all of their records."""

    @classmethod
    def setUpClass(cls):
        cls.everies = [EveryRecord(town) for town in small_towns()]

    def logs(self, many_logs, seed):
        """Random logs, with all records of their towns, and the rows of values of those that fit."""
        chance = random.Random(seed)
        for every in self.everies:
            yield every, Log(every.town), every.rows
            for _ in range(many_logs):
                facts = random_facts(chance, every, chance.randint(1, 7), chance.choice((0, 0, 1)))
                yield every, Log(every.town, facts), every.fitting(facts)

    def possible_logs(self, many_logs, seed):
        for every, log, rows in self.logs(many_logs, seed):
            if rows:
                yield every, log, rows

    def assert_fits(self, every, log, record):
        """Looks whether it is one of all the records, and one in which all facts hold."""
        self.assertIn(record, every.values, str(log))
        for fact in log.facts:
            self.assertTrue(every.holds(every.values[record], fact), (str(log), record))

    def test_possible_and_some_record(self):
        seen = {True: 0, False: 0}
        for every, log, rows in self.logs(60, 1):
            self.assertIs(possible(log), bool(rows), str(log))
            seen[bool(rows)] += 1
            if rows:
                self.assert_fits(every, log, some_record(log))
            else:
                self.assertIsNone(some_record(log))
        self.assertGreater(min(seen.values()), 50)

    def test_ranges_of_every_ask(self):
        for every, log, rows in self.possible_logs(14, 2):
            for ask in every.asks:
                expected = every.ends(rows, ask)
                self.assertEqual(ask_range(log, ask), expected, (str(log), ask))

    def test_surely(self):
        for every, log, rows in self.possible_logs(6, 3):
            for ask in every.asks:
                least, most = every.ends(rows, ask)
                self.assertEqual(surely(log, ask), least if least == most else None, (str(log), ask))

    def test_a_record_at_each_end(self):
        for every, log, rows in self.possible_logs(6, 4):
            for ask in every.asks:
                least, most = every.ends(rows, ask)
                for word, end in (("least", least), ("most", most)):
                    record = end_record(log, ask, word)
                    self.assert_fits(every, log, record)
                    self.assertEqual(every.value(record, ask), end, (str(log), ask, word))

    def test_the_fewest_vans(self):
        for every, log, rows in self.possible_logs(30, 5):
            record = fewest_vans(log)
            self.assert_fits(every, log, record)
            self.assertEqual(every.value(record, "all vans"), every.ends(rows, "all vans")[0], str(log))

    def test_what_is_surely_full_empty_and_moved(self):
        for every, log, rows in self.possible_logs(20, 6):
            town = log.town
            full, empty = [], []
            for name, size in town.stands:
                for moment in range(town.slots + 1):
                    least, most = every.ends(rows, f"count {name} {moment}")
                    full += [(name, moment)] if least == size else []
                    empty += [(name, moment)] if most == 0 else []
            moved = [slot for slot in range(town.slots) if every.ends(rows, f"van {slot}")[0] > 0]
            self.assertEqual(surely_full(log), tuple(full), str(log))
            self.assertEqual(surely_empty(log), tuple(empty), str(log))
            self.assertEqual(surely_moved(log), tuple(moved), str(log))

    def test_profiles(self):
        for every, log, rows in self.possible_logs(10, 7):
            for name in log.town.names:
                asks = [f"count {name} {moment}" for moment in range(log.town.slots + 1)]
                self.assertEqual(profile(log, name), tuple(every.ends(rows, ask) for ask in asks), str(log))

    def test_logs_that_are_not_possible(self):
        for every, log, rows in self.logs(8, 8):
            if not rows:
                for call in all_calls(log, every.asks[0], every.town.names[0]):
                    with self.assertRaises(Impossible, msg=str(log)):
                        call()


def all_calls(log, ask, name):
    """All that raises Impossible."""
    return [
        lambda: ask_range(log, ask), lambda: end_record(log, ask, "least"), lambda: end_record(log, ask, "most"),
        lambda: surely(log, ask), lambda: fewest_vans(log), lambda: surely_full(log), lambda: surely_empty(log),
        lambda: surely_moved(log), lambda: profile(log, name),
    ]


class Document(unittest.TestCase):
    """The examples of the document."""

    def test_ranges(self):
        log = make_log()
        asks = ("all rides", "count hill 2", "rides port hill 0", "way 2")
        self.assertEqual([ask_range(log, ask) for ask in asks], [(2, 4), (0, 1), (0, 1), (0, 1)])
        self.assertEqual(surely(log, "bikes"), 4)
        self.assertIsNone(surely(log, "all rides"))
        asks = ("road hill port", "to hill", "from port")
        self.assertEqual([ask_range(log, ask) for ask in asks], [(2, 3), (0, 1), (0, 1)])

    def test_records_and_what_is_sure(self):
        log = make_log()
        self.assertEqual(surely_full(log), (("port", 2),))
        self.assertEqual(surely_empty(log), ())
        self.assertEqual(end_record(log, "all rides", "least"), ((3, 1), (("hill", "port", 0, 2),), ()))
        self.assertEqual(value(log.town, end_record(log, "count hill 2", "least"), "rides port hill 1"), 1)
        self.assertEqual(surely_moved(log), ())
        self.assertEqual(profile(log, "port"), ((1, 1), (2, 3), (3, 3)))

    def test_a_van_that_must_have_come(self):
        slow = make_slow()
        self.assertEqual(ask_range(slow, "all vans")[0], 1)
        self.assertEqual(fewest_vans(slow)[2], (("port", "hill", 0, 1),))
        self.assertIs(possible(slow.with_fact("van 0 is 0")), False)
        self.assertIsNone(some_record(slow.with_fact("bikes is 5")))
        self.assertEqual(surely_moved(slow), (0,))

    def test_by_name(self):
        log = make_log()
        self.assertIs(possible(log=log), True)
        self.assertIs(fits(log, some_record(log=log)), True)
        self.assertEqual(ask_range(ask="way 2", log=log), (0, 1))
        self.assertEqual(end_record(word="least", ask="all rides", log=log)[2], ())
        self.assertEqual(surely(ask="bikes", log=log), 4)
        self.assertEqual(fewest_vans(log=log)[2], ())
        self.assertEqual(surely_full(log=log), (("port", 2),))
        self.assertEqual(surely_empty(log=log), ())
        self.assertEqual(surely_moved(log=make_slow()), (0,))
        self.assertEqual(profile(name="port", log=log), ((1, 1), (2, 3), (3, 3)))


FIVE = tuple([(name, 40) for name in "abcde"])
# Ahead each road takes one slot; back, and to the stand itself, it takes longer.
RING = tuple([(start, end, 1) for start, end in zip("abcde", "bcdea")])
BACK = (("b", "a", 2), ("c", "b", 2), ("d", "c", 2), ("e", "d", 2), ("a", "a", 3), ("b", "b", 3), ("c", "c", 3))
# Forty bikes that must have been ridden from a to e by the moment 4, each slot one road on.
MARCH = Log(
    Town(8, FIVE, RING + BACK),
    ("bikes is 40", "count a 0 is 40", "count e 4 is 40", *[f"van {slot} is 0" for slot in range(8)]),
)
# Roads that take three slots each, so that a bike begins at most three rides.
SLOW_RING = tuple([(start, end, 3) for start, end, _ in RING])


class Large(unittest.TestCase):
    """Worked out by hand."""

    def assert_ranges(self, log, expected):
        for ask, ends in expected.items():
            with self.subTest(ask=ask):
                self.assertEqual(ask_range(log, ask), ends)
                self.assertEqual(surely(log, ask), ends[0] if ends[0] == ends[1] else None)
                for word, end in zip(("least", "most"), ends):
                    record = end_record(log, ask, word)
                    self.assertIs(fits(log, record), True)
                    self.assertEqual(value(log.town, record, ask), end)

    def test_a_town_without_facts(self):
        log = Log(Town(8, FIVE, SLOW_RING))
        self.assert_ranges(log, {
            "bikes": (0, 200), "count c 0": (0, 40), "count c 8": (0, 40), "all rides": (0, 600), "all vans": (0, 1600),
            "way 0": (0, 0), "way 1": (0, 200), "way 8": (0, 200), "van 7": (0, 200), "left a 7": (0, 40),
            "came a 0": (0, 0), "came a 1": (0, 0), "came a 2": (0, 40), "rides a b 0": (0, 40),
        })
        self.assertEqual(some_record(log).__class__, tuple)
        self.assertEqual((surely_full(log), surely_empty(log), surely_moved(log)), ((), (), ()))
        self.assertEqual(profile(log, "e"), ((0, 40),) * 9)
        self.assertEqual(fewest_vans(log)[2], ())

    def test_a_march_along_a_ring(self):
        self.assert_ranges(MARCH, {
            "all rides": (160, 320), "rides a b 0": (40, 40), "rides b c 1": (40, 40), "rides c d 2": (40, 40),
            "rides d e 3": (40, 40), "rides a a 0": (0, 0), "rides e a 4": (0, 40), "rides e d 4": (0, 40),
            "road a b": (40, 80), "road e a": (0, 40), "road d e": (40, 80), "way 4": (0, 0), "way 5": (0, 40),
            "left e 4": (0, 40), "from e": (0, 80), "to e": (40, 80), "from c": (40, 80), "all vans": (0, 0),
            "count e 5": (0, 40), "count c 3": (0, 0), "came e 3": (40, 40), "way 8": (0, 40),
        })
        full = tuple([(name, moment) for moment, name in enumerate("abcde")])
        self.assertEqual(surely_full(MARCH), full)
        empty = [(name, moment) for name in "abcde" for moment in range(5) if (name, moment) not in full]
        # At the moment 5 they can be at a or still at e, at the moment 6 also at b, or back at d.
        self.assertEqual(surely_empty(MARCH), tuple(sorted([*empty, ("b", 5), ("c", 5), ("d", 5), ("c", 6)])))
        self.assertEqual(surely_moved(MARCH), ())
        self.assertEqual(profile(MARCH, "e")[:6], ((0, 0), (0, 0), (0, 0), (0, 0), (40, 40), (0, 40)))

    def test_one_stand_and_a_road_back_to_it(self):
        log = Log(Town(8, (("a", 40),), (("a", "a", 3),)), ("bikes is 40", "count a 4 is 0"))
        self.assert_ranges(log, {
            "way 4": (40, 40), "all rides": (40, 120), "left a 1": (0, 0), "left a 2": (0, 40), "left a 3": (0, 40),
            "count a 3": (0, 40), "way 8": (0, 40), "from a": (40, 120), "to a": (40, 80), "all vans": (0, 200),
            "count a 8": (0, 40), "van 4": (0, 0), "van 2": (0, 40),
        })
        self.assertEqual(surely_empty(log), (("a", 4),))
        self.assertEqual(surely_full(log), (("a", 0),))

    def test_vans_that_must_have_moved_many(self):
        log = Log(Town(1, (("a", 40), ("b", 40))), ("count a 0 is 40", "count b 0 is 0", "count b 1 is 37"))
        self.assert_ranges(log, {"van 0": (37, 40), "all vans": (37, 40), "count a 1": (3, 3), "bikes": (40, 40)})
        self.assertEqual(fewest_vans(log), ((40, 0), (), (("a", "b", 0, 37),)))
        self.assertEqual(surely_moved(log), (0,))
        self.assertIs(possible(log.with_fact("van 0 most 36")), False)
        self.assertIs(possible(log.with_fact("van 0 most 37")), True)

    def test_twelve_facts_about_rides_at_one_time(self):
        roads = tuple([(start, end, 3) for start in "abcd" for end in "abc"])
        rides = tuple([f"rides {start} {end} 7 least 13" for start in "abcd" for end in "abc"])
        log = Log(Town(8, FIVE, roads), rides)
        self.assert_ranges(log, {
            "bikes": (156, 200), "left a 7": (39, 40), "rides a a 7": (13, 14), "way 8": (156, 200),
            "count e 8": (0, 40), "rides d c 7": (13, 14), "van 7": (0, 44),
        })
        self.assertIs(possible(log.without(0).with_fact("rides a a 7 least 15")), False)

    def test_bounds_that_no_town_reaches(self):
        town = Town(8, FIVE, SLOW_RING)
        for fact, expected in (
            ("bikes most 9999", (0, 200)), ("bikes least 200", (200, 200)), ("bikes from 199 to 9999", (199, 200)),
            ("bikes least 201", None), ("bikes is 9999", None), ("count a 3 is 41", None), ("van 2 least 201", None),
            ("count a 0 is 40", (40, 200)), ("left a 0 is 41", None), ("van 2 is 200", (200, 200)),
        ):
            log = Log(town, (fact,))
            self.assertIs(possible(log), expected is not None)
            if expected is not None:
                self.assertEqual(ask_range(log, "bikes"), expected)

    def test_sums_may_have_gaps(self):
        # One bike rides there and back, or not at all.
        town = Town(2, (("a", 1), ("b", 1)), (("a", "b", 1), ("b", "a", 1)))
        facts = ("count a 0 is 1", "count b 0 is 0", "count a 2 is 1", "van 0 is 0", "van 1 is 0")
        log = Log(town, facts)
        self.assertEqual(ask_range(log, "all rides"), (0, 2))
        self.assertEqual(ask_range(log, "way 1"), (0, 0))


class Results(unittest.TestCase):
    def test_kinds_of_values(self):
        log = make_log()
        for result in (
            some_record(log), fewest_vans(log), end_record(log, "bikes", "most"), ask_range(log, "bikes"),
            surely_full(log), surely_empty(log), surely_moved(make_slow()), profile(log, "hill"),
            profile(log, "hill")[0],
        ):
            self.assertIs(result.__class__, tuple)
        numbers = [*ask_range(log, "bikes"), *profile(log, "hill")[0], surely(log, "bikes")]
        for number in [*numbers, surely_moved(make_slow())[0]]:
            self.assertIs(number.__class__, int)

    def test_equal_calls_return_equal_results(self):
        for make in (make_log, make_slow, lambda: MARCH, lambda: Log.read(str(MARCH))):
            self.assertEqual(some_record(make()), some_record(make()))
            self.assertEqual(fewest_vans(make()), fewest_vans(make()))
            for ask in asks_of(make().town)[::9]:
                self.assertEqual(end_record(make(), ask, "most"), end_record(make(), ask, "most"))
        self.assertEqual(some_record(MARCH), some_record(Log.read(str(MARCH))))

    def test_the_log_stays_as_it_is(self):
        log = make_log()
        possible(log), ask_range(log, "all rides"), surely_full(log), fewest_vans(log), profile(log, "hill")
        self.assertEqual(log, make_log())
        self.assertIs(log.facts, FACTS)


class Wrong(Case):
    def test_functions_of_a_log_alone(self):
        for function in (possible, some_record, fewest_vans, surely_full, surely_empty, surely_moved):
            self.assert_first_error(function, [("log", [make_log()], NotALog, no_logs())])

    def test_functions_of_a_log_and_an_ask(self):
        for function in (ask_range, surely):
            self.assert_first_error(function, [
                ("log", [make_log(), make_impossible()], NotALog, no_logs()),
                ("ask", ["bikes", "all rides"], InvalidAsk, no_asks()),
            ])

    def test_end_record(self):
        self.assert_first_error(end_record, [
            ("log", [make_log(), make_impossible()], NotALog, no_logs()),
            ("ask", ["bikes", "all rides"], InvalidAsk, no_asks()),
            ("word", ["least", "most"], InvalidWord, no_words()),
        ])

    def test_profile(self):
        self.assert_first_error(profile, [
            ("log", [make_log(), make_impossible()], NotALog, no_logs()),
            ("name", ["hill", "port"], UnknownName, no_stands()),
        ])

    def test_impossible_comes_last(self):
        log = make_impossible()
        for call in all_calls(log, "bikes", "hill"):
            self.assert_raised(Impossible, {}, call)
        self.assertIs(possible(log), False)
        self.assertIsNone(some_record(log))

    def test_facts_that_cannot_be_by_themselves_or_together(self):
        town = make_town()
        for facts in (
            ("count hill 0 is 5",), ("bikes is 8",), ("bikes is 3", "bikes is 4"), ("came hill 0 is 1",),
            ("bikes least 4", "bikes most 3"), ("left hill 1 is 1", "rides hill port 1 is 0"),
            ("count hill 0 from 1 to 2", "count hill 0 from 3 to 4"),
        ):
            log = Log(town, facts)
            self.assertIs(possible(log), False)
            for call in all_calls(log, "bikes", "hill"):
                self.assert_raised(Impossible, {}, call)


if __name__ == "__main__":
    unittest.main()
