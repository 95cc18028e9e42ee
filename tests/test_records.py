"""Records worked out by hand, and those of small towns against all records of these."""

import random
import unittest

from bikestands.errors import InvalidAsk, InvalidFact, InvalidRecord, NotALog, NotATown
from bikestands.logs import Log
from bikestands.records import contents, fits, holds, is_record, value
from bikestands.towns import Town
from tests.cases import Case
from tests.every_record import EveryRecord, histories, random_facts, small_towns
from tests.samples import (
    FACTS, asks_of, make_log, make_town, no_asks, no_facts, no_logs, no_numbers_in, no_names, no_strings, no_towns,
    no_tuples,
)

# Rides on time, one of them to its own stand at the last moment, and one that is under way in the end; vans also to
# the same stands. The stands do not stand in the order of their names.
BAY = Town(3, (("port", 6), ("hill", 9)), (("hill", "port", 1), ("port", "hill", 2), ("hill", "hill", 3)))
BEGUN = (3, 9)
RIDES = (
    ("hill", "hill", 0, 2), ("hill", "port", 0, 3), ("hill", "port", 2, 1), ("port", "hill", 0, 2),
    ("port", "hill", 2, 4),
)
VANS = (("hill", "hill", 0, 1), ("hill", "port", 1, 2), ("port", "port", 2, 2))
DAY = (BEGUN, RIDES, VANS)
VALUES = {
    "count port 0": 3, "count port 1": 4, "count port 2": 6, "count port 3": 3,
    "count hill 0": 9, "count hill 1": 4, "count hill 2": 4, "count hill 3": 5,
    "bikes": 12, "way 0": 0, "way 1": 4, "way 2": 2, "way 3": 4,
    "left port 0": 2, "left port 1": 0, "left port 2": 4, "left hill 0": 5, "left hill 1": 0, "left hill 2": 1,
    "came port 0": 3, "came port 1": 0, "came port 2": 1, "came hill 0": 0, "came hill 1": 2, "came hill 2": 2,
    "rides hill port 0": 3, "rides hill port 1": 0, "rides hill port 2": 1, "rides port hill 0": 2,
    "rides port hill 1": 0, "rides port hill 2": 4, "rides hill hill 0": 2, "rides hill hill 1": 0,
    "rides hill hill 2": 0, "van 0": 1, "van 1": 2, "van 2": 2, "all rides": 12, "all vans": 5,
    "road hill port": 4, "road port hill": 6, "road hill hill": 2, "from port": 6, "from hill": 6, "to port": 4,
    "to hill": 4,
}
NOTHING = ((0, 0), (), ())
PLAIN = ((3, 1), (("hill", "port", 0, 2),), ())
ROUND_TRIP = ((3, 1), (("hill", "port", 0, 2), ("hill", "port", 1, 1), ("port", "hill", 0, 1)), ())


def replaced(row, at, part):
    return (*row[:at], part, *row[at + 1:])


def some_of(rows, many):
    """About so many of the rows, from all along."""
    return list(rows)[::max(1, len(rows) // many)]


class ByHand(Case):
    def test_a_record(self):
        self.assertIs(is_record(BAY, DAY), True)
        self.assertIs(is_record(value=DAY, town=BAY), True)

    def test_contents(self):
        expected = ((3, 4, 6, 3), (9, 4, 4, 5))
        self.assertEqual(contents(BAY, DAY), expected)
        self.assertEqual(contents(record=DAY, town=BAY), expected)
        self.assertEqual(contents(BAY, NOTHING), ((0, 0, 0, 0), (0, 0, 0, 0)))
        self.assertEqual(contents(Town(1, (("a", 40),)), ((40,), (), ())), ((40, 40),))
        self.assertIs(contents(BAY, DAY).__class__, tuple)
        for row in contents(BAY, DAY):
            self.assertIs(row.__class__, tuple)

    def test_the_value_of_every_ask(self):
        self.assertEqual(sorted(VALUES), sorted(asks_of(BAY)))
        for ask, expected in VALUES.items():
            with self.subTest(ask=ask):
                self.assertEqual(value(BAY, DAY, ask), expected)
                self.assertEqual(value(ask=ask, record=DAY, town=BAY), expected)
                self.assertEqual(value(BAY, NOTHING, ask), 0)

    def test_the_document(self):
        town = make_town()
        self.assertEqual(contents(town, PLAIN), ((3, 1, 1), (1, 3, 3)))
        self.assertEqual(contents(town, ROUND_TRIP), ((3, 1, 1), (1, 2, 3)))
        self.assertEqual(value(town, ROUND_TRIP, "way 1"), 1)
        self.assertIs(fits(make_log(), PLAIN), True)
        self.assertIs(fits(make_log(), ROUND_TRIP), True)
        self.assertIs(is_record(town, ((3, 1), (("hill", "port", 0, 4),), ())), False)

    def test_rides_on_time_at_the_last_moment_and_behind_it(self):
        town = Town(3, (("a", 1), ("b", 1)), (("a", "b", 2),))
        for slot, lying, way in ((0, (0, 0, 1, 1), (0, 1, 0, 0)), (1, (0, 0, 0, 1), (0, 0, 1, 0)),
                                 (2, (0, 0, 0, 0), (0, 0, 0, 1))):
            record = ((1, 0), (("a", "b", slot, 1),), ())
            self.assertEqual(contents(town, record)[1], lying)
            self.assertEqual(tuple(value(town, record, f"way {moment}") for moment in range(4)), way)
            self.assertEqual(value(town, record, "to b"), 0 if slot == 2 else 1)
            self.assertEqual(value(town, record, "all rides"), 1)
            came = [value(town, record, f"came b {at}") for at in range(3)]
            self.assertEqual(came, [1 if at == slot + 1 else 0 for at in range(3)])

    def test_a_ride_of_the_longest_time(self):
        town = Town(1, (("a", 3),), (("a", "a", 3),))
        record = ((3,), (("a", "a", 0, 3),), ())
        self.assertEqual(contents(town, record), ((3, 0),))
        self.assertEqual([value(town, record, ask) for ask in ("way 0", "way 1", "to a", "came a 0")], [0, 3, 0, 0])

    def test_vans_to_the_same_stand(self):
        town = Town(1, (("a", 3),))
        record = ((3,), (), (("a", "a", 0, 3),))
        self.assertEqual(contents(town, record), ((3, 3),))
        self.assertEqual([value(town, record, ask) for ask in ("van 0", "all vans", "all rides")], [3, 3, 0])

    def test_facts_that_hold_and_that_do_not(self):
        for ask, number in VALUES.items():
            if not BAY.is_fact(f"{ask} is {number}"):
                continue
            ends = [
                (f"is {number}", True), (f"is {number + 1}", False), (f"least {number}", True),
                (f"least {number + 1}", False), (f"most {number}", True), ("least 0", True), ("most 9999", True),
                (f"from {number} to {number}", True), (f"from 0 to {number}", True),
                (f"from {number} to 9999", True), (f"from {number + 1} to 9999", False), ("least 9999", False),
            ]
            if number > 0:
                ends += [
                    (f"is {number - 1}", False), (f"most {number - 1}", False), (f"from 0 to {number - 1}", False),
                    (f"least {number - 1}", True), ("is 0", False), ("most 0", False),
                ]
            for end, expected in ends:
                with self.subTest(fact=f"{ask} {end}"):
                    self.assertIs(holds(BAY, DAY, f"{ask} {end}"), expected)
                    self.assertIs(holds(fact=f"{ask} {end}", record=DAY, town=BAY), expected)
                    self.assertIs(fits(Log(BAY, (f"{ask} {end}",)), DAY), expected)

    def test_a_record_fits_if_all_facts_hold(self):
        facts = ("bikes is 12", "count port 2 is 6", "left hill 0 from 5 to 6", "van 2 most 2")
        self.assertIs(fits(Log(BAY), DAY), True)
        self.assertIs(fits(Log(BAY, facts), DAY), True)
        self.assertIs(fits(record=DAY, log=Log(BAY, facts)), True)
        self.assertIs(fits(Log(BAY, facts), NOTHING), False)
        for at in range(4):
            for wrong in ("bikes is 11", "van 1 least 3"):
                self.assertIs(fits(Log(BAY, replaced(facts, at, wrong)), DAY), False)
        self.assertIs(fits(Log(BAY, ("bikes is 12", "bikes is 13")), DAY), False)


class Otherwise(Case):
    """The record made by hand, with one part of it otherwise."""

    def assert_no_record(self, given, town=BAY):
        self.assertIs(is_record(town, given), False, given)
        self.assert_raised(InvalidRecord, {"given": given}, contents, town, given)
        self.assert_raised(InvalidRecord, {"given": given}, fits, Log(town), given)

    def assert_no_ride(self, row, at):
        self.assert_no_record((BEGUN, replaced(RIDES, at, row), VANS))

    def assert_no_van(self, row, at):
        self.assert_no_record((BEGUN, RIDES, replaced(VANS, at, row)))

    def test_another_kind(self):
        for given in [*no_tuples(), (), (DAY,), DAY[:2], (*DAY, ()), [*DAY], (BEGUN, RIDES), (RIDES, BEGUN, VANS)]:
            self.assert_no_record(given)
        for part in [*no_tuples(), list(RIDES)]:
            self.assert_no_record((part, RIDES, VANS))
            self.assert_no_record((BEGUN, part, VANS))
            self.assert_no_record((BEGUN, RIDES, part))
        for part in ([3, 9], BEGUN[:1], (), (3, 9, 0), ((3, 9),), ((3,), (9,)), (("port", 3), ("hill", 9))):
            self.assert_no_record((part, RIDES, VANS))

    def test_begun_numbers(self):
        for number in [*no_numbers_in(0, 9), 10]:
            self.assert_no_record(((3, number), (), ()))
            self.assert_no_record(((number, 9), (), ()))
        for number in (0, 6):
            self.assertIs(is_record(BAY, ((number, 9), (), ())), True)
        self.assert_no_record(((7, 9), (), ()))
        self.assert_no_record(((9, 3), (), ()))

    def test_rows_of_another_kind(self):
        rows = [*no_tuples(), (), ("hill", "port", 0), ("hill", "port", 0, 3, 1), ["hill", "port", 0, 3], (RIDES[1],)]
        for row in rows:
            for at in range(5):
                self.assert_no_ride(row, at)
            for at in range(3):
                self.assert_no_van(row, at)

    def test_names(self):
        for name in [*no_names(), "hall", "por", "hills", 0, 1, ("hill",)]:
            self.assert_no_record((BEGUN, ((name, "port", 0, 1),), ()))
            self.assert_no_record((BEGUN, (("port", name, 0, 1),), ()))
            self.assert_no_record((BEGUN, (), ((name, "port", 0, 1),)))
            self.assert_no_record((BEGUN, (), (("port", name, 0, 1),)))

    def test_roads_that_are_none(self):
        self.assert_no_record((BEGUN, (("port", "port", 0, 1),), ()))
        self.assertIs(is_record(BAY, (BEGUN, (), (("port", "port", 0, 1),))), True)
        town = Town(1, (("a", 1), ("b", 1)), (("a", "b", 1),))
        self.assertIs(is_record(town, ((1, 0), (("a", "b", 0, 1),), ())), True)
        self.assert_no_record(((0, 1), (("b", "a", 0, 1),), ()), town)
        self.assertIs(is_record(town, ((0, 1), (), (("b", "a", 0, 1),))), True)

    def test_slots(self):
        for slot in no_numbers_in(0, 2):
            self.assert_no_record((BEGUN, (("hill", "port", slot, 1),), ()))
            self.assert_no_record((BEGUN, (), (("hill", "port", slot, 1),)))
        for slot in (0, 1, 2):
            self.assertIs(is_record(BAY, (BEGUN, (("hill", "port", slot, 1),), ())), True)
            self.assertIs(is_record(BAY, (BEGUN, (), (("hill", "port", slot, 1),))), True)

    def test_numbers(self):
        for number in [*no_numbers_in(1, 9), 0, -1, 10 ** 44]:
            self.assert_no_record(((0, 9), (("hill", "hill", 0, number),), ()))
            self.assert_no_record(((0, 9), (), (("hill", "hill", 0, number),)))
        self.assertIs(is_record(BAY, ((0, 9), (("hill", "hill", 0, 9),), ())), True)
        self.assertIs(is_record(BAY, ((0, 9), (), (("hill", "hill", 0, 9),))), True)

    def test_order(self):
        for one in range(5):
            for other in range(one):
                swapped = list(RIDES)
                swapped[one], swapped[other] = RIDES[other], RIDES[one]
                self.assert_no_record((BEGUN, tuple(swapped), VANS))
        for vans in (VANS[::-1], (VANS[1], VANS[0], VANS[2]), (VANS[0], VANS[2], VANS[1])):
            self.assert_no_record((BEGUN, RIDES, vans))
        # By the names, not by the order of the stands; by the slot, not by the number.
        self.assertIs(is_record(BAY, ((2, 2), (("hill", "port", 0, 1), ("port", "hill", 0, 1)), ())), True)
        self.assert_no_record(((2, 2), (("port", "hill", 0, 1), ("hill", "port", 0, 1)), ()))
        self.assertIs(is_record(BAY, ((0, 9), (("hill", "port", 0, 3), ("hill", "port", 1, 1)), ())), True)
        self.assert_no_record(((0, 9), (("hill", "port", 1, 1), ("hill", "port", 0, 3)), ()))

    def test_a_row_twice(self):
        for at in range(5):
            self.assert_no_record((BEGUN, (*RIDES[:at], RIDES[at], *RIDES[at:]), VANS))
        for at in range(3):
            self.assert_no_record((BEGUN, RIDES, (*VANS[:at], VANS[at], *VANS[at:])))
        self.assert_no_record(((0, 9), (("hill", "port", 0, 1), ("hill", "port", 0, 2)), ()))
        self.assert_no_record(((0, 9), (), (("hill", "port", 0, 1), ("hill", "port", 0, 2))))
        same = (("hill", "port", 0, 1),)
        self.assertIs(is_record(BAY, ((0, 9), same, same)), True)

    def test_more_bikes_than_lie_there(self):
        self.assertIs(is_record(BAY, replaced(DAY, 2, replaced(VANS, 0, ("hill", "hill", 0, 4)))), True)
        self.assert_no_van(("hill", "hill", 0, 5), 0)
        self.assert_no_van(("port", "port", 2, 3), 2)
        self.assert_no_ride(("port", "hill", 2, 5), 4)
        self.assert_no_ride(("port", "hill", 0, 4), 3)
        self.assert_no_record(((0, 0), (("hill", "port", 0, 1),), ()))
        self.assert_no_record(((0, 0), (), (("hill", "hill", 0, 1),)))
        # Bikes that come in a slot do not go on in it.
        town = Town(2, (("a", 3), ("b", 3)), (("a", "b", 1), ("b", "a", 1)))
        self.assertIs(is_record(town, ((3, 0), (("a", "b", 0, 3), ("b", "a", 1, 3)), ())), True)
        self.assert_no_record(((3, 0), (("a", "b", 0, 3), ("b", "a", 0, 3)), ()), town)
        self.assert_no_record(((2, 0), (("a", "b", 0, 2),), (("a", "b", 0, 1),)), town)
        self.assert_no_record(((3, 0), (), (("a", "b", 0, 3), ("b", "a", 0, 1))), town)

    def test_more_than_the_size_at_some_moment(self):
        town = Town(2, (("a", 3), ("b", 2)), (("a", "b", 1), ("a", "a", 2)))
        self.assertIs(is_record(town, ((3, 0), (("a", "b", 0, 2),), ())), True)
        self.assert_no_record(((3, 0), (("a", "b", 0, 3),), ()), town)
        self.assert_no_record(((3, 1), (("a", "b", 0, 2),), ()), town)
        self.assert_no_record(((3, 1), (("a", "b", 1, 2),), ()), town)
        self.assert_no_record(((3, 1), (), (("a", "b", 1, 2),)), town)
        self.assert_no_record(((2, 1), (("a", "b", 0, 1),), (("a", "b", 0, 1),)), town)
        self.assert_no_record(((4, 0), (("a", "b", 0, 1),), ()), town)
        # A full stand takes in as many as leave it in the same slot.
        self.assertIs(is_record(town, ((2, 2), (("a", "b", 0, 2),), (("b", "a", 0, 2),))), True)
        self.assert_no_record(((2, 2), (("a", "b", 0, 2),), (("b", "a", 0, 1),)), town)

    def test_a_stand_that_is_too_full_in_between(self):
        town = Town(2, (("a", 2), ("b", 1)))
        self.assertIs(is_record(town, ((1, 1), (), (("a", "b", 0, 1), ("b", "a", 0, 1), ("b", "b", 1, 1)))), True)
        self.assert_no_record(((1, 1), (), (("a", "b", 0, 1), ("b", "a", 1, 1))), town)


class Small(Case):
    """Small towns, against all of their records."""

    def test_records_contents_and_values(self):
        for town in small_towns():
            every = EveryRecord(town)
            self.assertEqual(len(every.values), len(histories(town)))
            for record in every.values:
                self.assertIs(is_record(town, record), True)
                self.assertEqual(contents(town, record), every.tables[record])

    def test_values_of_every_ask(self):
        for town in small_towns():
            every = EveryRecord(town)
            for record in some_of(every.values, 100):
                for ask in every.asks:
                    self.assertEqual(value(town, record, ask), every.value(record, ask), (str(town), record, ask))

    def test_one_number_otherwise(self):
        for town in small_towns():
            every = EveryRecord(town)
            for record in some_of(every.values, 150):
                for other in self.others(record):
                    self.assertIs(is_record(town, other), other in every.values, (str(town), other))

    def others(self, record):
        begun, rides, vans = record
        for step in (-1, 1):
            for at, number in enumerate(begun):
                yield (replaced(begun, at, number + step), rides, vans)
            for at, row in enumerate(rides):
                for part in (2, 3):
                    yield (begun, tuple(sorted(replaced(rides, at, replaced(row, part, row[part] + step)))), vans)
            for at, row in enumerate(vans):
                for part in (2, 3):
                    yield (begun, rides, tuple(sorted(replaced(vans, at, replaced(row, part, row[part] + step)))))
        for at in range(len(rides)):
            yield (begun, rides[:at] + rides[at + 1:], vans)
        for at in range(len(vans)):
            yield (begun, rides, vans[:at] + vans[at + 1:])

    def test_what_fits(self):
        chance = random.Random(7)
        for town in small_towns():
            every = EveryRecord(town)
            for many in (1, 2, 4, 12):
                facts = random_facts(chance, every, many, 1)
                for record, row in some_of(every.values.items(), 100):
                    expected = [every.holds(row, fact) for fact in facts]
                    self.assertEqual([holds(town, record, fact) for fact in facts], expected)
                    self.assertIs(fits(Log(town, facts), record), all(expected))


class Wrong(Case):
    def records(self):
        return [*no_tuples(), (), DAY, NOTHING[:2], ((3, 1), [], ()), ((3, 1), (("hill", "port", 0, 4),), ())]

    def test_is_record(self):
        for town in no_towns():
            for given in (PLAIN, None, ()):
                self.assert_raised(NotATown, {"given": town}, is_record, town, given)
                self.assert_raised(NotATown, {"given": town}, is_record, value=given, town=town)

    def test_contents(self):
        self.assert_first_error(contents, [
            ("town", [make_town()], NotATown, no_towns()),
            ("record", [PLAIN], InvalidRecord, self.records()),
        ])

    def test_value(self):
        self.assert_first_error(value, [
            ("town", [make_town()], NotATown, no_towns()),
            ("record", [PLAIN, ROUND_TRIP], InvalidRecord, self.records()),
            ("ask", ["bikes", "way 1"], InvalidAsk, no_asks()),
        ])

    def test_holds(self):
        self.assert_first_error(holds, [
            ("town", [make_town()], NotATown, no_towns()),
            ("record", [PLAIN, ROUND_TRIP], InvalidRecord, self.records()),
            ("fact", ["bikes is 4", "van 0 is 1"], InvalidFact, no_facts()),
        ])

    def test_fits(self):
        self.assert_first_error(fits, [
            ("log", [make_log(), Log(make_town())], NotALog, no_logs()),
            ("record", [PLAIN], InvalidRecord, self.records()),
        ])

    def test_nothing_that_was_passed_is_changed(self):
        rows = [["hill", "port", 0, 1]]
        record = ([3, 1], tuple(rows), ())
        self.assertIs(is_record(make_town(), record), False)
        self.assertEqual(record, ([3, 1], (["hill", "port", 0, 1],), ()))
        log = make_log()
        self.assertIs(fits(log, PLAIN), True)
        self.assertEqual((log.facts, PLAIN), (FACTS, ((3, 1), (("hill", "port", 0, 2),), ())))

    def test_values_that_are_no_strings_are_never_asked(self):
        for given in no_strings():
            self.assertIs(is_record(make_town(), ((3, 1), ((given, given, given, given),), ())), False)
            self.assertIs(is_record(make_town(), ((3, 1), (), ((given, given, 0, 1),))), False)
            if isinstance(given, bool) or not isinstance(given, int):
                self.assertIs(is_record(make_town(), ((given, given), (), ())), False)


if __name__ == "__main__":
    unittest.main()
