"""What readings would tell, in small towns against all of their records, and in large ones value by value."""

import random
import unittest

from bikestands.errors import Impossible, InvalidAsk, InvalidReadings, NotALog
from bikestands.logs import Log
from bikestands.ranges import ask_range
from bikestands.readings import after, best_reading, settled
from bikestands.towns import Town
from tests.cases import Case
from tests.every_record import plain_asks_of, random_logs
from tests.samples import (
    asks_of, make_impossible, make_log, make_slow, make_town, no_asks, no_logs, no_strings, no_tuples,
)
from tests.test_large_towns import logs

SUMS = ("way 1", "all rides", "all vans", "road hill port", "from hill", "to port")


def no_readings():
    """Values that are no plain asks of the town."""
    return [*no_asks(), *SUMS, "bikes is 3", "count hill 0 is 3"]


def width_behind(every, rows, ask, reading):
    """The greatest width of the ask, for each value that the reading has in these rows."""
    numbers = {}
    for row in rows:
        numbers.setdefault(row[every.columns[reading]], []).append(row[every.columns[ask]])
    return max(max(group) - min(group) for group in numbers.values())


def possible_logs(seed, many_logs):
    for every, log, rows in random_logs(seed, many_logs, 6, (0, 0, 1)):
        if rows:
            yield every, log, rows


class Small(unittest.TestCase):
    """Small towns, against all of their records."""

    def test_widths_for_every_ask(self):
        chance = random.Random(1)
        seen = {}
        for every, log, rows in possible_logs(1, 5):
            plain = plain_asks_of(every)
            for ask in every.asks:
                for reading in chance.sample(plain, 3):
                    expected = width_behind(every, rows, ask, reading)
                    self.assertEqual(after(log, ask, reading), expected, (str(log), ask, reading))
                    seen[expected] = seen.get(expected, 0) + 1
        self.assertGreater(min(seen[width] for width in range(4)), 20)

    def test_widths_behind_every_reading(self):
        chance = random.Random(2)
        for every, log, rows in possible_logs(2, 4):
            for ask in chance.sample(every.asks, 4):
                for reading in plain_asks_of(every):
                    expected = width_behind(every, rows, ask, reading)
                    self.assertEqual(after(log, ask, reading), expected, (str(log), ask, reading))

    def test_the_best_reading_and_what_is_settled(self):
        chance = random.Random(3)
        sooner, several, settling = 0, 0, 0
        for every, log, rows in possible_logs(3, 8):
            plain = plain_asks_of(every)
            for ask in chance.sample(every.asks, 4):
                readings = tuple(chance.choices(plain, k=chance.randint(1, 6)))
                widths = [width_behind(every, rows, ask, reading) for reading in readings]
                at = widths.index(min(widths))
                self.assertIs(best_reading(log, ask, readings), readings[at], (str(log), ask, readings))
                expected = tuple(index for index, width in enumerate(widths) if width == 0)
                self.assertEqual(settled(log, ask, readings), expected, (str(log), ask, readings))
                sooner += at > 0
                several += widths.count(min(widths)) > 1
                settling += 0 < len(expected) < len(readings)
        self.assertGreater(min(sooner, several, settling), 20)

    def test_logs_that_are_not_possible(self):
        seen = 0
        for every, log, rows in random_logs(4, 8, 6, (1, 2)):
            if not rows:
                seen += 1
                ask, reading = every.asks[1], plain_asks_of(every)[0]
                for call in (after, lambda *told: best_reading(*told[:2], told[2:]),
                             lambda *told: settled(*told[:2], told[2:])):
                    with self.assertRaises(Impossible, msg=str(log)):
                        call(log, ask, reading)
        self.assertGreater(seen, 10)


class Large(unittest.TestCase):
    """Large towns, for each value of the reading by itself."""

    def width_told(self, log, ask, reading):
        low, high = ask_range(log, reading)
        ends = [ask_range(log.with_fact(f"{reading} is {number}"), ask) for number in range(low, high + 1)]
        return max(most - least for least, most in ends)

    def test_against_each_value(self):
        chance = random.Random(5)
        for log in logs(6, 2):
            eleven = log.without(11)
            asks = asks_of(log.town)
            plain = [ask for ask in asks if log.town.is_fact(f"{ask} is 0")]
            for ask, reading in [*zip(chance.sample(asks, 4), chance.sample(plain, 4)), ("all rides", "bikes")]:
                expected = self.width_told(eleven, ask, reading)
                self.assertEqual(after(eleven, ask, reading), expected, (str(eleven), ask, reading))

    def test_a_log_with_twelve_facts(self):
        for log in logs(7, 1):
            twelve = log.without(11).with_fact(log.facts[0])
            for ask, reading in (("all rides", "bikes"), ("way 4", "count a 4"), ("bikes", "van 3")):
                expected = self.width_told(log.without(11), ask, reading)
                self.assertEqual(after(twelve, ask, reading), expected, str(log))

    def test_a_town_without_facts(self):
        stands = tuple([(name, 40) for name in "abcde"])
        log = Log(Town(8, stands, tuple([(start, end, 3) for start, end in zip("abcde", "bcdea")])))
        self.assertEqual(after(log, "bikes", "bikes"), 0)
        # In the beginning no bike is under way; later those that are not at a can be.
        self.assertEqual(after(log, "bikes", "count a 0"), 160)
        self.assertEqual(after(log, "bikes", "count a 3"), 200)
        self.assertEqual(after(log, "count a 3", "bikes"), 40)
        self.assertEqual(after(log, "all vans", "bikes"), 1600)
        self.assertEqual(after(log, "all rides", "van 4"), 600)
        self.assertEqual(settled(log, "bikes", ("count a 0", "bikes", "van 1", "bikes")), (1, 3))
        self.assertEqual(best_reading(log, "bikes", ("van 1", "count a 0", "count b 0")), "count a 0")


class ByHand(unittest.TestCase):
    def test_the_document(self):
        log = make_log()
        self.assertEqual(after(log, "all rides", "count hill 2"), 2)
        self.assertEqual(after(log, "all rides", "rides hill port 1"), 0)
        readings = ("count hill 2", "rides port hill 0", "rides hill port 1")
        self.assertEqual(best_reading(log, "all rides", readings), "rides hill port 1")
        self.assertEqual(settled(log, "way 2", ("count hill 2", "left port 1", "bikes")), (0, 1))

    def test_by_name(self):
        log = make_log()
        self.assertEqual(after(reading="count hill 2", ask="all rides", log=log), 2)
        self.assertEqual(best_reading(readings=("bikes",), ask="all rides", log=log), "bikes")
        self.assertEqual(settled(readings=("count hill 2", "bikes"), ask="way 2", log=log), (0,))

    def test_the_greatest_width_lies_between_the_values(self):
        log = Log(Town(1, (("a", 4), ("b", 4))), ("bikes is 4", "count b 0 is 0"))
        # With X of the four bikes at a behind it, from 4 - X to 4 were moved.
        self.assertEqual(after(log, "van 0", "count a 1"), 4)
        self.assertEqual(after(log.with_fact("van 0 most 2"), "van 0", "count a 1"), 2)
        log = Log(Town(1, (("a", 4), ("b", 4))), ("bikes is 4", "van 0 is 0"))
        self.assertEqual(after(log, "count a 1", "count a 0"), 0)
        # With two bikes at each stand between, up to two of each can change places; with all at one, none can.
        ride = Log(Town(2, (("a", 4), ("b", 4)), (("a", "b", 1), ("b", "a", 1))),
                   ("count a 0 is 4", "count b 0 is 0", "count a 2 is 2", "van 0 is 0", "van 1 is 0"))
        self.assertEqual(after(ride, "all rides", "count a 1"), 4)
        self.assertEqual([after(ride.with_fact(f"count a 1 is {number}"), "all rides", "bikes") for number in range(5)],
                         [0, 2, 4, 2, 0])

    def test_sums_may_have_gaps(self):
        # One bike rides there and back, or not at all.
        log = Log(Town(2, (("a", 1), ("b", 1)), (("a", "b", 1), ("b", "a", 1))),
                  ("count a 0 is 1", "count b 0 is 0", "count a 2 is 1", "van 0 is 0", "van 1 is 0"))
        self.assertEqual(after(log, "all rides", "bikes"), 2)
        self.assertEqual(after(log, "all rides", "count a 1"), 0)
        self.assertEqual(settled(log, "all rides", ("bikes", "count b 1", "van 0", "left a 0")), (1, 3))

    def test_the_same_reading_twice_and_the_first_of_several(self):
        log = make_log()
        self.assertEqual(best_reading(log, "all rides", ("bikes", "bikes")), "bikes")
        self.assertEqual(settled(log, "bikes", ("van 0", "van 0", "count hill 0")), (0, 1, 2))
        self.assertEqual(best_reading(log, "bikes", ("van 1", "van 0", "bikes")), "van 1")
        self.assertEqual(settled(log, "all rides", ("bikes", "van 1")), ())

    def test_six_readings(self):
        readings = ("bikes", "van 0", "van 1", "count hill 0", "count hill 1", "rides hill port 1")
        self.assertEqual(best_reading(make_log(), "all rides", readings), "rides hill port 1")
        self.assertEqual(settled(make_log(), "all rides", readings), (5,))

    def test_kinds_of_values(self):
        self.assertIs(after(make_log(), "bikes", "bikes").__class__, int)
        for result in (settled(make_log(), "bikes", ("bikes",)), settled(make_log(), "all rides", ("bikes",))):
            self.assertIs(result.__class__, tuple)
        self.assertIs(settled(make_log(), "bikes", ("bikes",))[0].__class__, int)

    def test_the_log_stays_as_it_is(self):
        log = make_log()
        after(log, "all rides", "bikes"), settled(log, "all rides", ("bikes",)), best_reading(log, "bikes", ("bikes",))
        self.assertEqual(log, make_log())


class Wrong(Case):
    def test_after(self):
        self.assert_first_error(after, [
            ("log", [make_log(), make_impossible()], NotALog, no_logs()),
            ("ask", ["bikes", "all rides"], InvalidAsk, no_asks()),
            ("reading", ["bikes", "count hill 0"], InvalidAsk, no_readings()),
        ])

    def test_logs_and_asks_come_before_readings(self):
        for function in (best_reading, settled):
            for readings in (("bikes",), (), "bikes", ("way 1",)):
                for log in no_logs():
                    for ask in ("bikes", None, ""):
                        self.assert_raised(NotALog, {"given": log}, function, log, ask, readings)
                        self.assert_raised(NotALog, {"given": log}, function, readings=readings, ask=ask, log=log)
                for ask in no_asks():
                    self.assert_raised(InvalidAsk, {"given": ask}, function, make_log(), ask, readings)
                    self.assert_raised(InvalidAsk, {"given": ask}, function, make_impossible(), ask, readings)

    def test_readings(self):
        right = ("bikes", "count hill 2", "left port 1", "came hill 1", "rides port hill 0", "van 1")
        cases = [(value, None) for value in [*no_tuples(), (), list(right), dict.fromkeys(right)]]
        for wrong in no_readings():
            for at in range(6):
                cases.append(((*right[:at], wrong, *right[at + 1:]), at))
            cases += [((wrong,), 0), ((wrong, wrong), 0), ((*right, wrong), 6), ((*right[:4], wrong, wrong), 4)]
        cases += [((*right, "bikes"), 6), (("bikes",) * 7, 6), (("bikes",) * 100, 6), ((right,), 0), (((),), 0)]
        for function in (best_reading, settled):
            for log in (make_log(), make_slow(), make_impossible()):
                self.assert_elements_error(function, (log, "all rides"), ("log", "ask", "readings"), InvalidReadings,
                                           cases)

    def test_readings_of_another_town(self):
        log = Log(Town(1, (("a", 1),)))
        for reading in ("count hill 0", "count a 2", "van 1", "rides a a 0"):
            self.assert_raised(InvalidAsk, {"given": reading}, after, log, "bikes", reading)
            self.assert_raised(InvalidReadings, {"index": 1}, settled, log, "bikes", ("count a 1", reading))

    def test_impossible_comes_last(self):
        log = make_impossible()
        self.assert_raised(Impossible, {}, after, log, "bikes", "bikes")
        self.assert_raised(Impossible, {}, best_reading, log, "bikes", ("bikes", "van 0"))
        self.assert_raised(Impossible, {}, settled, log, "bikes", ("bikes", "van 0"))

    def test_strings_alone_are_asks(self):
        log = Log(make_town())
        for value in no_strings():
            self.assert_raised(InvalidReadings, {"index": 0}, settled, log, "bikes", (value,))


if __name__ == "__main__":
    unittest.main()
