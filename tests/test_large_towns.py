"""Ranges in large towns with random facts: both ends are reached, and no shift of bikes leads beyond them."""

import itertools
import random
import unittest

from bikestands.logs import Log
from bikestands.ranges import (
    ask_range, end_record, fewest_vans, possible, profile, some_record, surely_empty, surely_full, surely_moved,
)
from bikestands.records import fits, is_record, value
from bikestands.towns import Town
from bikestands.wrongs import adds, spare, wrongs
from tests.every_record import random_fact, taken_apart
from tests.samples import asks_of
from tests.shifts import has_shift

NAMES = "abcde"


def random_town(chance, most_size):
    stands = tuple([(name, chance.randint(1, most_size)) for name in NAMES])
    pairs = chance.sample([(start, end) for start in NAMES for end in NAMES], 12)
    return Town(8, stands, tuple([(start, end, chance.randint(1, 3)) for start, end in pairs]))


def random_log(chance, most_size):
    """A log that is possible, with twelve facts near a record that is not like others."""
    town = random_town(chance, most_size)
    asks = asks_of(town)
    record = end_record(Log(town), chance.choice(asks), chance.choice(("least", "most")))
    plain = [ask for ask in asks if town.is_fact(f"{ask} is 0")]
    facts = []
    for ask in chance.sample(plain, 12):
        fact = random_fact(chance, ask, value(town, record, ask))
        # The numbers that are told may be beside that of the record only as far as the fact holds.
        facts.append(fact if fits(Log(town, (fact,)), record) else f"{ask} is {value(town, record, ask)}")
    return Log(town, tuple(facts))


def clashing_logs(seed, many):
    """So many logs that are not possible, made of facts from two records of the same town."""
    chance = random.Random(seed)
    found = []
    while len(found) < many:
        one = random_log(chance, 40)
        record = end_record(Log(one.town), chance.choice(("bikes", "all rides", "way 3")), "most")
        asks = [taken_apart(fact)[0] for fact in one.facts[:4]]
        log = Log(one.town, one.facts[:4] + tuple([f"{ask} is {value(one.town, record, ask)}" for ask in asks]))
        if not possible(log):
            found.append(log)
    return found


def logs(seed, many):
    chance = random.Random(seed)
    return [random_log(chance, most_size) for _ in range(many) for most_size in (3, 40)]


class Large(unittest.TestCase):
    def test_both_ends_of_ranges(self):
        chance = random.Random(1)
        for log in logs(1, 5):
            asks = asks_of(log.town)
            sums = [ask for ask in asks if not log.town.is_fact(f"{ask} is 0")]
            for ask in [*chance.sample(asks, 6), *chance.sample(sums, 6)]:
                ends = ask_range(log, ask)
                for word, end in zip(("least", "most"), ends):
                    record = end_record(log, ask, word)
                    self.assertIs(is_record(log.town, record), True)
                    self.assertIs(fits(log, record), True)
                    self.assertEqual(value(log.town, record, ask), end, (str(log), ask))
                    self.assertFalse(has_shift(log, record, ask, word), (str(log), ask, word))

    def test_shifts_are_found_where_there_are_some(self):
        found = 0
        for log in logs(2, 2):
            record = some_record(log)
            self.assertIs(fits(log, record), True)
            for ask in asks_of(log.town)[::5]:
                number = value(log.town, record, ask)
                for word, end in zip(("least", "most"), ask_range(log, ask)):
                    self.assertIs(has_shift(log, record, ask, word), number != end, (str(log), ask, word))
                    found += number != end
        self.assertGreater(found, 50)

    def test_what_is_sure_and_the_fewest_vans(self):
        for log in logs(3, 4):
            town = log.town
            ranges = {name: profile(log, name) for name in town.names}
            moments = range(town.slots + 1)
            rows = [(name, moment, size) for name, size in town.stands for moment in moments]
            full = [(name, moment) for name, moment, size in rows if ranges[name][moment][0] == size]
            empty = [(name, moment) for name, moment, _ in rows if ranges[name][moment][1] == 0]
            self.assertEqual((surely_full(log), surely_empty(log)), (tuple(full), tuple(empty)))
            for name, moment, _ in rows[::5]:
                self.assertEqual(ranges[name][moment], ask_range(log, f"count {name} {moment}"))
            moved = [slot for slot in range(town.slots) if ask_range(log, f"van {slot}")[0] > 0]
            self.assertEqual(surely_moved(log), tuple(moved))
            self.assertIs(fits(log, fewest_vans(log)), True)
            self.assertEqual(value(town, fewest_vans(log), "all vans"), ask_range(log, "all vans")[0])

    def test_spare_facts(self):
        for log in logs(4, 3):
            self.assertEqual(wrongs(log), ((),))
            found = spare(log)
            for index, fact in enumerate(log.facts):
                low, high = ask_range(log.without(index), taken_apart(fact)[0])
                least, most = log.bounds(index)
                beyond = (least is not None and low < least) or (most is not None and high > most)
                self.assertIs(index in found, not beyond, (str(log), index))
                self.assertIs(adds(log, index), beyond, (str(log), index))

    def test_wrongs(self):
        for log in clashing_logs(5, 8):
            sets = {many: itertools.combinations(range(len(log)), many) for many in range(len(log) + 1)}
            least = []
            for many in sets:
                for dropped in sets[many]:
                    kept = tuple(fact for index, fact in enumerate(log.facts) if index not in dropped)
                    if not any(set(one) <= set(dropped) for one in least) and possible(Log(log.town, kept)):
                        least.append(dropped)
            self.assertEqual(wrongs(log), tuple(least), str(log))
            self.assertNotEqual(least, [()])


if __name__ == "__main__":
    unittest.main()
