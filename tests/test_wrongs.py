"""Which facts must be wrong and which are spare, in small towns against all of their records, and by hand."""

import itertools
import random
import unittest

from bikestands.errors import InvalidPlace, NotALog
from bikestands.logs import Log
from bikestands.ranges import possible
from bikestands.towns import Town
from bikestands.wrongs import adds, spare, wrongs
from tests.cases import Case
from tests.every_record import EveryRecord, random_facts, small_towns
from tests.samples import make_impossible, make_log, make_slow, make_town, no_logs, no_places


def broken_sets(every, facts):
    """For each record the set of the indexes of those facts that do not hold in it, each set once."""
    return {
        frozenset(index for index, fact in enumerate(facts) if not every.holds(row, fact)) for row in every.rows
    }


def least_sets(sets):
    """Those that have no other one as a part, as the document orders them."""
    least = [one for one in sets if not any(other < one for other in sets)]
    return tuple(sorted([tuple(sorted(one)) for one in least], key=lambda one: (len(one), one)))


class Small(unittest.TestCase):
    def logs(self, seed, many_logs):
        """Random logs, with the sets of facts that do not hold in the records of their towns."""
        chance = random.Random(seed)
        for town in small_towns():
            every = EveryRecord(town)
            for _ in range(many_logs):
                facts = random_facts(chance, every, chance.randint(0, 8), chance.choice((0, 1, 1, 2)))
                yield Log(town, facts), broken_sets(every, facts)

    def test_all_least_sets(self):
        seen = {True: 0, False: 0}
        lengths = {}
        for log, broken in self.logs(1, 40):
            expected = least_sets(broken)
            self.assertEqual(wrongs(log), expected, str(log))
            seen[expected == ((),)] += 1
            for one in expected:
                lengths[len(one)] = lengths.get(len(one), 0) + 1
        self.assertGreater(min(seen.values()), 50)
        self.assertGreater(min(lengths[many] for many in (1, 2, 3)), 10)

    def test_what_adds_and_what_is_spare(self):
        # Whether the log is possible, and whether the fact adds something.
        seen = {pair: 0 for pair in itertools.product((True, False), repeat=2)}
        for log, broken in self.logs(2, 40):
            expected = [frozenset((index,)) in broken for index in range(len(log))]
            self.assertEqual([adds(log, index) for index in range(len(log))], expected, str(log))
            self.assertEqual(spare(log), tuple(index for index in range(len(log)) if not expected[index]), str(log))
            for added in expected:
                seen[frozenset() in broken, added] += 1
        self.assertGreater(min(seen.values()), 20)


class ByHand(unittest.TestCase):
    def test_the_document(self):
        self.assertEqual(wrongs(make_impossible()), ((0,), (2,), (4,)))
        self.assertEqual(spare(make_log()), ())
        self.assertIs(adds(make_log(), 4), True)
        self.assertEqual(wrongs(make_log()), ((),))

    def test_by_name(self):
        self.assertEqual(wrongs(log=make_impossible()), ((0,), (2,), (4,)))
        self.assertEqual(spare(log=make_log()), ())
        self.assertIs(adds(index=4, log=make_log()), True)

    def test_no_facts(self):
        self.assertEqual(wrongs(Log(make_town())), ((),))
        self.assertEqual(spare(Log(make_town())), ())

    def test_equal_facts(self):
        town = make_town()
        log = Log(town, ("bikes is 3", "bikes is 3", "bikes is 4"))
        self.assertEqual(wrongs(log), ((2,), (0, 1)))
        self.assertEqual(spare(log), (0, 1))
        self.assertEqual([adds(log, index) for index in range(3)], [False, False, True])
        self.assertEqual(spare(Log(town, ("bikes is 3", "bikes is 3"))), (0, 1))
        self.assertEqual(spare(Log(town, ("bikes is 3", "bikes from 3 to 3", "bikes least 2"))), (0, 1, 2))

    def test_facts_that_tell_nothing(self):
        log = Log(make_town(), ("bikes most 7", "bikes least 0", "count hill 0 from 0 to 4", "van 1 most 9999",
                                "came hill 0 is 0", "count port 1 most 2", "count port 1 most 3"))
        self.assertEqual(spare(log), (0, 1, 2, 3, 4, 6))
        self.assertIs(adds(log, 5), True)

    def test_each_bound_of_a_fact(self):
        for fact, expected in (
            ("bikes from 0 to 6", True), ("bikes from 1 to 7", True), ("bikes from 0 to 7", False),
            ("bikes is 7", True), ("bikes is 0", True), ("bikes least 1", True), ("bikes least 0", False),
            ("bikes most 6", True), ("bikes most 7", False),
        ):
            log = Log(make_town(), (fact,))
            self.assertIs(adds(log, 0), expected, fact)
            self.assertEqual(spare(log), () if expected else (0,), fact)

    def test_facts_that_each_cannot_be(self):
        log = Log(make_town(), ("bikes is 8", "bikes is 3", "count hill 0 is 5", "came hill 0 is 1"))
        self.assertEqual(wrongs(log), ((0, 2, 3),))
        self.assertEqual(spare(log), (0, 1, 2, 3))
        log = Log(make_town(), ("count hill 0 is 9999",) * 12)
        self.assertEqual(wrongs(log), (tuple(range(12)),))
        log = Log(make_town(), ("bikes is 3", "bikes is 8"))
        self.assertEqual((wrongs(log), adds(log, 0), adds(log, 1)), (((1,),), False, True))

    def test_shorter_sets_come_first_then_the_ascending_ones(self):
        facts = ("van 0 is 0", "van 1 is 0", "count a 0 is 1", "count b 0 is 0", "count b 2 is 1", "bikes is 2")
        # Two bikes lie at both stands in the beginning; and if no van brings a bike to b, it has been there all along.
        log = Log(Town(2, (("a", 1), ("b", 1))), facts)
        self.assertEqual(wrongs(log), ((3,), (0, 5), (1, 5), (4, 5)))
        self.assertEqual([adds(log, index) for index in range(6)], [False, False, False, True, False, False])
        self.assertEqual(spare(log), (0, 1, 2, 4, 5))

    def test_many_sets(self):
        # Each ride needs a bike, and all of them are under way at once: of twelve facts one, or six rides, are wrong.
        stands = tuple([(name, 40) for name in "abcde"])
        roads = tuple([(start, end, 3) for start in "abcd" for end in "abc"])
        rides = [f"rides {start} {end} 0 least 1" for start, end, _ in roads[:11]]
        log = Log(Town(3, stands, roads), ("bikes most 5", *rides))
        self.assertEqual(wrongs(log), ((0,), *itertools.combinations(range(1, 12), 6)))
        self.assertEqual(spare(log), tuple(range(1, 12)))

    def test_counts_of_which_any_two_pairs_clash(self):
        # Both counts of a moment tell how many bikes there are, each time otherwise: one pair alone can be right.
        facts = tuple([f"count {name} {moment} is {10 + moment}" for moment in range(6) for name in "ab"])
        log = Log(Town(8, (("a", 40), ("b", 40))), facts)
        pairs = [(2 * moment, 2 * moment + 1) for moment in range(6)]
        expected = []
        for right in pairs:
            expected += itertools.product(*[pair for pair in pairs if pair != right])
        self.assertEqual(wrongs(log), tuple(sorted(expected)))
        self.assertEqual(len(wrongs(log)), 192)

    def test_without_each_set_the_log_is_possible(self):
        facts = tuple([f"count {name} {moment} is {3 * moment}" for moment in range(6) for name in "ab"])
        town = Town(8, (("a", 40), ("b", 40)))
        found = wrongs(Log(town, facts))
        self.assertGreater(len(found), 100)
        for dropped in found:
            kept = tuple([fact for index, fact in enumerate(facts) if index not in dropped])
            self.assertIs(possible(Log(town, kept)), True)
            for index in dropped:
                self.assertIs(possible(Log(town, (*kept, facts[index]))), False)

    def test_the_log_stays_as_it_is(self):
        log = make_impossible()
        wrongs(log), spare(log), adds(log, 0)
        self.assertEqual(log, make_impossible())

    def test_kinds_of_values(self):
        for result in (wrongs(make_log()), wrongs(make_impossible()), wrongs(make_impossible())[0], spare(make_slow())):
            self.assertIs(result.__class__, tuple)
        self.assertIs(wrongs(make_impossible())[1][0].__class__, int)


class Wrong(Case):
    def test_logs(self):
        for function in (wrongs, spare):
            self.assert_first_error(function, [("log", [make_log(), make_impossible()], NotALog, no_logs())])

    def test_adds(self):
        self.assert_first_error(adds, [
            ("log", [make_log()], NotALog, no_logs()),
            ("index", [0, 5], InvalidPlace, no_places(6)),
        ])
        for log in (Log(make_town()), make_impossible()):
            for index in no_places(len(log)):
                self.assert_raised(InvalidPlace, {"given": index}, adds, log, index)


if __name__ == "__main__":
    unittest.main()
