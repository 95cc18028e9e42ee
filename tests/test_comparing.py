"""Two logs beside one another, in small towns against all of their records, and by hand."""

import random
import unittest

from bikestands.comparing import alike, apart, joined, within
from bikestands.errors import NotALog, OtherTown, TooMany
from bikestands.logs import Log
from bikestands.ranges import possible
from bikestands.records import fits
from bikestands.towns import Town
from tests.cases import Case
from tests.every_record import every_small_town, random_facts
from tests.samples import FACTS, ROADS, STANDS, make_impossible, make_log, make_slow, make_town, no_logs
from tests.test_large_towns import logs

FUNCTIONS = (within, alike, joined, apart)


def changed(chance, facts, more):
    """The facts in another order, perhaps without some and with some more."""
    kept = chance.sample(facts, chance.randint(max(0, len(facts) - 2), len(facts)))
    return tuple([*kept, *chance.sample(more, chance.randint(0, min(1, len(more))))])


def pairs(seed, many):
    """So many pairs of logs of each small town, many of them nearly the same, with all records of the town."""
    chance = random.Random(seed)
    for every in every_small_town():
        for _ in range(many):
            off = chance.choice((0, 0, 1, 2))
            facts = random_facts(chance, every, chance.randint(0, 6), off)
            more = random_facts(chance, every, chance.randint(0, 3), off)
            others = chance.choice((more, changed(chance, facts, more), changed(chance, facts, ())))
            yield every, Log(every.town, facts), Log(every.town, others)


class Small(unittest.TestCase):
    """Small towns, against all of their records."""

    def test_within(self):
        seen = {}
        for every, one, other in pairs(1, 60):
            of_one, of_other = every.fitting(one.facts), every.fitting(other.facts)
            found = within(one, other)
            if set(of_one) <= set(of_other):
                self.assertIsNone(found, (str(one), other.facts))
            else:
                self.assertIn(found, every.values)
                self.assertIn(every.values[found], of_one, (str(one), other.facts))
                self.assertNotIn(every.values[found], of_other, (str(one), other.facts))
            key = (found is None, bool(of_one), bool(of_other))
            seen[key] = seen.get(key, 0) + 1
        # A log that is not possible is within each one, and so beside no record of its own.
        self.assertGreater(min(seen.values()), 20)
        self.assertEqual(len(seen), 5)

    def test_alike(self):
        seen = {}
        for every, one, other in pairs(2, 60):
            of_one, of_other = every.fitting(one.facts), every.fitting(other.facts)
            self.assertIs(alike(one, other), of_one == of_other, (str(one), other.facts))
            key = (of_one == of_other, bool(of_one), bool(of_other))
            seen[key] = seen.get(key, 0) + 1
        self.assertGreater(min(seen.values()), 10)
        self.assertEqual(len(seen), 5)

    def test_apart(self):
        lengths = {}
        for every, one, other in pairs(3, 60):
            rows = every.fitting(one.facts)
            broken = [not all(every.holds(row, fact) for row in rows) for fact in other.facts]
            expected = tuple(index for index, wrong in enumerate(broken) if wrong)
            self.assertEqual(apart(one, other), expected, (str(one), other.facts))
            lengths[len(expected)] = lengths.get(len(expected), 0) + 1
        self.assertGreater(min(lengths[many] for many in range(4)), 5)

    def test_joined(self):
        for every, one, other in pairs(4, 30):
            expected = list(one.facts)
            for fact in other.facts:
                if fact not in one.facts:
                    expected.append(fact)
            found = joined(one, other)
            self.assertEqual((found.town, found.facts), (every.town, tuple(expected)))
            both = set(every.fitting(one.facts)) & set(every.fitting(other.facts))
            self.assertEqual(set(every.fitting(found.facts)), both)


class Large(unittest.TestCase):
    def test_each_fact_by_itself(self):
        for log in logs(11, 3):
            for index, fact in enumerate(log.facts):
                fewer, alone = log.without(index), Log(log.town, (fact,))
                adding = within(fewer, log) is not None
                self.assertIs(alike(fewer, log), not adding)
                self.assertIs(alike(log, fewer), not adding)
                self.assertEqual(apart(fewer, log), (index,) if adding else (), str(log))
                self.assertIsNone(within(log, fewer))
                self.assertIsNone(within(log, alone))
                self.assertEqual(apart(log, alone), ())
                if adding:
                    record = within(fewer, log)
                    self.assertIs(fits(fewer, record), True)
                    self.assertIs(fits(alone, record), False)


class ByHand(unittest.TestCase):
    def test_the_document(self):
        log = make_log()
        bare = Log(log.town, log.facts[:4])
        self.assertIsNone(within(log, bare))
        self.assertIs(alike(log, bare), False)
        self.assertEqual(apart(bare, log), (4, 5))
        self.assertTrue(joined(bare, log) == log)
        self.assertIs(fits(log, within(bare, log)), False)
        self.assertIs(fits(bare, within(bare, log)), True)

    def test_by_name(self):
        log = make_log()
        bare = Log(log.town, log.facts[:4])
        self.assertIsNone(within(other=bare, one=log))
        self.assertIsNotNone(within(other=log, one=bare))
        self.assertIs(alike(other=log, one=log), True)
        self.assertEqual(apart(other=log, one=bare), (4, 5))
        self.assertEqual(joined(other=log, one=bare).facts, log.facts)
        alone = Log(log.town, log.facts[1:2])
        self.assertEqual(joined(other=bare, one=alone).facts, FACTS[1:2] + FACTS[:1] + FACTS[2:4])

    def test_logs_that_are_not_possible(self):
        bad, worse, log = make_impossible(), Log(make_town(), ("bikes is 8",)), make_log()
        for one in (bad, worse):
            for other in (bad, worse, log, Log(make_town())):
                self.assertIsNone(within(one, other))
                self.assertEqual(apart(one, other), ())
        self.assertIs(alike(bad, worse), True)
        self.assertIs(alike(bad, log), False)
        self.assertIs(alike(log, bad), False)
        self.assertIs(fits(log, within(log, bad)), True)
        self.assertEqual(apart(log, worse), (0,))
        facts = ("bikes is 8", "bikes most 8", "bikes least 8")
        self.assertEqual(apart(Log(make_town()), Log(make_town(), facts)), (0, 2))
        self.assertIs(possible(joined(make_slow(), log)), False)

    def test_facts_told_otherwise(self):
        town = make_town()
        one = Log(town, ("bikes from 3 to 4", "bikes from 4 to 5"))
        self.assertIs(alike(one, Log(town, ("bikes is 4",))), True)
        self.assertIs(alike(one, Log(town, ("bikes least 4", "bikes most 4", "bikes most 7", "van 0 least 0"))), True)
        self.assertIs(alike(one, Log(town, ("bikes least 4",))), False)
        nothing = ("bikes from 0 to 7", "count hill 1 most 4", "came hill 0 is 0")
        self.assertIs(alike(Log(town), Log(town, nothing)), True)
        self.assertEqual(apart(one, Log(town, ("bikes is 4", "bikes is 3", "bikes is 4", "bikes is 3"))), (1, 3))
        self.assertEqual(apart(one, Log(town)), ())

    def test_one_bound_that_fails(self):
        town = make_town()
        one = Log(town, ("bikes from 3 to 5",))
        for fact, expected in (
            ("bikes least 3", ()), ("bikes least 4", (0,)), ("bikes most 5", ()), ("bikes most 4", (0,)),
            ("bikes from 3 to 5", ()), ("bikes from 4 to 5", (0,)), ("bikes from 3 to 4", (0,)), ("bikes is 4", (0,)),
        ):
            other = Log(town, (fact,))
            self.assertEqual(apart(one, other), expected, fact)
            self.assertIs(within(one, other) is None, expected == (), fact)

    def test_joined_facts_stand_as_often_as_they_stand(self):
        town = make_town()
        one = Log(town, ("bikes is 3", "van 0 is 0", "bikes is 3"))
        other = Log(town, ("van 1 is 0", "bikes is 3", "van 1 is 0", "bikes from 3 to 3", "van 0 is 0", "bikes is 4"))
        added = ("van 1 is 0", "van 1 is 0", "bikes from 3 to 3", "bikes is 4")
        self.assertEqual(joined(one, other).facts, one.facts + added)
        self.assertEqual(joined(other, one).facts, other.facts)
        self.assertEqual(joined(one, one).facts, one.facts)
        self.assertEqual(joined(Log(town), one).facts, one.facts)
        self.assertEqual(joined(one, Log(town)).facts, one.facts)
        self.assertEqual(joined(one, other).town, town)
        self.assertIs(joined(one, other).__class__, Log)

    def test_twelve_together(self):
        town = make_town()
        one = Log(town, tuple([f"bikes least {number}" for number in range(8)]))
        four = Log(town, ("van 0 is 0", "bikes least 3", "van 0 is 1", "van 0 is 2", "bikes least 0", "van 0 is 3"))
        self.assertEqual(len(joined(one, four)), 12)
        self.assertEqual(joined(four, one).facts[6:], tuple([f"bikes least {number}" for number in (1, 2, 4, 5, 6, 7)]))
        twelve = Log(town, ("bikes is 3",) * 12)
        self.assertEqual(joined(twelve, twelve), twelve)
        self.assertEqual(joined(twelve, Log(town, ("bikes is 3",))), twelve)
        self.assertEqual(joined(Log(town, ("bikes is 3",)), twelve).facts, ("bikes is 3",))

    def test_a_log_beside_itself(self):
        for log in (make_log(), make_slow(), make_impossible(), Log(make_town())):
            self.assertIsNone(within(log, log))
            self.assertIs(alike(log, log), True)
            self.assertEqual(apart(log, log), ())
            self.assertEqual(joined(log, log), log)

    def test_equal_towns_made_twice(self):
        self.assertIs(alike(make_log(), make_log()), True)
        self.assertIs(alike(make_log(), Log.read(str(make_log()))), True)

    def test_equal_calls_return_equal_results(self):
        for one, other in ((make_slow, make_log), (lambda: Log(make_town()), make_slow)):
            self.assertEqual(within(one(), other()), within(one(), other()))

    def test_kinds_of_values(self):
        bare = Log(make_town(), FACTS[:4])
        for result in (within(bare, make_log()), apart(bare, make_log()), apart(make_log(), bare)):
            self.assertIs(result.__class__, tuple)
        self.assertIs(apart(bare, make_log())[0].__class__, int)

    def test_the_logs_stay_as_they_are(self):
        one, other = make_log(), make_slow()
        for function in FUNCTIONS:
            function(one, other)
        self.assertEqual((one, other), (make_log(), make_slow()))


def other_towns():
    """Towns that differ from that of the document in one thing."""
    return [
        Town(3, STANDS, ROADS), Town(2, STANDS), Town(2, STANDS, ROADS[:1]), Town(2, STANDS, ROADS[::-1]),
        Town(2, STANDS[::-1], ROADS), Town(2, (("hill", 4), ("port", 4)), ROADS),
        Town(2, (*STANDS, ("mill", 1)), ROADS), Town(2, STANDS, (*ROADS, ("hill", "hill", 1))),
        Town(2, STANDS, (("hill", "port", 2), ("port", "hill", 2))), Town(2, (("hill", 4), ("porta", 3))),
    ]


class Wrong(Case):
    def test_logs(self):
        for function in FUNCTIONS:
            rights = [make_log(), make_impossible(), Log(other_towns()[0])]
            self.assert_first_error(function, [
                ("one", rights, NotALog, no_logs()),
                ("other", rights, NotALog, no_logs()),
            ])

    def test_other_towns(self):
        for town in other_towns():
            for mine in (make_log(), make_impossible(), Log(make_town()), Log(make_town(), ("bikes is 3",) * 12)):
                for log in (Log(town), Log(town, ("bikes is 8",)), Log(town, ("bikes is 2",) * 12)):
                    for function in FUNCTIONS:
                        self.assert_raised(OtherTown, {}, function, mine, log)
                        self.assert_raised(OtherTown, {}, function, log, mine)
                        self.assert_raised(OtherTown, {}, function, other=mine, one=log)

    def test_more_than_twelve_facts(self):
        town = make_town()
        eight = Log(town, tuple([f"bikes least {number}" for number in range(8)]))
        for facts in (("van 0 is 0",) * 5, ("van 0 is 0",) * 12, ("bikes least 3", *["van 0 is 0"] * 5)):
            self.assert_raised(TooMany, {"most": 12}, joined, eight, Log(town, facts))
            self.assert_raised(TooMany, {"most": 12}, joined, other=Log(town, facts), one=eight)
        twelve = Log(town, ("bikes is 3",) * 12)
        self.assert_raised(TooMany, {"most": 12}, joined, twelve, Log(town, ("bikes is 4",)))
        self.assert_raised(TooMany, {"most": 12}, joined, Log(town, ("bikes is 4",)), twelve)
        for function in (within, alike, apart):
            function(twelve, eight)


if __name__ == "__main__":
    unittest.main()
