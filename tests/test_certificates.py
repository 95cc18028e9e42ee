"""Certificates for ends of ranges and for clashes, in small towns against all of their records, and in large ones."""

import random
import unittest

from bikestands.certificates import certify, certify_least, certify_most, certify_reached
from bikestands.checker import accepts
from bikestands.errors import Impossible, InvalidAsk, InvalidWord, NotALog
from bikestands.logs import Log
from bikestands.ranges import ask_range
from bikestands.towns import Town
from tests.cases import Case
from tests.every_record import random_logs
from tests.papers_told import is_shown
from tests.samples import (
    asks_of, make_impossible, make_log, make_slow, make_town, no_asks, no_logs, no_strings, no_tuples, towns,
)
from tests.test_large_towns import clashing_logs, logs
from tests.test_ranges import FIVE, MARCH, SLOW_RING


class Certificates(unittest.TestCase):
    def assert_shown(self, log, pair, expected):
        """Looks at a claim and a paper, both with the checker and without it."""
        claim, paper = pair
        self.assertEqual(claim, expected)
        self.assertIs(accepts(claim, paper), True, pair)
        self.assertTrue(is_shown(log, claim, paper), pair)

    def assert_ends(self, log, ask, low, high):
        """Looks at all certificates for the range of the ask."""
        text = str(log)
        self.assert_shown(log, certify_least(log, ask), ("least", text, ask, low))
        self.assert_shown(log, certify_most(log, ask), ("most", text, ask, high))
        for word, end in (("least", low), ("most", high)):
            claim, record = certify_reached(log, ask, word)
            self.assertEqual(claim, ("reached", text, ask, end))
            self.assertIs(accepts(claim, record), True, (claim, record))

    def assert_possible(self, log):
        claim, record = certify(log)
        self.assertEqual(claim, ("possible", str(log)))
        self.assertIs(accepts(claim, record), True, (claim, record))

    def assert_clash(self, log):
        self.assert_shown(log, certify(log), ("clash", str(log)))


class Small(Certificates):
    """Small towns, against all of their records."""

    def test_possible_or_clash(self):
        seen = {True: 0, False: 0}
        for every, log, rows in random_logs(1, 40, 7, (0, 0, 1, 2)):
            seen[bool(rows)] += 1
            if rows:
                self.assert_possible(log)
                self.assertIn(certify(log)[1], every.values)
            else:
                self.assert_clash(log)
        self.assertGreater(min(seen.values()), 50, seen)

    def test_ends_of_every_ask(self):
        for every, log, rows in random_logs(2, 8, 6, (0, 0, 1)):
            if rows:
                for ask in every.asks:
                    self.assert_ends(log, ask, *every.ends(rows, ask))

    def test_facts_far_off(self):
        # Numbers that no record of the town comes near to, one such fact alone or beside others.
        chance = random.Random(3)
        clashes = 0
        for every, log, _ in random_logs(4, 15, 5, (0, 9, 9000)):
            words = ("is 9999", "least 9999", "most 9999", "from 0 to 9999", "from 9998 to 9999", "is 0", "most 0")
            for ask in chance.sample([ask for ask in every.asks if every.town.is_fact(f"{ask} is 0")], 2):
                later = log.with_fact(f"{ask} {chance.choice(words)}")
                rows = every.fitting(later.facts)
                clashes += not rows
                if rows:
                    asks = chance.sample(every.asks, 3)
                    self.assert_possible(later)
                    for asked in asks:
                        self.assert_ends(later, asked, *every.ends(rows, asked))
                else:
                    self.assert_clash(later)
        self.assertGreater(clashes, 100)

    def test_every_fact_that_cannot_be_by_itself(self):
        for town in towns():
            for ask in asks_of(town):
                if town.is_fact(f"{ask} is 0"):
                    self.assert_clash(Log(town, (f"{ask} is 9999",)))
                    self.assert_clash(Log(town, (f"{ask} is 9999",) * 12))
                    self.assert_clash(Log(town, (f"{ask} least 1", f"{ask} most 0")))
                    self.assert_clash(Log(town, (f"{ask} from 3 to 5", f"{ask} is 2", f"{ask} from 0 to 9999")))


class Large(Certificates):
    def test_ranges(self):
        chance = random.Random(5)
        for log in logs(31, 4):
            self.assert_possible(log)
            asks = asks_of(log.town)
            sums = [ask for ask in asks if not log.town.is_fact(f"{ask} is 0")]
            for ask in [*chance.sample(asks, 6), *chance.sample(sums, 6)]:
                self.assert_ends(log, ask, *ask_range(log, ask))

    def test_clashes(self):
        for log in clashing_logs(32, 20):
            self.assert_clash(log)

    def test_a_march_along_a_ring(self):
        self.assert_possible(MARCH)
        for ask, low, high in (("all rides", 160, 320), ("road a b", 40, 80), ("way 8", 0, 40), ("to e", 40, 80)):
            self.assert_ends(MARCH, ask, low, high)
        self.assert_clash(MARCH.with_fact("count c 3 least 1"))
        self.assert_clash(MARCH.with_fact("rides a b 0 most 39"))

    def test_a_town_without_facts(self):
        log = Log(Town(8, FIVE, SLOW_RING))
        for ask, high in (("bikes", 200), ("all rides", 600), ("all vans", 1600), ("way 8", 200), ("came a 1", 0)):
            self.assert_ends(log, ask, 0, high)

    def test_twelve_facts_about_rides_at_one_time(self):
        roads = tuple([(start, end, 3) for start in "abcd" for end in "abc"])
        rides = tuple([f"rides {start} {end} 7 least 13" for start in "abcd" for end in "abc"])
        log = Log(Town(8, FIVE, roads), rides)
        for ask, low, high in (("bikes", 156, 200), ("left a 7", 39, 40), ("way 8", 156, 200), ("van 7", 0, 44)):
            self.assert_ends(log, ask, low, high)
        self.assert_clash(log.without(0).with_fact("rides a a 7 least 15"))


class ByHand(Certificates):
    def test_the_document(self):
        log, slow = make_log(), make_slow()
        pairs = (certify(log), certify(slow.with_fact("van 0 is 0")), certify_most(log, "all rides"),
                 certify_least(slow, "all vans"))
        self.assertEqual([pair[0][0] for pair in pairs], ["possible", "clash", "most", "least"])
        self.assertEqual([accepts(*pair) for pair in pairs], [True, True, True, True])
        self.assertEqual((pairs[2][0][3], pairs[3][0][3]), (4, 1))

    def test_by_name(self):
        log = make_log()
        self.assertEqual(certify(log=log), certify(log))
        self.assertEqual(certify_most(ask="all rides", log=log), certify_most(log, "all rides"))
        self.assertEqual(certify_least(ask="all rides", log=log), certify_least(log, "all rides"))
        self.assertEqual(certify_reached(word="least", ask="way 2", log=log), certify_reached(log, "way 2", "least"))

    def test_every_ask_of_the_examples(self):
        for log in (make_log(), make_slow(), Log(make_town())):
            for ask in asks_of(log.town):
                self.assert_ends(log, ask, *ask_range(log, ask))

    def test_facts_told_twice_and_more_loosely(self):
        log = Log(make_town(), ("bikes most 6", "bikes most 5", "bikes most 5", "bikes least 2", "bikes least 3",
                                "bikes least 3", "count hill 0 most 4", "count hill 0 most 5"))
        self.assert_ends(log, "bikes", 3, 5)
        self.assert_ends(log, "count hill 0", 0, 4)
        for pair in (certify_most(log, "bikes"), certify_least(log, "bikes")):
            self.assertEqual(len(pair[1][0]), 1)
        self.assert_clash(log.with_fact("bikes is 6"))
        self.assert_clash(log.with_fact("bikes is 2"))

    def test_rides_that_are_under_way_in_the_end(self):
        log = Log(Town(2, (("a", 4), ("b", 4)), (("a", "b", 3), ("b", "b", 2))), ("left a 1 is 3", "bikes is 5"))
        self.assert_ends(log, "way 2", 3, 5)
        self.assert_ends(log, "to b", 0, 2)
        self.assert_ends(log, "count b 2", 0, 2)
        self.assert_clash(log.with_fact("count b 2 is 3"))

    def test_equal_calls_return_equal_results(self):
        for make in (make_log, make_slow, make_impossible, lambda: MARCH):
            self.assertEqual(certify(make()), certify(make()))
        for make in (make_log, make_slow, lambda: MARCH):
            for ask in asks_of(make().town)[::7]:
                self.assertEqual(certify_most(make(), ask), certify_most(make(), ask))
                self.assertEqual(certify_reached(make(), ask, "most"), certify_reached(make(), ask, "most"))

    def test_kinds_of_values(self):
        log = make_log()
        for pair in (certify(log), certify(make_impossible()), certify_most(log, "bikes"), certify_least(log, "bikes"),
                     certify_reached(log, "bikes", "least")):
            self.assertEqual([value.__class__ for value in (pair, *pair)], [tuple, tuple, tuple])

    def test_the_log_stays_as_it_is(self):
        log = make_log()
        certify(log), certify_most(log, "bikes"), certify_least(log, "bikes"), certify_reached(log, "bikes", "most")
        self.assertEqual(log, make_log())


class Wrong(Case):
    def test_certify(self):
        self.assert_first_error(certify, [("log", [make_log()], NotALog, no_logs())])

    def test_ends(self):
        for function in (certify_most, certify_least):
            self.assert_first_error(function, [
                ("log", [make_log(), make_impossible()], NotALog, no_logs()),
                ("ask", ["bikes", "all rides"], InvalidAsk, no_asks()),
            ])

    def test_reached(self):
        words = [*no_strings(), (), ("least",), "", "Least", "least ", "leas", "mos", "reached", "possible"]
        self.assert_first_error(certify_reached, [
            ("log", [make_log(), make_impossible()], NotALog, no_logs()),
            ("ask", ["bikes", "all rides"], InvalidAsk, no_asks()),
            ("word", ["least", "most"], InvalidWord, words),
        ])

    def test_impossible_comes_last(self):
        for log in (make_impossible(), Log(make_town(), ("bikes is 8",)), Log(make_town(), ("came hill 0 is 1",))):
            self.assert_raised(Impossible, {}, certify_most, log, "bikes")
            self.assert_raised(Impossible, {}, certify_least, log, "bikes")
            for word in ("least", "most"):
                self.assert_raised(Impossible, {}, certify_reached, log, "bikes", word)

    def test_tuples_alone_are_no_logs(self):
        for value in no_tuples():
            self.assert_raised(NotALog, {"given": value}, certify, value)


if __name__ == "__main__":
    unittest.main()
