"""Wishes and what makes them hold, in small towns against all of their records, and by hand."""

import itertools
import random
import unittest

from bikestands.errors import InvalidChanges, InvalidWish, InvalidWishes, NotALog
from bikestands.logs import Log
from bikestands.mending import kept, mends
from bikestands.ranges import ask_range
from bikestands.towns import Town
from tests.cases import Case
from tests.every_record import every_small_town, plain_asks_of, random_facts, random_logs, taken_apart
from tests.samples import make_impossible, make_log, make_slow, make_town, no_asks, no_logs, no_strings, no_tuples
from tests.test_large_towns import clashing_logs, logs

POSSIBLE = ("possible",)


def bad_bounds():
    """Values that are no integers from 0 on."""
    kinds = [value for value in no_tuples() if isinstance(value, bool) or not isinstance(value, int)]
    return [*kinds, (), (0,), "0", -1, -10 ** 44]


def no_wishes():
    within = ("within", "bikes", 0, 4)
    others = [("within", value, 0, 4) for value in [*no_strings(), (), ("bikes",)]]
    others += [("within", "bikes", value, 4) for value in bad_bounds()]
    others += [("within", "bikes", 0, value) for value in bad_bounds()]
    others += [(value, *within[1:]) for value in [*no_strings(), (), "", "with", "within ", "Within", "possible"]]
    others += [(value,) for value in [*no_strings(), (), "", "Possible", "possible ", "within", POSSIBLE]]
    return [
        *no_tuples(), *others, (), "possible", "within", ["possible"], list(within), ("possible", "possible"),
        ("possible", None), ("possible", "bikes", 0, 4), ("possible", ()), within[:3], within[:2], within[:1],
        (*within, 4), (*within, None), (within,), (POSSIBLE,), ("bikes", "within", 0, 4), ("within", 0, 4, "bikes"),
    ]


def no_changes(many):
    """Values that are no changes of a log with so many facts."""
    places = [value for value in no_tuples() if isinstance(value, bool) or not isinstance(value, int)]
    others = [(value, "") for value in [*places, (), (0,), -1, -many, many, many + 1, 10 ** 44]]
    others += [(0, value) for value in [*no_strings(), (), ("bikes is 3",)]]
    return [
        *no_tuples(), *others, (), (0,), ("",), ("", 0), [0, ""], (0, "", ""), (0, "", None), ((0, ""),), "0",
        (0, 0), ("bikes is 3", 0), {0: ""},
    ]


def holds_told(every, facts, wish):
    """Whether the wish holds for the log with these facts, told from all records."""
    rows = every.fitting(facts)
    if wish == POSSIBLE or not rows:
        return bool(rows)
    _, ask, least, most = wish
    if ask not in every.columns:
        return False
    low, high = every.ends(rows, ask)
    return least <= low <= most and least <= high <= most


def mends_told(every, facts, wishes, changes):
    """All least sets, told from all records: of all sets that mend, those without a smaller one."""
    mending = []
    for many in range(len(changes) + 1):
        for one in itertools.combinations(range(len(changes)), many):
            made = [changes[index] for index in one]
            strings = [dict(made).get(index, fact) for index, fact in enumerate(facts)]
            told = [string for string in strings if string != ""]
            if len(dict(made)) == many and all(every.town.is_fact(fact) for fact in told):
                if all(holds_told(every, told, wish) for wish in wishes):
                    mending.append(one)
    return tuple(one for one in mending if not any(set(other) < set(one) for other in mending))


def random_wish(chance, every, facts):
    """A wish that holds about as often as not."""
    if chance.random() < 0.2:
        return POSSIBLE
    rows = every.fitting(facts) or every.rows
    ask = chance.choice(every.asks)
    low, high = every.ends(rows, ask)
    least, most = max(0, low + chance.choice((-1, 0, 0, 0, 0, 1))), max(0, high + chance.choice((-1, 0, 0, 0, 0, 1)))
    return ("within", chance.choice((ask, ask, ask, ask, f"{ask} 0")), least, most)


def random_change(chance, every, facts, place):
    """A change of this fact: left out, told more loosely, otherwise, or, sometimes, by what is no fact."""
    ask = taken_apart(facts[place])[0]
    number = chance.choice(every.rows)[every.columns[ask]]
    return (place, chance.choice(("", "", f"{ask} least 0", f"{ask} is {number}", f"{ask} least {number}",
                                  f"{chance.choice(plain_asks_of(every))} is 1", "all rides is 1")))


class Small(unittest.TestCase):
    """Small towns, against all of their records."""

    def test_wishes(self):
        chance = random.Random(1)
        seen = {True: 0, False: 0}
        for every, log, rows in random_logs(1, 30, 6, (0, 0, 1)):
            self.assertIs(kept(log, POSSIBLE), bool(rows), str(log))
            for _ in range(4):
                wish = random_wish(chance, every, log.facts)
                expected = holds_told(every, log.facts, wish)
                self.assertIs(kept(log, wish), expected, (str(log), wish))
                seen[expected] += 1
        self.assertGreater(min(seen.values()), 300)

    def test_wishes_about_every_ask(self):
        for every, log, rows in random_logs(2, 3, 5, (0,)):
            for ask in every.asks:
                low, high = every.ends(rows, ask)
                for least, most in ((low, high), (low + 1, high), (low, high - 1), (0, high), (low, 10 ** 44)):
                    if most >= 0:
                        expected = least <= low and high <= most
                        self.assertIs(kept(log, ("within", ask, least, most)), expected, (str(log), ask))

    def logs_to_mend(self, seed, many_logs):
        """Facts from two records that may clash, wishes for some of the changes, and changes, most of them good."""
        chance = random.Random(seed)
        for every in every_small_town():
            for _ in range(many_logs):
                facts = tuple([
                    fact for off in (0, 0, 2) for fact in random_facts(chance, every, chance.randint(1, 4), off)
                ])
                places = chance.choice((chance.sample, chance.choices))(range(len(facts)), k=min(5, len(facts)))
                changes = tuple([random_change(chance, every, facts, place) for place in places])
                made = dict(chance.sample(changes, chance.randint(2, len(changes))))
                strings = [made.get(index, fact) for index, fact in enumerate(facts)]
                told = [string for string in strings if every.town.is_fact(string)]
                wishes = tuple([random_wish(chance, every, told) for _ in range(chance.choice((0, 1, 2, 3)))])
                yield every, Log(every.town, facts), wishes, changes

    def test_all_least_sets(self):
        lengths, sizes = {}, {}
        for every, log, wishes, changes in self.logs_to_mend(3, 40):
            expected = mends_told(every, log.facts, wishes, changes)
            self.assertEqual(mends(log, wishes, changes), expected, (str(log), wishes, changes))
            sizes[len(expected)] = sizes.get(len(expected), 0) + 1
            for one in expected:
                lengths[len(one)] = lengths.get(len(one), 0) + 1
        self.assertGreater(min(lengths[many] for many in range(3)), 10, lengths)
        self.assertGreater(min(sizes[many] for many in range(3)), 5, sizes)


class Large(unittest.TestCase):
    def test_leaving_facts_out(self):
        # Changes that leave out different facts mend a log that is not possible by the sets of facts that are wrong.
        for log in clashing_logs(21, 3):
            for places in ((0, 2, 4, 5, 7), (1, 3, 6), (7, 6, 5, 4)):
                changes = tuple([(place, "") for place in places])
                mending = []
                for many in range(len(changes) + 1):
                    for one in itertools.combinations(range(len(changes)), many):
                        dropped = [places[index] for index in one]
                        facts = tuple([fact for index, fact in enumerate(log.facts) if index not in dropped])
                        if kept(Log(log.town, facts), POSSIBLE):
                            mending.append(one)
                least = tuple(one for one in mending if not any(set(other) < set(one) for other in mending))
                self.assertEqual(mends(log, (POSSIBLE,), changes), least, str(log))

    def test_ranges(self):
        for log in logs(22, 2):
            for ask in ("all rides", "bikes", "way 3", "to c"):
                low, high = ask_range(log, ask)
                self.assertIs(kept(log, ("within", ask, low, high)), True)
                self.assertIs(kept(log, ("within", ask, low + 1, high)), False)
                if high > 0:
                    self.assertIs(kept(log, ("within", ask, low, high - 1)), False)


class ByHand(unittest.TestCase):
    def test_the_document(self):
        log = make_log()
        self.assertIs(kept(log, ("within", "all rides", 2, 4)), True)
        self.assertIs(kept(log, ("within", "all vans", 0, 0)), True)
        self.assertIs(kept(log, ("within", "count hill 2", 1, 4)), False)
        changes = ((4, ""), (2, "count hill 1 is 1"), (3, "count port 1 is 3"), (2, "count hill 1 most 1"))
        self.assertEqual(mends(make_impossible(), (POSSIBLE,), changes), ((0,), (1,), (3,)))

    def test_by_name(self):
        self.assertIs(kept(wish=POSSIBLE, log=make_log()), True)
        self.assertEqual(mends(changes=((4, ""),), wishes=(POSSIBLE,), log=make_impossible()), ((0,),))

    def test_wishes_of_logs_that_are_not_possible(self):
        for log in (make_impossible(), Log(make_town(), ("bikes is 8",))):
            for wish in (POSSIBLE, ("within", "bikes", 0, 9999), ("within", "all rides", 5, 4), ("within", "", 0, 0)):
                self.assertIs(kept(log, wish), False)

    def test_a_first_number_above_the_second(self):
        for least, most in ((5, 4), (4, 3), (1, 0), (10 ** 44, 0)):
            self.assertIs(kept(make_log(), ("within", "bikes", least, most)), False)
            self.assertEqual(mends(make_log(), (("within", "bikes", least, most),), ((0, ""), (1, ""))), ())

    def test_wishes_about_what_is_no_ask(self):
        for ask in [value for value in no_asks() if isinstance(value, str)] + ["all", "way 9", "bikes is 4", "\n", "e"]:
            self.assertIs(kept(make_log(), ("within", ask, 0, 9999)), False, ask)
            self.assertEqual(mends(make_log(), (("within", ask, 0, 9999),), ((0, ""),)), ())

    def test_both_ends_lie_within(self):
        for ask, low, high in (("all rides", 2, 4), ("count hill 2", 0, 1), ("bikes", 4, 4), ("road hill port", 2, 3)):
            for least in range(6):
                for most in range(6):
                    self.assertIs(kept(make_log(), ("within", ask, least, most)), least <= low and high <= most)

    def test_no_wishes_and_no_changes(self):
        for log in (make_log(), make_impossible(), Log(make_town())):
            self.assertEqual(mends(log, (), ()), ((),))
        self.assertEqual(mends(make_impossible(), (), ((0, ""), (1, "bikes"))), ((),))
        self.assertEqual(mends(make_impossible(), (POSSIBLE,), ()), ())
        self.assertEqual(mends(make_log(), (POSSIBLE,), ()), ((),))
        self.assertEqual(mends(make_log(), (POSSIBLE, POSSIBLE), ((0, "bikes is 8"),)), ((),))

    def test_changes_that_are_no_facts(self):
        log = make_impossible()
        for string in ("bikes", " ", "all rides is 3", "count hill 3 is 0", "slots 2", "bikes is 10000", "\n", "e"):
            self.assertEqual(mends(log, (POSSIBLE,), ((4, string),)), (), string)
            # Also where the changed fact does not matter.
            self.assertEqual(mends(log, (POSSIBLE,), ((1, string), (4, ""))), ((1,),), string)

    def test_two_changes_of_one_fact(self):
        log = Log(make_town(), ("bikes is 8", "bikes is 9"))
        changes = ((0, ""), (0, ""), (1, ""), (0, "bikes is 3"), (1, "bikes is 3"))
        self.assertEqual(mends(log, (POSSIBLE,), changes), ((0, 2), (0, 4), (1, 2), (1, 4), (2, 3), (3, 4)))
        self.assertEqual(mends(log, (("within", "bikes", 3, 3),), changes), ((0, 4), (1, 4), (2, 3), (3, 4)))

    def test_indexes_are_those_of_the_log_as_it_was(self):
        log = Log(make_town(), ("bikes is 8", "van 0 is 0", "bikes is 3", "count hill 0 is 4"))
        changes = ((0, ""), (2, "bikes is 4"), (3, ""))
        self.assertEqual(mends(log, (POSSIBLE,), changes), ((0, 1), (0, 2)))
        self.assertEqual(mends(log, (("within", "bikes", 4, 4),), changes), ((0, 1),))
        self.assertEqual(mends(log, (("within", "count hill 0", 0, 3),), changes), ((0, 2),))

    def test_a_longer_set_may_be_least_though_a_shorter_one_is_not_good(self):
        # Each change alone does harm; a set with one more may again mend, and one with less, too.
        log = Log(make_town(), ("bikes is 3", "bikes is 3", "count hill 0 is 3"))
        changes = ((0, "bikes is 4"), (1, "bikes is 4"), (2, "count hill 0 is 4"))
        self.assertEqual(mends(log, (POSSIBLE,), changes), ((),))
        self.assertEqual(mends(log, (("within", "bikes", 4, 4),), changes), ((0, 1),))
        self.assertEqual(mends(log, (("within", "count hill 0", 4, 4),), changes), ((0, 1, 2),))

    def test_all_five(self):
        log = Log(make_town(), ("bikes is 8",) * 5)
        self.assertEqual(mends(log, (POSSIBLE,), tuple([(index, "") for index in range(5)])), ((0, 1, 2, 3, 4),))
        changes = tuple([(index, "") for index in (3, 3, 2, 1, 0)])
        self.assertEqual(mends(log.without(4), (POSSIBLE,), changes), ((0, 2, 3, 4), (1, 2, 3, 4)))

    def test_all_facts_left_out(self):
        log = Log(make_town(), ("bikes is 8",))
        self.assertEqual(mends(log, (("within", "bikes", 0, 7),), ((0, ""),)), ((0,),))
        self.assertEqual(mends(log, (("within", "bikes", 0, 6),), ((0, ""),)), ())

    def test_many_wishes(self):
        wishes = (POSSIBLE, ("within", "bikes", 4, 4)) * 40
        self.assertEqual(mends(make_log(), wishes, ()), ((),))
        self.assertEqual(mends(make_log(), (*wishes, ("within", "bikes", 5, 5)), ()), ())

    def test_kinds_of_values(self):
        found = mends(make_impossible(), (POSSIBLE,), ((4, ""),))
        self.assertEqual([found.__class__, found[0].__class__, found[0][0].__class__], [tuple, tuple, int])
        self.assertIs(mends(make_impossible(), (POSSIBLE,), ()).__class__, tuple)
        self.assertIs(kept(make_log(), POSSIBLE), True)

    def test_the_log_stays_as_it_is(self):
        log = make_impossible()
        mends(log, (POSSIBLE,), ((4, ""), (0, "bikes is 3")))
        self.assertEqual(log, make_impossible())


class Wrong(Case):
    def test_kept(self):
        self.assert_first_error(kept, [
            ("log", [make_log(), make_impossible()], NotALog, no_logs()),
            ("wish", [POSSIBLE, ("within", "bikes", 0, 4)], InvalidWish, no_wishes()),
        ])

    def test_right_wishes(self):
        for wish in (POSSIBLE, ("within", "", 0, 0), ("within", "any string", 5, 4), ("within", "a\nb", 0, 10 ** 44)):
            self.assertIn(kept(make_log(), wish), (True, False))

    def test_logs_come_first(self):
        for log in no_logs():
            for wishes in ((), None, (None,)):
                for changes in ((), None, (None,)):
                    self.assert_raised(NotALog, {"given": log}, mends, log, wishes, changes)
                    self.assert_raised(NotALog, {"given": log}, mends, changes=changes, wishes=wishes, log=log)

    def test_wishes(self):
        right = (POSSIBLE, ("within", "bikes", 0, 4), ("within", "nothing", 4, 0))
        cases = [(value, None) for value in [*no_tuples(), list(right)]]
        for wrong in no_wishes():
            cases += [((*right[:at], wrong, *right[at + 1:]), at) for at in range(3)]
            cases += [((wrong,), 0), ((*right * 5, wrong, wrong), 15)]
        cases += [(POSSIBLE, 0), (right[1], 0)]
        for log in (make_log(), make_impossible(), Log(make_town())):
            for value, index in cases:
                for changes in ((), None, (None,)):
                    self.assert_raised(InvalidWishes, {"index": index}, mends, log, value, changes)
            self.assert_raised(InvalidWishes, {"index": 1}, mends, changes=None, wishes=(POSSIBLE, None), log=log)

    def test_changes(self):
        log = make_impossible()
        right = ((4, ""), (2, "count hill 1 is 1"), (2, "nothing"), (0, "\n"), (4, ""))
        cases = [(value, None) for value in [*no_tuples(), list(right), dict(right)]]
        for wrong in no_changes(len(log)):
            cases += [((*right[:at], wrong, *right[at + 1:]), at) for at in range(5)]
            cases += [((wrong,), 0), ((wrong, wrong), 0), ((*right, wrong), 5)]
        cases += [((*right, (4, "")), 5), (((4, ""),) * 6, 5), (((4, ""),) * 100, 5), ((4, ""), 0)]
        for wishes in ((), (POSSIBLE,)):
            self.assert_elements_error(mends, (log, wishes), ("log", "wishes", "changes"), InvalidChanges, cases)

    def test_changes_of_a_log_without_facts(self):
        for change in ((0, ""), (1, ""), (-1, "")):
            self.assert_raised(InvalidChanges, {"index": 0}, mends, Log(make_town()), (), (change,))
        self.assert_raised(InvalidChanges, {"index": 1}, mends, make_slow(), (), ((3, ""), (4, "")))


if __name__ == "__main__":
    unittest.main()
