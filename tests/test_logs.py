import unittest

from bikestands.errors import InvalidFact, InvalidFacts, InvalidPlace, NotATown, TooMany
from bikestands.logs import Log
from bikestands.towns import Town
from tests.cases import Case
from tests.samples import (
    FACTS, STANDS, TEXT, EqualToAll, NeverAsked, asks_of, make_log, make_town, no_facts, no_places, no_strings,
    no_towns, no_tuples, towns,
)

TWELVE = tuple([f"bikes most {number}" for number in range(12)])
SUMS = ("way", "all", "road", "from", "to")


class Made(unittest.TestCase):
    def test_by_position(self):
        town = make_town()
        log = Log(town, FACTS)
        self.assertIs(log.town, town)
        self.assertIs(log.facts, FACTS)

    def test_by_name(self):
        town = make_town()
        log = Log(facts=FACTS, town=town)
        self.assertIs(log.town, town)
        self.assertIs(log.facts, FACTS)
        self.assertEqual(log, Log(town, facts=FACTS))

    def test_without_facts(self):
        for log in (Log(make_town()), Log(town=make_town()), Log(make_town(), ()), Log(make_town(), facts=())):
            self.assertEqual(log.facts, ())
            self.assertEqual(len(log), 0)
            self.assertEqual(log, Log(make_town()))

    def test_none_to_twelve_facts(self):
        for many in range(13):
            log = Log(make_town(), TWELVE[:many])
            self.assertEqual(log.facts, TWELVE[:many])

    def test_equal_facts_and_facts_that_cannot_be_together(self):
        for facts in (("bikes is 3",) * 12, ("bikes is 3", "bikes is 4", "bikes is 3"), ("count hill 0 is 9999",)):
            self.assertIs(Log(make_town(), facts).facts, facts)

    def test_all_facts_of_some_towns(self):
        for town in towns():
            for ask in asks_of(town):
                if ask.split(" ")[0] not in SUMS:
                    for end in ("is 0", "from 1 to 2", "least 3", "most 9999"):
                        self.assertEqual(Log(town, (f"{ask} {end}",)).facts, (f"{ask} {end}",))

    def test_properties_cannot_be_set(self):
        log = make_log()
        for name in ("town", "facts"):
            with self.subTest(name=name), self.assertRaises(AttributeError):
                setattr(log, name, getattr(log, name))
        self.assertEqual(log, make_log())


class Objects(unittest.TestCase):
    def test_text(self):
        self.assertEqual(str(make_log()), TEXT + "\n" + "\n".join(FACTS))
        self.assertEqual(str(Log(make_town())), TEXT)
        self.assertEqual(
            str(Log(Town(1, (("a", 1),)), ("bikes from 0 to 9999", "bikes is 1", "bikes is 1"))),
            "slots 1\nstand a 1\nbikes from 0 to 9999\nbikes is 1\nbikes is 1",
        )

    def test_repr(self):
        for many in range(13):
            self.assertEqual(repr(Log(make_town(), TWELVE[:many])), f"Log of {many} facts")

    def test_length(self):
        for many in range(13):
            self.assertEqual(len(Log(make_town(), TWELVE[:many])), many)
        self.assertEqual(len(Log(make_town(), ("bikes is 3", "bikes is 3"))), 2)

    def test_truth(self):
        for log in (Log(make_town()), make_log(), Log(make_town(), ("bikes is 3", "bikes is 4"))):
            self.assertIs(bool(log), True)

    def test_equal_logs(self):
        one = make_log()
        for other in (one, make_log(), Log(make_town(), tuple(list(FACTS))), Log.read(str(one))):
            self.assertIs(one == other, True)
            self.assertIs(other == one, True)
            self.assertIs(one != other, False)

    def test_other_logs(self):
        town = make_town()
        logs = [
            Log(town), Log(Town(3, STANDS)), Log(town, FACTS), Log(town, FACTS[:5]), Log(town, FACTS[1:]),
            Log(town, FACTS[::-1]), Log(town, (*FACTS, FACTS[0])), Log(Town(2, STANDS), FACTS),
            Log(town, ("bikes is 3",)), Log(town, ("bikes from 3 to 3",)), Log(town, ("bikes is 3", "bikes is 3")),
        ]
        for row, one in enumerate(logs):
            for column, other in enumerate(logs):
                with self.subTest(one=str(one), other=str(other)):
                    self.assertIs(one == other, row == column)
                    self.assertIs(one != other, row != column)

    def test_values_of_other_classes_are_not_equal(self):
        for log in (make_log(), Log(make_town())):
            for other in [*no_tuples(), (), FACTS, str(log), make_town(), (make_town(), FACTS), [log], (log,)]:
                self.assertIs(log == other, False)
                self.assertIs(log != other, True)
            self.assertIs(log == EqualToAll(), False)
            self.assertIs(log == NeverAsked(), False)
            self.assertIs(make_town() == log, False)
            self.assertIs(log in (None, str(log), FACTS), False)
            self.assertIs(log in (None, Log(log.town, log.facts)), True)


class Parts(unittest.TestCase):
    def test_bounds_of_each_form(self):
        ends = (
            ("is 0", (0, 0)), ("is 3", (3, 3)), ("is 9999", (9999, 9999)), ("from 1 to 4", (1, 4)),
            ("from 0 to 9999", (0, 9999)), ("from 5 to 5", (5, 5)), ("least 0", (0, None)), ("least 7", (7, None)),
            ("most 0", (None, 0)), ("most 9999", (None, 9999)),
        )
        asks = ("count hill 2", "bikes", "left hill 1", "came port 0", "rides hill port 1", "van 1")
        for ask in asks:
            for end, expected in ends:
                log = Log(make_town(), (f"{ask} {end}",))
                self.assertEqual(log.bounds(0), expected)
                self.assertIs(log.bounds(index=0).__class__, tuple)

    def test_bounds_at_each_place(self):
        log = Log(make_town(), tuple([f"bikes from {number} to {2 * number}" for number in range(12)]))
        for index in range(12):
            self.assertEqual(log.bounds(index), (index, 2 * index))

    def test_stands_called_like_words_of_facts(self):
        town = Town(1, (("is", 1), ("from", 2), ("to", 3), ("least", 4), ("most", 5)), (("from", "to", 1),))
        facts = ("count is 0 is 1", "count from 1 from 0 to 2", "rides from to 0 least 3", "left most 0 most 4")
        log = Log(town, facts)
        self.assertEqual([log.bounds(index) for index in range(4)], [(1, 1), (0, 2), (3, None), (None, 4)])

    def test_a_fact_more(self):
        log = make_log()
        for fact in ("bikes is 3", "bikes most 9", FACTS[0], "count hill 0 is 4"):
            for longer in (log.with_fact(fact), log.with_fact(fact=fact)):
                self.assertIs(longer.__class__, Log)
                self.assertEqual(longer.facts, (*FACTS, fact))
                self.assertIs(longer.town, log.town)
        self.assertEqual(Log(log.town).with_fact("bikes is 3"), Log(log.town, ("bikes is 3",)))

    def test_twelve_facts_one_by_one(self):
        log = Log(make_town())
        for fact in TWELVE:
            log = log.with_fact(fact)
        self.assertEqual(log, Log(make_town(), TWELVE))

    def test_one_fact_less(self):
        log = make_log()
        for index in range(6):
            for shorter in (log.without(index), log.without(index=index)):
                self.assertIs(shorter.__class__, Log)
                self.assertEqual(shorter.facts, FACTS[:index] + FACTS[index + 1:])
                self.assertIs(shorter.town, log.town)
        self.assertEqual(Log(log.town, ("bikes is 3",)).without(0), Log(log.town))
        self.assertEqual(Log(log.town, ("bikes is 3", "bikes is 3")).without(0).facts, ("bikes is 3",))

    def test_the_log_stays_as_it_is(self):
        log = make_log()
        log.with_fact("bikes is 3").with_fact("bikes is 4")
        log.without(0).without(0)
        log.bounds(0)
        self.assertEqual(log, make_log())
        self.assertIs(log.facts, FACTS)
        self.assertEqual(log.without(5).with_fact(FACTS[5]), log)


class Wrong(Case):
    def assert_facts(self, index, facts, town=None):
        town = make_town() if town is None else town
        self.assert_raised(InvalidFacts, {"index": index}, Log, town, facts)
        self.assert_raised(InvalidFacts, {"index": index}, Log, facts=facts, town=town)

    def test_town(self):
        for town in no_towns():
            self.assert_raised(NotATown, {"given": town}, Log, town)
            self.assert_raised(NotATown, {"given": town}, Log, town, FACTS)
            self.assert_raised(NotATown, {"given": town}, Log, facts=None, town=town)

    def test_no_tuple_of_facts(self):
        for facts in [*no_tuples(), list(FACTS), FACTS[0], dict.fromkeys(FACTS)]:
            self.assert_facts(None, facts)

    def test_a_fact_that_is_none_at_each_place(self):
        for index in range(12):
            for fact in no_facts():
                self.assert_facts(index, (*TWELVE[:index], fact, *TWELVE[index + 1:]))
                self.assert_facts(index, (*TWELVE[:index], fact))
            self.assert_facts(index, (*TWELVE[:index], None, None, "", *TWELVE))

    def test_facts_of_another_town(self):
        town = Town(1, (("a", 1),))
        self.assert_facts(1, ("bikes is 1", "count hill 0 is 1"), town)
        self.assert_facts(2, ("bikes is 1", "count a 1 is 1", "count a 2 is 1"), town)
        self.assert_facts(0, ("rides a a 0 is 1",), town)
        self.assertEqual(len(Log(town, ("count a 1 is 1",))), 1)

    def test_the_thirteenth_fact(self):
        self.assert_facts(12, (*TWELVE, "bikes is 3"))
        self.assert_facts(12, (*TWELVE, *TWELVE))
        self.assert_facts(12, (*TWELVE, TWELVE[0]))
        for fact in no_facts():
            self.assert_facts(12, (*TWELVE, fact))
            self.assert_facts(11, (*TWELVE[:11], fact, "bikes is 3"))

    def test_bounds_and_one_fact_less(self):
        for many in (0, 1, 6, 12):
            log = Log(make_town(), TWELVE[:many])
            for index in no_places(many):
                for method in (log.bounds, log.without):
                    self.assert_raised(InvalidPlace, {"given": index}, method, index)
                    self.assert_raised(InvalidPlace, {"given": index}, method, index=index)
            self.assertEqual(log, Log(make_town(), TWELVE[:many]))

    def test_a_fact_more_that_is_none(self):
        for log in (Log(make_town()), make_log(), Log(make_town(), TWELVE)):
            for fact in no_facts():
                self.assert_raised(InvalidFact, {"given": fact}, log.with_fact, fact)
                self.assert_raised(InvalidFact, {"given": fact}, log.with_fact, fact=fact)

    def test_a_thirteenth_fact_more(self):
        log = Log(make_town(), TWELVE)
        for fact in ("bikes is 3", TWELVE[0], "van 1 most 0"):
            self.assert_raised(TooMany, {"most": 12}, log.with_fact, fact)
        self.assertEqual(log, Log(make_town(), TWELVE))

    def test_the_town_is_looked_at_before_the_facts(self):
        for facts in (None, (None,), (*TWELVE, "bikes is 3")):
            self.assert_raised(NotATown, {"given": None}, Log, None, facts)

    def test_values_that_are_no_strings_are_never_asked(self):
        for value in no_strings():
            self.assert_facts(0, (value,))
            self.assert_facts(1, ("bikes is 3", value))


if __name__ == "__main__":
    unittest.main()
