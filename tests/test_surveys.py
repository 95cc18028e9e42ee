"""Facts that come one by one, in small towns against all of their records, and by hand."""

import random
import unittest

from bikestands.errors import Contradicts, InvalidAsk, InvalidFact, NotATown, NothingToUndo, TooMany
from bikestands.logs import Log
from bikestands.ranges import ask_range
from bikestands.surveys import Survey
from tests.cases import Case
from tests.every_record import every_small_town, plain_asks_of, random_fact
from tests.samples import EqualToAll, FACTS, make_town, no_asks, no_facts, no_towns, towns


class Small(unittest.TestCase):
    """Small towns, against all of their records."""

    def test_facts_one_by_one(self):
        chance = random.Random(1)
        seen = {"adds": 0, "adds nothing": 0, "contradicts": 0, "undone": 0}
        for every in every_small_town():
            for _ in range(12):
                survey, told = Survey(every.town), []
                row = chance.choice(every.rows)
                for _ in range(10):
                    ask = chance.choice(plain_asks_of(every))
                    number = row[every.columns[ask]] + chance.choice((0, 0, 0, 0, 1))
                    self.assert_told(every, survey, told, random_fact(chance, ask, number), seen)
                    if told and chance.random() < 0.15:
                        self.assertIsNone(survey.undo())
                        told.pop()
                        seen["undone"] += 1
                    self.assert_survey(every, survey, told, chance.sample(every.asks, 2))
        self.assertGreater(min(seen.values()), 50, seen)

    def assert_told(self, every, survey, told, fact, seen):
        """Tells the survey a fact, and the list of those that were told if it does not contradict."""
        earlier, later = every.fitting(told), every.fitting([*told, fact])
        if later:
            self.assertIs(survey.tell(fact), later != earlier, (str(survey.log), fact))
            told.append(fact)
            seen["adds" if later != earlier else "adds nothing"] += 1
        else:
            with self.assertRaises(Contradicts):
                survey.tell(fact)
            seen["contradicts"] += 1

    def assert_survey(self, every, survey, told, asks):
        self.assertEqual((survey.log.town, survey.log.facts), (every.town, tuple(told)))
        self.assertEqual((survey.changes, len(survey)), (len(told), len(told)))
        rows = every.fitting(told)
        for ask in asks:
            self.assertEqual(survey.ends(ask), every.ends(rows, ask), (str(survey.log), ask))


class ByHand(Case):
    def test_the_document(self):
        survey = Survey(make_town())
        self.assertIs(survey.tell("count hill 0 is 3"), True)
        self.assertIs(survey.tell(fact="count port 0 is 1"), True)
        self.assertIs(survey.tell("bikes most 4"), False)
        self.assertEqual(survey.ends("count hill 1"), (0, 4))
        self.assertIsNone(survey.undo())
        self.assertEqual((survey.changes, len(survey)), (2, 2))
        self.assertEqual(survey.log.facts, ("count hill 0 is 3", "count port 0 is 1"))
        self.assertIs(survey.tell("count hill 2 is 4"), True)
        self.assertEqual(survey.ends("count port 2"), (0, 0))
        self.assert_raised(Contradicts, {"given": "bikes is 5"}, survey.tell, "bikes is 5")

    def test_by_name(self):
        survey = Survey(town=make_town())
        survey.tell(fact="bikes is 3")
        self.assertEqual(survey.ends(ask="bikes"), (3, 3))

    def test_a_new_survey(self):
        for town in towns():
            survey = Survey(town)
            self.assertIs(survey.town, town)
            self.assertEqual(survey.log, Log(town))
            self.assertEqual((survey.changes, len(survey)), (0, 0))
            self.assertIs(bool(survey), True)
            self.assertEqual(survey.ends("bikes"), ask_range(Log(town), "bikes"))
            self.assert_raised(NothingToUndo, {}, survey.undo)

    def test_facts_that_add_nothing_are_taken_in_too(self):
        survey = Survey(make_town())
        self.assertIs(survey.tell("bikes most 7"), False)
        self.assertIs(survey.tell("bikes is 3"), True)
        self.assertIs(survey.tell("bikes is 3"), False)
        self.assertIs(survey.tell("bikes from 3 to 4"), False)
        self.assertIs(survey.tell("count hill 0 most 3"), False)
        self.assertIs(survey.tell("count hill 0 most 2"), True)
        self.assertEqual(survey.log.facts, ("bikes most 7", "bikes is 3", "bikes is 3", "bikes from 3 to 4",
                                            "count hill 0 most 3", "count hill 0 most 2"))
        self.assertEqual((survey.changes, len(survey)), (6, 6))

    def test_twelve_facts(self):
        survey = Survey(make_town())
        for number in range(12):
            self.assertIs(survey.tell(f"bikes from {number % 3} to 7"), 0 < number < 3)
        for _ in range(2):
            for fact in ("bikes is 3", "bikes is 8", "bikes from 0 to 7"):
                self.assert_raised(TooMany, {"most": 12}, survey.tell, fact)
            self.assert_raised(InvalidFact, {"given": "bikes"}, survey.tell, "bikes")
        self.assertEqual((survey.changes, len(survey)), (12, 12))
        survey.undo()
        self.assert_raised(Contradicts, {"given": "bikes is 8"}, survey.tell, "bikes is 8")
        self.assertIs(survey.tell("bikes is 3"), True)
        self.assert_raised(TooMany, {"most": 12}, survey.tell, "bikes is 3")
        self.assertEqual(survey.ends("bikes"), (3, 3))

    def test_what_is_told_behind_an_error(self):
        survey = Survey(make_town())
        survey.tell("bikes is 3")
        for _ in range(2):
            self.assert_raised(Contradicts, {"given": "bikes least 4"}, survey.tell, "bikes least 4")
            self.assert_raised(InvalidFact, {"given": "bikes least"}, survey.tell, "bikes least")
            self.assertEqual((survey.log.facts, survey.changes, len(survey)), (("bikes is 3",), 1, 1))
        self.assertIs(survey.tell("count hill 0 is 2"), True)
        self.assertEqual(survey.ends("count port 0"), (1, 1))
        survey.undo()
        survey.undo()
        self.assertIs(survey.tell("bikes least 4"), True)
        self.assertEqual(survey.log.facts, ("bikes least 4",))

    def test_undo(self):
        survey = Survey(make_town())
        logs = [survey.log]
        for fact in FACTS:
            survey.tell(fact)
            logs.append(survey.log)
        self.assertEqual([len(log) for log in logs], list(range(7)))
        for number in range(6, 0, -1):
            self.assertEqual((survey.changes, len(survey), survey.log), (number, number, logs[number]))
            self.assertIsNone(survey.undo())
        for _ in range(2):
            self.assert_raised(NothingToUndo, {}, survey.undo)
            self.assertEqual((survey.changes, len(survey), survey.log), (0, 0, Log(make_town())))
        survey.tell("bikes is 3")
        self.assertEqual(survey.changes, 1)
        # What was read before does not change.
        self.assertEqual(logs[6].facts, FACTS)

    def test_surveys_of_the_same_town_do_not_share(self):
        town = make_town()
        one, other = Survey(town), Survey(town)
        one.tell("bikes is 3")
        self.assertEqual((len(one), len(other)), (1, 0))
        other.tell("bikes is 4")
        self.assertEqual((one.ends("bikes"), other.ends("bikes")), ((3, 3), (4, 4)))

    def test_a_survey_equals_itself_alone_and_is_true(self):
        one, other = Survey(make_town()), Survey(make_town())
        for survey in (one, other):
            self.assertTrue(survey == survey)
            self.assertFalse(survey != survey)
            self.assertIs(bool(survey), True)
        self.assertFalse(one == other)
        self.assertTrue(one != other)
        for value in (one.log, one.town, (), None, 0, str(one.log)):
            self.assertFalse(one == value)
            self.assertTrue(one != value)
        self.assertTrue(one == EqualToAll())
        one.tell("bikes is 3")
        self.assertTrue(one == one)
        self.assertIs(bool(one), True)

    def test_kinds_of_values(self):
        survey = Survey(make_town())
        survey.tell("bikes is 3")
        self.assertEqual([survey.log.__class__, survey.changes.__class__, len(survey).__class__], [Log, int, int])
        self.assertIs(survey.ends("bikes").__class__, tuple)

    def test_properties_cannot_be_set(self):
        survey = Survey(make_town())
        for name in ("town", "log", "changes"):
            with self.assertRaises(AttributeError):
                setattr(survey, name, None)


class Wrong(Case):
    def test_towns(self):
        self.assert_first_error(Survey, [("town", [make_town()], NotATown, no_towns())])

    def test_facts(self):
        survey = Survey(make_town())
        survey.tell("bikes is 3")
        for fact in no_facts():
            self.assert_raised(InvalidFact, {"given": fact}, survey.tell, fact)
            self.assert_raised(InvalidFact, {"given": fact}, survey.tell, fact=fact)
        for _ in range(11):
            survey.tell("bikes is 3")
        for fact in no_facts():
            self.assert_raised(InvalidFact, {"given": fact}, survey.tell, fact)
        self.assertEqual(survey.log.facts, ("bikes is 3",) * 12)

    def test_asks(self):
        survey = Survey(make_town())
        for ask in no_asks():
            self.assert_raised(InvalidAsk, {"given": ask}, survey.ends, ask)
            self.assert_raised(InvalidAsk, {"given": ask}, survey.ends, ask=ask)


if __name__ == "__main__":
    unittest.main()
