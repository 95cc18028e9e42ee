"""Logs under names, claims that hold after each change, changes taken back, and trials."""

import random
import unittest

from bikestands.desks import Desk
from bikestands.errors import (
    Broken, InUse, InvalidClaim, InvalidName, InvalidPlace, NotALog, NothingToUndo, UnknownName,
)
from bikestands.logs import Log
from bikestands.mending import kept
from bikestands.ranges import ask_range
from tests.cases import Case
from tests.samples import (
    EqualToAll, NeverAsked, make_impossible, make_log, make_slow, make_town, no_logs, no_names, no_places, no_strings,
    no_tuples, towns,
)
from tests.test_mending import no_wishes

POSSIBLE = ("possible",)
FOUR = ("within", "bikes", 4, 4)
FEW = ("within", "all rides", 0, 4)


class Stop(Exception):
    """Ends the rows of a trial."""


def state_of(desk):
    """All that can be read of a desk."""
    return (desk.names, [desk[name] for name in desk.names], desk.claims, desk.changes, len(desk))


def put(desk, name, log):
    desk[name] = log


def take(desk, name):
    return desk[name]


def make_desk():
    """A desk with two logs and four claims."""
    desk = Desk()
    desk["one"] = make_log()
    desk["other"] = make_slow()
    for claim in (("one", POSSIBLE), ("other", POSSIBLE), ("one", FOUR), ("one", FEW)):
        desk.claim(claim)
    return desk


class DeskCase(Case):
    def assert_forbidden(self, desk, kind, attributes, function, *arguments, **named):
        """Looks at the error, and that the desk is left as it was."""
        before = state_of(desk)
        self.assert_raised(kind, attributes, function, *arguments, **named)
        self.assertEqual(state_of(desk), before)

    def assert_undoes_to(self, desk, states):
        """Takes all changes back, one by one, which leads to these states, the last one first."""
        for state in reversed(states):
            self.assertIsNone(desk.undo())
            self.assertEqual(state_of(desk), state)
        self.assert_raised(NothingToUndo, {}, desk.undo)


class Logs(DeskCase):
    def test_a_new_desk(self):
        desk = Desk()
        self.assertEqual((desk.names, desk.claims, desk.changes, len(desk)), ((), (), 0, 0))
        self.assertIs(bool(desk), True)
        self.assert_raised(NothingToUndo, {}, desk.undo)
        self.assert_raised(UnknownName, {"given": "one"}, take, desk, "one")

    def test_putting_and_reading(self):
        desk, logs = Desk(), [make_log(), make_slow(), make_impossible(), Log(make_town())]
        names = ("port", "a", "abcdefgh", "hill")
        for many, (name, log) in enumerate(zip(names, logs)):
            self.assertEqual((len(desk), desk.changes), (many, many))
            desk[name] = log
            self.assertIs(desk[name], log)
        self.assertEqual(desk.names, ("a", "abcdefgh", "hill", "port"))
        self.assertEqual([desk[name] for name in names], logs)
        for name in names:
            self.assertIs(name in desk, True)

    def test_putting_in_the_place_of_another_one(self):
        desk = Desk()
        desk["one"], desk["two"] = make_log(), make_slow()
        desk["one"] = make_impossible()
        self.assertEqual((desk["one"], desk.names, len(desk), desk.changes), (make_impossible(), ("one", "two"), 2, 3))
        desk.undo()
        self.assertEqual((desk["one"], desk.names, desk.changes), (make_log(), ("one", "two"), 2))

    def test_many_logs(self):
        desk = Desk()
        names = [f"{first}{second}" for first in "zyxwv" for second in "edcba"]
        for name in names:
            desk[name] = make_log()
        self.assertEqual(desk.names, tuple(sorted(names)))
        self.assertEqual(len(desk), 25)

    def test_logs_of_all_towns(self):
        desk = Desk()
        for town in towns():
            desk["one"] = Log(town)
            self.assertEqual(desk["one"].town, town)

    def test_removing(self):
        desk = Desk()
        desk["one"], desk["two"] = make_log(), make_slow()
        self.assertIsNone(desk.remove("one"))
        self.assertEqual((desk.names, len(desk), desk.changes, "one" in desk), (("two",), 1, 3, False))
        self.assert_raised(UnknownName, {"given": "one"}, take, desk, "one")
        desk.remove(name="two")
        self.assertEqual((desk.names, len(desk), desk.changes), ((), 0, 4))
        desk.undo()
        desk.undo()
        self.assertEqual((desk.names, desk["one"], desk["two"]), (("one", "two"), make_log(), make_slow()))

    def test_in(self):
        desk = Desk()
        values = [*no_names(), *no_strings(), (), ("one",), "one", "on", "", make_log()]
        for value in values:
            self.assertIs(value in desk, False)
        desk["one"] = make_log()
        for value in values:
            self.assertIs(value in desk, isinstance(value, str) and value == "one")
        self.assertIs("two" not in desk, True)

    def test_wrong_names(self):
        desk = make_desk()
        for name in no_names():
            for log in (make_log(), None, make_impossible()):
                self.assert_forbidden(desk, InvalidName, {"given": name}, put, desk, name, log)

    def test_wrong_logs(self):
        desk = make_desk()
        for name in ("one", "new"):
            for log in no_logs():
                self.assert_forbidden(desk, NotALog, {"given": log}, put, desk, name, log)

    def test_names_that_no_log_has(self):
        desk = make_desk()
        for name in [*no_names(), "two", "On", "onee", "on", ("one", "other"), slice(0, 1), slice(None)]:
            self.assert_forbidden(desk, UnknownName, {"given": name}, take, desk, name)
            self.assert_forbidden(desk, UnknownName, {"given": name}, desk.remove, name)
            self.assert_forbidden(desk, UnknownName, {"given": name}, desk.remove, name=name)

    def test_logs_about_which_there_are_claims(self):
        desk = make_desk()
        self.assert_forbidden(desk, InUse, {"index": 0}, desk.remove, "one")
        self.assert_forbidden(desk, InUse, {"index": 1}, desk.remove, "other")
        desk.lift(0)
        self.assert_forbidden(desk, InUse, {"index": 1}, desk.remove, "one")
        self.assert_forbidden(desk, InUse, {"index": 0}, desk.remove, "other")
        desk.lift(0)
        self.assert_forbidden(desk, InUse, {"index": 0}, desk.remove, "one")
        desk.remove("other")
        desk.lift(0)
        desk.lift(0)
        desk.remove("one")
        self.assertEqual((desk.names, desk.claims, desk.changes), ((), (), 12))


class Claims(DeskCase):
    def test_claims_stand_in_their_order(self):
        desk = make_desk()
        self.assertEqual(desk.claims, (("one", POSSIBLE), ("other", POSSIBLE), ("one", FOUR), ("one", FEW)))
        self.assertEqual(desk.changes, 6)
        self.assertIsNone(desk.claim(("one", POSSIBLE)))
        self.assertIsNone(desk.claim(claim=("other", ("within", "all vans", 1, 99))))
        self.assertEqual(desk.claims[4:], (("one", POSSIBLE), ("other", ("within", "all vans", 1, 99))))
        self.assertEqual(desk.changes, 8)

    def test_claims_are_those_that_were_passed(self):
        desk, claim = make_desk(), ("one", ("within", "way 2", 0, 1))
        desk.claim(claim)
        self.assertIs(desk.claims[4], claim)

    def test_claims_that_do_not_hold(self):
        desk = Desk()
        desk["a"], desk["b"] = make_log(), make_impossible()
        for wish, shown in (
            (("within", "all rides", 3, 4), (2, 4)), (("within", "all rides", 2, 3), (2, 4)),
            (("within", "bikes", 4, 3), (4, 4)), (("within", "bike", 0, 4), None), (("within", "", 0, 0), None),
            (("within", "count hill 3", 0, 4), None),
        ):
            for index in range(2):
                self.assert_forbidden(desk, Broken, {"index": index, "shown": shown}, desk.claim, ("a", wish))
                if index == 0:
                    desk.claim(("a", FOUR))
            desk.lift(0)
        for wish in (POSSIBLE, ("within", "bikes", 0, 99), ("within", "bike", 0, 99)):
            self.assert_forbidden(desk, Broken, {"index": 0, "shown": None}, desk.claim, ("b", wish))
        self.assertEqual(desk.claims, ())

    def test_logs_that_claims_forbid(self):
        desk, town = make_desk(), make_town()
        for facts, index, shown in (
            (("bikes is 8",), 0, None), (("bikes is 3",), 2, (3, 3)), ((), 2, (0, 7)), (("bikes least 4",), 2, (4, 7)),
            (("bikes is 4",), 3, (0, 7)), (("bikes is 4", "left hill 0 least 4", "left hill 1 is 1"), 0, None),
            (("bikes is 4", "left hill 0 is 4", "left port 1 is 1", "count port 1 is 4"), 0, None),
        ):
            log = Log(town, facts)
            self.assert_forbidden(desk, Broken, {"index": index, "shown": shown}, put, desk, "one", log)
        for log in (Log(town, ("bikes is 4", "left hill 0 is 0", "left port 0 is 0")), make_log()):
            desk["one"] = log
            self.assertEqual(desk["one"], log)
        self.assert_forbidden(desk, Broken, {"index": 1, "shown": None}, put, desk, "other", make_impossible())
        desk["other"] = Log(town)
        desk["third"] = make_impossible()

    def test_a_log_of_another_town_may_break_a_claim(self):
        desk = Desk()
        desk["a"] = make_log()
        desk.claim(("a", ("within", "count hill 2", 0, 1)))
        for town in towns()[1:]:
            shown = ask_range(Log(town), "count hill 2") if town.is_ask("count hill 2") else None
            self.assert_forbidden(desk, Broken, {"index": 0, "shown": shown}, put, desk, "a", Log(town))

    def test_the_first_claim_that_does_not_hold_is_told(self):
        desk = Desk()
        desk["a"], desk["b"] = Log(make_town(), ("bikes is 3",)), make_log()
        for claim in (("b", FOUR), ("a", ("within", "bikes", 3, 5)), ("b", POSSIBLE), ("a", ("within", "bikes", 3, 4)),
                      ("a", ("within", "bikes", 3, 3))):
            desk.claim(claim)
        for number, index in ((2, 1), (6, 1), (5, 3), (4, 4)):
            log = Log(make_town(), (f"bikes is {number}",))
            self.assert_forbidden(desk, Broken, {"index": index, "shown": (number, number)}, put, desk, "a", log)
        desk.lift(0)
        shown = {"index": 2, "shown": (5, 5)}
        self.assert_forbidden(desk, Broken, shown, put, desk, "a", Log(make_town(), ("bikes is 5",)))

    def test_only_claims_about_its_name_are_asked(self):
        desk = make_desk()
        for log in (make_impossible(), Log(make_town(), ("bikes is 1",))):
            desk["new"] = log
        desk["other"] = Log(make_town(), ("bikes is 1",))

    def test_lifting(self):
        for place in range(4):
            desk = make_desk()
            claims = desk.claims
            self.assertIsNone(desk.lift(place))
            self.assertEqual(desk.claims, claims[:place] + claims[place + 1:])
            self.assertEqual(desk.changes, 7)
            desk.undo()
            self.assertEqual(desk.claims, claims)
        desk = make_desk()
        desk.lift(index=3)
        self.assertEqual(len(desk.claims), 3)

    def test_a_lifted_claim_forbids_nothing(self):
        desk = make_desk()
        desk.lift(2)
        self.assert_forbidden(desk, Broken, {"index": 2, "shown": (0, 10)}, put, desk, "one", Log(make_town()))
        desk.lift(2)
        desk["one"] = Log(make_town())
        self.assert_forbidden(desk, Broken, {"index": 2, "shown": (0, 7)}, desk.claim, ("one", FOUR))

    def test_wrong_places(self):
        desk = make_desk()
        for index in no_places(4):
            self.assert_forbidden(desk, InvalidPlace, {"given": index}, desk.lift, index)
            self.assert_forbidden(desk, InvalidPlace, {"given": index}, desk.lift, index=index)
        for index in no_places(0):
            self.assert_raised(InvalidPlace, {"given": index}, Desk().lift, index)

    def test_wrong_claims(self):
        desk = make_desk()
        wrong = [("one", wish) for wish in no_wishes()] + [("nothing", wish) for wish in no_wishes()]
        wrong += [*no_tuples(), (), ("one",), (POSSIBLE,), ("one", POSSIBLE, None), ("one", "possible"),
                  (POSSIBLE, "one"), ["one", POSSIBLE], ("one", list(POSSIBLE)), ("one", "within", "bikes", 0, 4),
                  ("one", (POSSIBLE,))]
        for claim in wrong:
            self.assert_forbidden(desk, InvalidClaim, {"given": claim}, desk.claim, claim)
            self.assert_forbidden(desk, InvalidClaim, {"given": claim}, desk.claim, claim=claim)

    def test_claims_about_names_that_no_log_has(self):
        desk = make_desk()
        for name in [*no_names(), "two", ("one", "other"), EqualToAll(), NeverAsked()]:
            for wish in (POSSIBLE, FOUR, ("within", "", 1, 0)):
                self.assert_forbidden(desk, UnknownName, {"given": name}, desk.claim, (name, wish))


class Undo(DeskCase):
    def test_each_step_is_taken_back(self):
        desk, states = Desk(), []
        steps = [
            lambda: put(desk, "one", make_log()), lambda: put(desk, "two", make_slow()),
            lambda: desk.claim(("one", POSSIBLE)), lambda: desk.claim(("one", FOUR)), lambda: desk.lift(0),
            lambda: put(desk, "two", make_impossible()), lambda: desk.remove("two"),
            lambda: put(desk, "one", make_log()),
            lambda: desk.claim(("one", FEW)), lambda: desk.lift(1), lambda: desk.lift(0), lambda: desk.remove("one"),
        ]
        for many, step in enumerate(steps):
            states.append(state_of(desk))
            self.assertIsNone(step())
            self.assertEqual(desk.changes, many + 1)
        self.assert_undoes_to(desk, states)

    def test_a_change_by_which_nothing_became_otherwise(self):
        desk, log = Desk(), make_log()
        desk["one"] = log
        desk["one"] = log
        desk["one"] = make_log()
        self.assertEqual(desk.changes, 3)
        desk.undo()
        desk.undo()
        self.assertIs(desk["one"], log)
        self.assertEqual(desk.changes, 1)
        desk.undo()
        self.assertEqual((desk.names, desk.changes), ((), 0))

    def test_what_was_taken_back_is_gone(self):
        desk = Desk()
        desk["one"] = make_log()
        desk.undo()
        for _ in range(2):
            self.assert_forbidden(desk, NothingToUndo, {}, desk.undo)
        desk["two"] = make_log()
        desk.undo()
        self.assertEqual((desk.names, desk.changes), ((), 0))

    def test_errors_cannot_be_taken_back(self):
        desk = make_desk()
        for call in (lambda: put(desk, "one", Log(make_town())), lambda: desk.lift(4), lambda: desk.remove("one"),
                     lambda: desk.claim(("one", ("within", "bikes", 0, 3))), lambda: desk["new"]):
            with self.assertRaises((Broken, InvalidPlace, InUse, UnknownName)):
                call()
        self.assertEqual(desk.changes, 6)
        desk.undo()
        self.assertEqual(len(desk.claims), 3)

    def test_what_was_read_does_not_change(self):
        desk = make_desk()
        names, claims = desk.names, desk.claims
        desk["new"] = make_log()
        desk.lift(0)
        self.assertEqual((names, len(claims)), (("one", "other"), 4))

    def test_many_changes(self):
        desk, log = Desk(), Log(make_town())
        for _ in range(20000):
            desk["one"] = log
        self.assertEqual(desk.changes, 20000)
        for _ in range(15000):
            desk.undo()
        self.assertEqual(desk.changes, 5000)
        del desk

    def test_after_each_change_all_claims_hold(self):
        chance = random.Random(1)
        logs = [make_log(), make_slow(), make_impossible(), Log(make_town()), Log(make_town(), ("bikes is 4",))]
        wishes = [POSSIBLE, FOUR, FEW, ("within", "bikes", 4, 7), ("within", "all vans", 0, 14), ("within", "x", 0, 1)]
        seen = {}
        for _ in range(30):
            desk, states = Desk(), []
            for _ in range(40):
                before = state_of(desk)
                calls = [
                    lambda: put(desk, chance.choice("abc"), chance.choice(logs)),
                    lambda: desk.remove(chance.choice("abc")),
                    lambda: desk.claim((chance.choice("abc"), chance.choice(wishes))),
                    lambda: desk.lift(chance.randrange(4)),
                ]
                try:
                    chance.choice(calls)()
                    states.append(before)
                    key = "done"
                except (UnknownName, InUse, Broken, InvalidPlace) as error:
                    self.assertEqual(state_of(desk), before)
                    key = error.__class__.__name__
                seen[key] = seen.get(key, 0) + 1
                for name, wish in desk.claims:
                    self.assertIs(kept(desk[name], wish), True)
                if states and chance.random() < 0.1:
                    desk.undo()
                    self.assertEqual(state_of(desk), states.pop())
            self.assert_undoes_to(desk, states)
        self.assertGreater(min(seen.values()), 20, seen)
        self.assertEqual(len(seen), 5)


class Trials(DeskCase):
    def test_a_trial_that_ends_well(self):
        desk = make_desk()
        with desk.trial() as held:
            self.assertIs(held, desk)
            desk["new"] = make_log()
            desk.lift(0)
        self.assertEqual((desk.names, len(desk.claims), desk.changes), (("new", "one", "other"), 3, 8))
        desk.undo()
        desk.undo()
        self.assertEqual(state_of(desk), state_of(make_desk()))

    def test_a_trial_that_ends_by_an_error(self):
        desk = make_desk()
        error = Stop()
        with self.assertRaises(Stop) as caught:
            with desk.trial():
                desk["new"] = make_log()
                desk["one"] = make_log()
                desk.lift(0)
                desk.claim(("new", POSSIBLE))
                raise error
        self.assertIs(caught.exception, error)
        self.assertEqual(state_of(desk), state_of(make_desk()))
        for _ in range(6):
            desk.undo()
        self.assert_raised(NothingToUndo, {}, desk.undo)

    def test_errors_of_the_desk_itself_are_passed_on(self):
        desk = make_desk()
        for call, kind, attributes in (
            (lambda: put(desk, "one", make_impossible()), Broken, {"index": 0, "shown": None}),
            (lambda: desk.remove("new"), InUse, {"index": 4}), (lambda: desk["no"], UnknownName, {"given": "no"}),
        ):
            def rows():
                with desk.trial():
                    desk["new"] = make_log()
                    desk.claim(("new", POSSIBLE))
                    call()
            self.assert_forbidden(desk, kind, attributes, rows)

    def test_exceptions_of_every_kind(self):
        for error in (Stop(), KeyboardInterrupt(), SystemExit(), GeneratorExit(), StopIteration(), Broken(1, None)):
            desk = make_desk()
            with self.assertRaises(error.__class__) as caught:
                with desk.trial():
                    desk.lift(0)
                    raise error
            self.assertIs(caught.exception, error)
            self.assertEqual(state_of(desk), state_of(make_desk()))

    def test_an_exception_that_is_caught_within_the_rows(self):
        desk = make_desk()
        with desk.trial():
            desk["new"] = make_log()
            with self.assertRaises(Broken):
                desk["one"] = make_impossible()
        self.assertEqual((desk.names, desk.changes), (("new", "one", "other"), 7))

    def test_what_was_taken_back_within_comes_back(self):
        desk = make_desk()
        with self.assertRaises(Stop):
            with desk.trial():
                for _ in range(6):
                    desk.undo()
                desk["new"] = make_slow()
                raise Stop()
        self.assertEqual(state_of(desk), state_of(make_desk()))
        with desk.trial():
            for _ in range(6):
                desk.undo()
        self.assertEqual((desk.names, desk.changes), ((), 0))

    def test_rows_that_return_or_break(self):
        desk = make_desk()
        for _ in range(3):
            with desk.trial():
                desk["new"] = make_log()
                break
        self.assertEqual(desk.changes, 7)

        def rows():
            with desk.trial():
                desk["new"] = make_slow()
                return "told"
        self.assertEqual(rows(), "told")
        self.assertEqual((desk["new"], desk.changes), (make_slow(), 8))

    def test_trials_within_trials(self):
        for outer_ends_well in (True, False):
            for inner_ends_well in (True, False):
                desk = Desk()
                desk["a"] = make_log()
                try:
                    with desk.trial():
                        desk["b"] = make_log()
                        try:
                            with desk.trial():
                                desk["c"] = make_log()
                                desk.remove("a")
                                if not inner_ends_well:
                                    raise Stop()
                        except Stop:
                            pass
                        middle = desk.names
                        desk["d"] = make_log()
                        if not outer_ends_well:
                            raise Stop()
                except Stop:
                    pass
                self.assertEqual(middle, ("b", "c") if inner_ends_well else ("a", "b"))
                expected = (*middle, "d") if outer_ends_well else ("a",)
                self.assertEqual(desk.names, expected)
                self.assertEqual(desk.changes, {"bcd": 5, "abd": 3, "a": 1}["".join(expected)])

    def test_a_trial_used_again(self):
        desk = make_desk()
        trial = desk.trial()
        with trial as held:
            self.assertIs(held, desk)
            desk["new"] = make_log()
        for _ in range(2):
            with self.assertRaises(Stop):
                with trial:
                    desk.remove("new")
                    raise Stop()
            self.assertEqual((desk.names, desk.changes), (("new", "one", "other"), 7))
        with trial:
            desk.remove("new")
        self.assertEqual((desk.names, desk.changes), (("one", "other"), 8))

    def test_a_trial_used_within_itself(self):
        for inner in (True, False):
            for outer in (True, False):
                desk = Desk()
                trial = desk.trial()
                try:
                    with trial:
                        desk["a"] = make_log()
                        try:
                            with trial:
                                desk["b"] = make_log()
                                with trial:
                                    desk["c"] = make_log()
                                if not inner:
                                    raise Stop()
                        except Stop:
                            pass
                        if not outer:
                            raise Stop()
                except Stop:
                    pass
                names = ("a", "b", "c") if inner else ("a",)
                self.assertEqual(desk.names, names if outer else ())
                self.assertEqual(desk.changes, len(desk.names))

    def test_a_trial_made_before_its_rows_begin(self):
        desk = Desk()
        trial = desk.trial()
        desk["a"] = make_log()
        with self.assertRaises(Stop):
            with trial:
                desk["b"] = make_log()
                raise Stop()
        self.assertEqual((desk.names, desk.changes), (("a",), 1))

    def test_trials_of_two_desks(self):
        one, other = Desk(), Desk()
        with self.assertRaises(Stop):
            with one.trial(), other.trial():
                one["a"] = make_log()
                with one.trial():
                    other["a"] = make_log()
                raise Stop()
        self.assertEqual((one.names, other.names), ((), ()))
        with one.trial():
            with self.assertRaises(Stop):
                with other.trial():
                    one["a"] = other["a"] = make_log()
                    raise Stop()
        self.assertEqual((one.names, other.names), (("a",), ()))

    def test_a_trial_equals_itself_alone_and_is_true(self):
        desk = Desk()
        one, other = desk.trial(), desk.trial()
        self.assertTrue(one == one)
        self.assertFalse(one != one)
        self.assertFalse(one == other)
        self.assertTrue(one != other)
        self.assertFalse(one == desk)
        self.assertIs(bool(one), True)
        self.assertTrue(one == EqualToAll())

    def test_tried(self):
        desk = make_desk()

        def action(held):
            self.assertIs(held, desk)
            held["new"] = make_log()
            return ["told"]
        self.assertEqual(desk.tried(action), ["told"])
        self.assertEqual((desk.names, desk.changes), (("new", "one", "other"), 7))
        self.assertIsNone(desk.tried(action=lambda held: held.undo()))
        self.assertEqual(state_of(desk), state_of(make_desk()))
        self.assertEqual(desk.tried(len), 2)
        self.assertIs(desk.tried(lambda held: held), desk)

    def test_tried_with_an_action_that_raises(self):
        desk, error = make_desk(), Stop()

        def action(held):
            held["new"] = make_log()
            for _ in range(3):
                held.undo()
            raise error
        with self.assertRaises(Stop) as caught:
            desk.tried(action)
        self.assertIs(caught.exception, error)
        self.assertEqual(state_of(desk), state_of(make_desk()))

        def outer(held):
            held["new"] = make_log()
            with self.assertRaises(Stop):
                held.tried(action)
            return held.names
        self.assertEqual(desk.tried(outer), ("new", "one", "other"))
        self.assertEqual(desk.changes, 7)


class Objects(DeskCase):
    def test_a_desk_equals_itself_alone_and_is_true(self):
        one, other = Desk(), Desk()
        for desk in (one, other, make_desk()):
            self.assertTrue(desk == desk)
            self.assertFalse(desk != desk)
            self.assertIs(bool(desk), True)
        self.assertFalse(one == other)
        self.assertTrue(one != other)
        for value in (None, (), {}, one.names, 0):
            self.assertFalse(one == value)
            self.assertTrue(one != value)
        self.assertTrue(one == EqualToAll())

    def test_desks_do_not_share(self):
        one, other = Desk(), Desk()
        one["a"] = make_log()
        one.claim(("a", POSSIBLE))
        self.assertEqual((other.names, other.claims, other.changes), ((), (), 0))

    def test_kinds_of_values(self):
        desk = make_desk()
        self.assertEqual([desk.names.__class__, desk.claims.__class__, desk.changes.__class__], [tuple, tuple, int])
        self.assertEqual([len(desk).__class__, ("one" in desk).__class__], [int, bool])
        with self.assertRaises(Broken) as caught:
            desk["one"] = Log(make_town())
        self.assertIs(caught.exception.shown.__class__, tuple)

    def test_a_desk_is_not_gone_through(self):
        with self.assertRaises(TypeError):
            list(make_desk())

    def test_properties_cannot_be_set(self):
        for name in ("names", "claims", "changes"):
            with self.assertRaises(AttributeError):
                setattr(Desk(), name, ())

    def test_logs_stay_as_they_are(self):
        desk, log = Desk(), make_log()
        desk["one"] = log
        desk.claim(("one", FOUR))
        desk["one"] = log.without(5)
        self.assertEqual(log, make_log())


if __name__ == "__main__":
    unittest.main()
