"""What the checker accepts, and that it accepts nothing else: by hand, and against all records of small towns."""

import random
import unittest

from bikestands.certificates import certify, certify_least, certify_most, certify_reached
from bikestands.checker import accepts
from bikestands.logs import Log
from bikestands.ranges import ask_range
from bikestands.towns import Town
from tests.every_record import every_small_town, random_logs
from tests.papers_told import failing_deeds, is_shown, prices_for, worth_of
from tests.samples import (
    EqualToAll, NeverAsked, asks_of, make_impossible, make_log, make_slow, make_town, no_asks, no_strings, no_tuples,
)

WORDS = ("possible", "clash", "reached", "most", "least")


def no_integers():
    return [value for value in [*no_tuples(), (), "4"] if isinstance(value, bool) or not isinstance(value, int)]


def examples():
    """A claim of each word, with a certificate for it."""
    log = make_log()
    return [
        certify(log), certify(make_impossible()), certify_reached(log, "all rides", "most"),
        certify_most(log, "all rides"), certify_least(make_slow(), "all vans"), certify_most(log, "count hill 2"),
        certify_least(log, "bikes"), certify_most(Log(make_town()), "bikes"),
    ]


def changed_numbers(value):
    """All values that come from this one by another number, deep in tuples, and those with another kind of value."""
    if isinstance(value, tuple):
        for at, part in enumerate(value):
            for other in changed_numbers(part):
                yield (*value[:at], other, *value[at + 1:])
    elif isinstance(value, int):
        yield from (value + 1, value - 1, -value - 1, value + 40, 10 ** 44)


def has_rows(value):
    """Whether these are rows with words, of which there may be fewer."""
    return any(isinstance(row, tuple) and any(isinstance(word, str) for word in row) for row in value)


def changed_forms(value):
    """All values that come from this one by another kind of value, one more, or one less, deep in tuples."""
    if isinstance(value, tuple):
        yield from (list(value), (*value, 0), (*value, ()), (0, *value))
        if value:
            yield (*value, value[-1])
            if not has_rows(value):
                yield from (value[:-1], value[1:])
        for at, part in enumerate(value):
            for other in changed_forms(part):
                yield (*value[:at], other, *value[at + 1:])
    yield from (None, True, False, "", "last", b"", {}, [], set(), EqualToAll(), NeverAsked(), [value], (value,))
    if isinstance(value, int):
        yield from (str(value), bool(value), (value, value))
    if isinstance(value, str):
        yield from (value + " ", value[:-1], value.upper(), value.encode(), (value, value))


class Case(unittest.TestCase):
    def assert_accepts(self, claim, certificate):
        self.assertIs(accepts(claim, certificate), True, (claim, certificate))

    def assert_rejects(self, claim, certificate):
        self.assertIs(accepts(claim, certificate), False)


class Document(Case):
    def test_the_document(self):
        text = "slots 1\nstand a 2\ncount a 0 most 1"
        self.assert_rejects(("most", text, "count a 1", 1), (((0, "most", 1),), (), ((0, 0),)))
        self.assert_accepts(("most", text, "bikes", 1), (((0, "most", 1),), (), ((0, 0),)))
        self.assert_accepts(("most", text, "count a 1", 2), ((), ((0, 1, 1),), ((0, 0),)))

    def test_by_name(self):
        claim, certificate = certify(make_log())
        self.assertIs(accepts(certificate=certificate, claim=claim), True)
        self.assertIs(accepts(certificate=claim, claim=certificate), False)


class Against(Case):
    """Small towns, against all of their records, and against papers looked at without the checker."""

    def is_true(self, every, log, claim):
        rows = every.fitting(log.facts)
        if claim[0] == "clash":
            return not rows
        column = every.columns[claim[2]]
        if claim[0] == "most":
            return all(row[column] <= claim[3] for row in rows)
        return all(row[column] >= claim[3] for row in rows)

    def right_papers(self, seed, many):
        """Claims with papers, right ones, for random logs of small towns, with all records of these."""
        chance = random.Random(seed)
        for every, log, rows in random_logs(seed, many, 6, (0, 0, 1, 2)):
            if not rows:
                yield every, log, *certify(log)
            else:
                for ask in chance.sample(every.asks, 3):
                    yield every, log, *certify_most(log, ask)
                    yield every, log, *certify_least(log, ask)

    def random_paper(self, chance, log):
        """A paper for the log with a few weights and small heights."""
        town = log.town
        weights = []
        for index in range(len(log)):
            for word, bound in zip(("least", "most"), log.bounds(index)):
                if bound is not None and chance.random() < 0.4:
                    weights.append((index, word, chance.randint(1, 2)))
        caps = [
            (stand, moment, chance.randint(1, 2)) for stand in range(len(town.stands))
            for moment in range(town.slots + 1) if chance.random() < 0.5
        ]
        heights = [tuple([chance.choice((-1, 0, 0, 0, 1)) for _ in range(town.slots + 1)]) for _ in town.stands]
        return (tuple(weights), tuple(caps), tuple(heights))

    def test_right_papers_with_another_number(self):
        seen = {True: 0, False: 0}
        for every, log, claim, paper in self.right_papers(1, 6):
            self.assert_accepts(claim, paper)
            for other in changed_numbers(paper):
                if self.is_well_formed(log, other):
                    expected = is_shown(log, claim, other)
                    self.assertIs(accepts(claim, other), expected, (claim, other))
                    seen[expected] += 1
        self.assertGreater(min(seen.values()), 100, seen)

    def is_well_formed(self, log, paper):
        """Whether the numbers of this paper, which has the form of one, are those of one."""
        town = log.town
        pairs = [[row[:2] for row in rows] for rows in paper[:2]]
        return (
            all(0 <= index < len(log) and log.bounds(index)[word == "most"] is not None for index, word in pairs[0])
            and all(0 <= stand < len(town.stands) and 0 <= moment <= town.slots for stand, moment in pairs[1])
            and all(rows == sorted(set(rows)) for rows in pairs)
            and all(row[2] >= 1 for rows in paper[:2] for row in rows)
        )

    def test_papers_that_are_none_for_their_numbers(self):
        seen = 0
        for every, log, claim, paper in self.right_papers(2, 4):
            for other in changed_numbers(paper):
                if not self.is_well_formed(log, other):
                    self.assert_rejects(claim, other)
                    seen += 1
        self.assertGreater(seen, 500)

    def test_random_papers(self):
        chance = random.Random(3)
        seen = {}
        for every, log, _ in random_logs(4, 25, 5, (0, 1, 2)):
            for _ in range(12):
                paper = self.random_paper(chance, log)
                asks = chance.sample(every.asks, 3)
                worth = worth_of(log, paper)
                claims = [("clash", str(log)), *[("most", str(log), ask, worth + 1) for ask in asks],
                          *[("least", str(log), ask, -worth) for ask in asks]]
                for claim in claims:
                    told = accepts(claim, paper)
                    self.assertIs(told, is_shown(log, claim, paper), (claim, paper))
                    if told:
                        self.assertTrue(self.is_true(every, log, claim), (claim, paper))
                    seen[claim[0], told] = seen.get((claim[0], told), 0) + 1
        self.assertGreater(min(seen["most", True], seen["least", True]), 20, seen)

    def test_the_worth_is_just_enough_and_just_too_little(self):
        for every, log, claim, paper in self.right_papers(5, 6):
            if claim[0] == "clash":
                self.assertLess(worth_of(log, paper), 0)
                continue
            number = claim[3]
            for less in (0, 1, 40):
                better = number + less if claim[0] == "most" else number - less
                worse = number - less - 1 if claim[0] == "most" else number + less + 1
                self.assert_accepts((*claim[:3], better), paper)
                self.assert_rejects((*claim[:3], worse), paper)

    def test_each_kind_of_deed_alone_fails(self):
        alone = {}
        for every, log, claim, paper in self.right_papers(6, 8):
            for other in changed_numbers(paper):
                if self.is_well_formed(log, other):
                    failing = failing_deeds(log, other, prices_for(claim))
                    if len(failing) == 1:
                        kind, ahead, behind = failing[0]
                        kind = "to itself" if kind == "van" and ahead[0] == behind[0] else kind
                        # The worth is not what fails.
                        number = 10 ** 6 if claim[0] == "most" else -10 ** 6
                        self.assert_rejects(claim if claim[0] == "clash" else (*claim[:3], number), other)
                        alone[kind] = alone.get(kind, 0) + 1
        self.assertEqual(sorted(alone), ["away", "begin", "end", "ride", "stay", "to itself", "van"])
        self.assertGreater(min(alone.values()), 2, alone)

    def test_records(self):
        """Each record of a town is one for the claim if it fits and has the value, and for no other claim."""
        chance = random.Random(7)
        for every, log, rows in random_logs(8, 6, 4, (0, 1)):
            text = str(log)
            for record in chance.sample(sorted(every.values), min(20, len(every.values))):
                fitting = every.values[record] in rows
                self.assertIs(accepts(("possible", text), record), fitting)
                ask = chance.choice(every.asks)
                number = every.value(record, ask)
                self.assertIs(accepts(("reached", text, ask, number), record), fitting)
                for other in (number - 1, number + 1, -number - 1):
                    self.assert_rejects(("reached", text, ask, other), record)
                for claim in (("clash", text), ("most", text, ask, number), ("least", text, ask, number)):
                    self.assert_rejects(claim, record)

    def test_records_with_another_number(self):
        chance = random.Random(9)
        seen = {True: 0, False: 0}
        for every in every_small_town():
            text = str(every.town)
            for record in chance.sample(sorted(every.values), 8):
                for other in changed_numbers(record):
                    self.assertIs(accepts(("possible", text), other), other in every.values, other)
                    seen[other in every.values] += 1
        self.assertGreater(min(seen.values()), 50, seen)


class ByHand(Case):
    """One stand or two, with each kind of deed."""

    def test_beginnings(self):
        text = "slots 1\nstand a 2\nstand b 3\nbikes most 4"
        weights = ((0, "most", 1),)
        self.assert_accepts(("most", text, "bikes", 4), (weights, (), ((0, 0), (0, 0))))
        self.assert_rejects(("most", text, "bikes", 3), (weights, (), ((0, 0), (0, 0))))
        self.assert_rejects(("most", text, "bikes", 10), ((), (), ((0, 0), (0, 0))))
        # Each bike that begins at a is in one cap, but those at b are in none.
        self.assert_rejects(("most", text, "bikes", 10), ((), ((0, 0, 1),), ((0, 0), (0, 0))))
        self.assert_accepts(("most", text, "bikes", 5), ((), ((0, 0, 1), (1, 0, 1)), ((0, 0), (0, 0))))
        self.assert_rejects(("most", text, "bikes", 4), ((), ((0, 0, 1), (1, 0, 1)), ((0, 0), (0, 0))))

    def test_what_lies_at_a_stand_is_counted_behind_all_deeds(self):
        text = "slots 2\nstand a 2\nstand b 3\nroad b a 2\nroad b b 1\ncount a 2 most 1\nleft b 0 is 0"
        caps = ((), ((0, 2, 1),), ((0, 0, 0), (0, 0, 0)))
        self.assert_accepts(("most", text, "count a 2", 2), caps)
        self.assert_rejects(("most", text, "count a 2", 1), caps)
        self.assert_rejects(("most", text, "count a 1", 2), caps)
        self.assert_rejects(("most", text, "count b 2", 2), caps)
        self.assert_accepts(("most", text, "count a 2", 1), (((0, "most", 1),), (), ((0, 0, 0), (0, 0, 0))))
        # Of the rides the fact tells something, but not of what stays or is moved.
        self.assert_rejects(("most", text, "count a 2", 1), (((1, "most", 1),), (), ((0, 0, 0), (0, 0, 0))))

    def test_rides_that_are_under_way_in_the_end(self):
        text = "slots 2\nstand a 2\nstand b 3\nroad a b 2\nleft a 0 is 1\nleft a 1 is 1"
        flat = ((0, 0, 0), (0, 0, 0))
        second = (((1, "most", 1),), (), flat)
        self.assert_accepts(("most", text, "way 2", 1), second)
        self.assert_accepts(("most", text, "rides a b 1", 1), second)
        self.assert_accepts(("least", text, "way 2", 1), (((1, "least", 1),), (), flat))
        self.assert_rejects(("least", text, "way 2", 2), (((1, "least", 1),), (), flat))
        # Those that are under way in the end do not come to b; the others were ridden in the first slot.
        self.assert_accepts(("most", text, "to b", 1), (((0, "most", 1),), (), flat))
        self.assert_rejects(("least", text, "to b", 1), (((1, "least", 1),), (), flat))
        self.assert_rejects(("most", text, "all rides", 2), second)
        self.assert_accepts(("most", text, "all rides", 2), (((0, "most", 1), (1, "most", 1)), (), flat))
        self.assert_accepts(("most", text, "way 1", 1), (((0, "most", 1),), (), flat))
        self.assert_rejects(("most", text, "way 1", 1), second)
        # The height is 0 behind them, as behind ends.
        self.assert_rejects(("most", text, "way 2", 1), (((1, "most", 1),), (), ((0, 1, 0), (0, 0, 0))))

    def test_vans(self):
        text = "slots 1\nstand a 1\nstand b 1\nvan 0 from 1 to 2"
        flat = ((0, 0), (0, 0))
        for ask in ("van 0", "all vans"):
            self.assert_accepts(("most", text, ask, 2), (((0, "most", 1),), (), flat))
            self.assert_accepts(("least", text, ask, 1), (((0, "least", 1),), (), flat))
            self.assert_rejects(("least", text, ask, 2), (((0, "least", 1),), (), flat))
            self.assert_rejects(("least", text, ask, 1), (((0, "most", 1),), (), flat))
            self.assert_accepts(("most", text, ask, 2), ((), ((0, 1, 1), (1, 1, 1)), flat))
            self.assert_rejects(("most", text, ask, 2), ((), ((0, 1, 1),), flat))

    def test_heights_lead_from_one_moment_to_the_next(self):
        # What lies at a behind the slot began there.
        text = "slots 1\nstand a 5\ncount a 0 most 2"
        self.assert_accepts(("most", text, "count a 1", 2), (((0, "most", 1),), (), ((-1, 0),)))
        for heights in (((0, 0),), ((-1, -1),), ((-1, 1),), ((-2, 0),), ((0, 1),), ((1, 0),)):
            self.assert_rejects(("most", text, "count a 1", 2), (((0, "most", 1),), (), heights))

    def test_clashes(self):
        text = "slots 1\nstand a 5\ncount a 0 most 2\ncount a 1 least 3"
        paper = (((0, "most", 1), (1, "least", 1)), (), ((-1, 0),))
        self.assert_accepts(("clash", text), paper)
        self.assert_accepts(("clash", text), (((0, "most", 2), (1, "least", 2)), (), ((-2, 0),)))
        self.assert_rejects(("clash", text), (((0, "most", 1), (1, "least", 1)), (), ((0, 0),)))
        self.assert_rejects(("clash", text), (((0, "most", 2), (1, "least", 1)), (), ((-1, 0),)))
        self.assert_rejects(("clash", text), (((0, "most", 1),), (), ((-1, 0),)))
        # A worth of 0 is not below 0.
        self.assert_rejects(("clash", text.replace("least 3", "least 2")), paper)
        self.assert_rejects(("clash", text), ((), (), ((0, 0),)))
        # A log that is not possible has no record, and so any bounds.
        self.assert_accepts(("most", text, "bikes", -1), (((0, "most", 4), (1, "least", 3)), (), ((-3, 0),)))
        self.assert_rejects(("most", text, "bikes", -2), (((0, "most", 4), (1, "least", 3)), (), ((-3, 0),)))
        self.assert_rejects(("possible", text), ((2,), (), ()))

    def test_facts_told_twice(self):
        text = "slots 1\nstand a 5\nbikes most 3\nbikes most 3\nbikes least 1"
        flat = ((0, 0),)
        self.assert_accepts(("most", text, "bikes", 3), (((1, "most", 1),), (), flat))
        self.assert_rejects(("most", text, "bikes", 3), (((0, "most", 1), (1, "most", 1)), (), flat))
        self.assert_accepts(("most", text, "bikes", 6), (((0, "most", 1), (1, "most", 1)), (), flat))
        self.assert_accepts(("most", text, "bikes", 5), (((0, "most", 1), (1, "most", 1), (2, "least", 1)), (), flat))
        self.assert_rejects(("most", text, "bikes", 5), (((0, "most", 1), (1, "most", 1), (2, "least", 2)), (), flat))

    def test_asks_of_every_form(self):
        for log in (make_log(), make_slow(), Log(make_town())):
            for ask in asks_of(log.town):
                low, high = ask_range(log, ask)
                for pair, end in ((certify_most(log, ask), high), (certify_least(log, ask), low)):
                    self.assert_accepts(*pair)
                    self.assertEqual(pair[0][3], end)
                    # No other ask may have this end: what is accepted for it is true.
                    for other in asks_of(log.town):
                        if accepts((*pair[0][:2], other, end), pair[1]):
                            ends = ask_range(log, other)
                            self.assertTrue(end >= ends[1] if pair[0][0] == "most" else end <= ends[0], (pair, other))

    def test_negative_numbers(self):
        text = "slots 1\nstand a 5"
        self.assert_accepts(("least", text, "bikes", -3), ((), (), ((0, 0),)))
        self.assert_accepts(("least", text, "bikes", 0), ((), (), ((0, 0),)))
        self.assert_rejects(("least", text, "bikes", 1), ((), (), ((0, 0),)))
        self.assert_rejects(("most", text, "bikes", -1), ((), ((0, 0, 1),), ((0, 0),)))
        self.assert_rejects(("reached", text, "bikes", -1), ((0,), (), ()))
        self.assert_accepts(("reached", text, "bikes", 0), ((0,), (), ()))

    def test_large_numbers(self):
        text = "slots 1\nstand a 5\nbikes most 3"
        many = 10 ** 44
        self.assert_accepts(("most", text, "bikes", 3 * many), (((0, "most", many),), (), ((0, 0),)))
        self.assert_rejects(("most", text, "bikes", 3 * many - 1), (((0, "most", many),), (), ((0, 0),)))
        self.assert_accepts(("least", text, "bikes", -many), ((), (), ((0, 0),)))
        self.assert_rejects(("most", text, "bikes", 5), ((), ((0, 0, 1),), ((many, 0),)))


class Wrong(Case):
    """Claims that are none, and certificates that are none."""

    def test_any_values(self):
        values = [*no_tuples(), (), "possible", ("possible",), (None, None), ((), ()), examples()[0], examples()[3]]
        for claim in values:
            for certificate in values:
                self.assert_rejects(claim, certificate)
        for claim, certificate in examples():
            for value in values:
                self.assert_rejects(value, certificate)
                self.assert_rejects(claim, value)
                self.assert_rejects(value, claim)

    def test_claims_in_another_form(self):
        for claim, certificate in examples():
            self.assert_accepts(claim, certificate)
            for other in changed_forms(claim):
                self.assert_rejects(other, certificate)

    def test_claims_with_another_word(self):
        for claim, certificate in examples():
            for word in [*WORDS, "Most", "most ", "", "within", "fits", *no_strings(), ("most",)]:
                if word is not claim[0]:
                    self.assert_rejects((word, *claim[1:]), certificate)
            for word in ("possible", "clash"):
                self.assert_rejects((word, *claim[1:], None, None), certificate)
                self.assert_rejects((word, *claim[1:2], "bikes", 4), certificate)
            for word in ("reached", "most", "least"):
                self.assert_rejects((word, *claim[1:2]), certificate)
                self.assert_rejects((word, *claim[1:3]), certificate)

    def test_claims_about_what_is_no_log(self):
        for claim, certificate in examples():
            texts = [*no_strings(), (), ("slots 1",), "", claim[1] + "\n", "\n" + claim[1], claim[1] + " ",
                     claim[1] + "\nbikes", claim[1] + "\nslots 2", claim[1].replace("slots 2", "slots 02"),
                     claim[1].replace("\n", " / "), claim[1].encode(), make_log()]
            for text in texts:
                self.assert_rejects((claim[0], text, *claim[2:]), certificate)

    def test_claims_about_another_log(self):
        claim, record = certify(make_log())
        self.assert_rejects(("possible", str(make_slow())), record)
        self.assert_rejects(("possible", str(make_impossible())), record)
        self.assert_accepts(("possible", str(make_town())), record)
        claim, paper = certify(make_impossible())
        self.assert_rejects(("clash", str(make_slow())), paper)

    def test_claims_about_what_is_no_ask_or_no_integer(self):
        for claim, certificate in examples():
            if len(claim) == 4:
                for ask in no_asks():
                    self.assert_rejects((*claim[:2], ask, claim[3]), certificate)
                for number in no_integers():
                    self.assert_rejects((*claim[:3], number), certificate)

    def test_true_and_false_are_no_integers(self):
        text = "slots 1\nstand a 1\nstand b 1\nbikes most 1"
        right = (((0, "most", 1),), (), ((0, 0), (0, 0)))
        self.assert_accepts(("most", text, "bikes", 1), right)
        self.assert_rejects(("most", text, "bikes", True), right)
        for other in (
            (((False, "most", 1),), (), ((0, 0), (0, 0))), (((0, "most", True),), (), ((0, 0), (0, 0))),
            (((0, "most", 1),), (), ((False, 0), (0, 0))), (((0, "most", 1),), (), ((0, 0), (0, False))),
        ):
            self.assert_rejects(("most", text, "bikes", 1), other)
        right = ((), ((0, 0, 1), (1, 0, 1)), ((0, 0), (0, 0)))
        self.assert_accepts(("most", text, "bikes", 2), right)
        for caps in (((False, 0, 1), (1, 0, 1)), ((0, False, 1), (1, 0, 1)), ((0, 0, True), (1, 0, 1)),
                     ((0, 0, 1), (True, 0, 1))):
            self.assert_rejects(("most", text, "bikes", 2), ((), caps, ((0, 0), (0, 0))))
        self.assert_accepts(("reached", text, "bikes", 1), ((1, 0), (), ()))
        for claim, record in ((("reached", text, "bikes", True), ((1, 0), (), ())),
                              (("reached", text, "bikes", 1), ((True, 0), (), ())),
                              (("possible", text), ((1, False), (), ()))):
            self.assert_rejects(claim, record)

    def test_certificates_in_another_form(self):
        for claim, certificate in examples():
            for other in changed_forms(certificate):
                self.assert_rejects(claim, other)

    def test_rows_of_papers(self):
        text = "slots 1\nstand a 5\nstand b 5\nbikes from 0 to 3\nbikes least 0\nvan 0 most 2"
        claim, flat = ("most", text, "bikes", 100), ((0, 0), (0, 0))
        right = ((0, "least", 1), (0, "most", 3), (1, "least", 1), (2, "most", 1))
        caps = ((0, 0, 1), (0, 1, 1), (1, 0, 1))
        self.assert_accepts(claim, (right, caps, flat))
        for rows in (
            right[::-1], (right[1], right[0], *right[2:]), (*right, right[3]), (right[0], *right),
            (*right[:2], right[1]),
            ((0, "most", 3), (0, "most", 3)), ((0, "most", 3), (0, "most", 4)), (*right[:3], (2, "least", 1)),
            ((0, "most", 3), (1, "most", 1)), ((0, "most", 3), (3, "most", 1)), ((-1, "most", 1), (0, "most", 3)),
            ((0, "most", 3), (2, "most", 0)), ((0, "most", 3), (2, "most", -1)), ((0, "Most", 3),), ((0, "", 3),),
            (("0", "most", 3),), ((0, "most", "3"),), ((0, "most"),), ((0, "most", 3, 1),), (("most", 0, 3),),
            (0, "most", 3), ("most",), ([0, "most", 3],), list(right), None, "", ((0, ("most",), 3),),
            ((0, None, 3),), ((None, "most", 3),), ((0, "most", None),), ((0, EqualToAll(), 3),), ((0, [], 3),),
        ):
            self.assert_rejects(claim, (rows, caps, flat))
        for rows in (
            caps[::-1], (caps[1], caps[0], caps[2]), (*caps, caps[2]), (caps[0], *caps), (*caps, (2, 0, 1)),
            (*caps, (1, 2, 1)), ((-1, 0, 1), *caps), ((0, -1, 1), *caps), (*caps, (1, 1, 0)), (*caps, (1, 1, -1)),
            (*caps, (1, 1)), (*caps, (1, 1, 1, 1)), (*caps, ("b", 1, 1)), (*caps, (1, "1", 1)), (*caps, [1, 1, 1]),
            list(caps), None, "", 0, ((0, 0, 1), (0, 0, 2)), (*caps, None), (*caps, (1, None, 1)),
            (*caps, (None, 1, 1)),
        ):
            self.assert_rejects(claim, (right, rows, flat))
        for heights in (
            (), ((0, 0),), ((0, 0), (0, 0), (0, 0)), ((0, 0), (0,)), ((0, 0), (0, 0, 0)), ((0, 0), ()), (0, 0), None,
            [(0, 0), (0, 0)], ((0, 0), [0, 0]), ((0, 0), (0, None)), ((0, 0), (0, "0")), ((0, 0), None), "",
            ((0, 0), "00"),
        ):
            self.assert_rejects(claim, (right, caps, heights))
        for paper in ((right, caps), (right, caps, flat, ()), (caps, right, flat), (flat, right, caps), right,
                      ((), (), ())):
            self.assert_rejects(claim, paper)

    def test_strings_in_the_place_of_tuples(self):
        text = "slots 1\nstand a 5"
        self.assert_accepts(("least", text, "bikes", 0), ((), (), ((0, 0),)))
        for paper in (("", (), ((0, 0),)), ((), "", ((0, 0),)), ((), (), "ab"), "abc", ((), {}, ((0, 0),)),
                      ({}, (), ((0, 0),)), ([], (), ((0, 0),)), ((), [], ((0, 0),)), ((), (), [(0, 0)]),
                      ((), (), ("00",))):
            self.assert_rejects(("least", text, "bikes", 0), paper)


if __name__ == "__main__":
    unittest.main()
