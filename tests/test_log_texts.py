import unittest

from bikestands.errors import InvalidText
from bikestands.logs import Log
from bikestands.towns import Town
from tests.cases import Case
from tests.samples import FACTS, STANDS, TEXT, edits, make_log, make_town, no_strings, no_tuples, towns

FULL = TEXT + "\n" + "\n".join(FACTS)
SMALL = "slots 1\nstand a 1\nroad a a 1\nbikes is 1\nrides a a 0 from 0 to 1"


def is_text(text):
    """Whether this is the text of a log, told by where its facts may begin."""
    lines = text.split("\n")
    for at in range(1, len(lines) + 1):
        try:
            town = Town.read("\n".join(lines[:at]))
        except InvalidText:
            continue
        facts = lines[at:]
        if len(facts) <= 12 and all(town.is_fact(fact) for fact in facts):
            return True
    return False


class Read(Case):
    def assert_no_text(self, given):
        self.assert_raised(InvalidText, {"given": given}, Log.read, given)
        self.assert_raised(InvalidText, {"given": given}, Log.read, text=given)

    def assert_read_rightly(self, text):
        if is_text(text):
            self.assertEqual(str(Log.read(text)), text)
        else:
            self.assert_no_text(text)

    def test_a_log_with_facts(self):
        for log in (Log.read(FULL), Log.read(text=FULL), make_log().read(FULL)):
            self.assertIs(log.__class__, Log)
            self.assertIs(log.town.__class__, Town)
            self.assertEqual(log.town, make_town())
            self.assertEqual(log.facts, FACTS)
            self.assertIs(log.facts.__class__, tuple)
            self.assertEqual(log, make_log())

    def test_a_log_without_facts(self):
        for town in towns():
            self.assertEqual(Log.read(str(town)), Log(town))
            self.assertEqual(Log.read(str(town)).facts, ())

    def test_texts_read_back(self):
        words = (("slots", 1), ("stand", 2), ("road", 3), ("bikes", 4), ("count", 5))
        town = Town(5, words, (("slots", "stand", 1), ("road", "road", 2), ("stand", "road", 3)))
        facts = ("count slots 0 is 1", "left stand 1 most 2", "rides road road 4 from 1 to 2", "count count 5 least 0")
        for many in range(5):
            log = Log(town, facts[:many])
            self.assertEqual(Log.read(str(log)), log)
        log = Log(town, ("bikes is 1",) * 12)
        self.assertEqual(Log.read(str(log)).facts, ("bikes is 1",) * 12)

    def test_one_sign_otherwise(self):
        for text in edits(SMALL, "01 abis\n"):
            self.assert_read_rightly(text)
        for text in edits(FULL, "2 t\n"):
            self.assert_read_rightly(text)

    def test_one_word_otherwise(self):
        words = ("", "slots", "stand", "road", "a", "0", "1", "2", "bikes", "is", "from", "to", "rides", "count")
        rows = [line.split(" ") for line in SMALL.split("\n")]
        for row, parts in enumerate(rows):
            for at in range(len(parts) + 1):
                for word in words:
                    for other in ([*parts[:at], word, *parts[at:]], [*parts[:at], word, *parts[at + 1:]]):
                        lines = [" ".join(line) for line in [*rows[:row], other, *rows[row + 1:]]]
                        self.assert_read_rightly("\n".join(lines))

    def test_one_line_otherwise(self):
        lines = FULL.split("\n")
        others = [
            "", " ", "slots 2", "slots 3", "stand hill 4", "stand a 1", "road hill hill 1", "road hill port 1",
            "bikes is 3", "van 0 is 0", "count a 0 is 1", "count hill 0", "all rides is 3", "log", *lines,
        ]
        for at in range(len(lines) + 1):
            self.assert_read_rightly("\n".join([*lines[:at], *lines[at + 1:]]))
            for line in others:
                self.assert_read_rightly("\n".join([*lines[:at], line, *lines[at:]]))
                self.assert_read_rightly("\n".join([*lines[:at], line, *lines[at + 1:]]))

    def test_two_lines_in_each_others_place(self):
        lines = FULL.split("\n")
        for one in range(len(lines)):
            for other in range(one):
                swapped = list(lines)
                swapped[one], swapped[other] = lines[other], lines[one]
                self.assert_read_rightly("\n".join(swapped))

    def test_lines_of_the_town_behind_facts(self):
        for text in (
            "bikes is 1\n" + TEXT, TEXT + "\nbikes is 1\nroad hill hill 1", TEXT + "\nbikes is 1\nstand a 1",
            TEXT + "\nbikes is 1\nslots 2", "slots 2\nbikes is 1\nstand hill 4", "bikes is 1",
        ):
            self.assert_no_text(text)

    def test_the_end_otherwise(self):
        for text in (FULL, TEXT, SMALL):
            self.assertEqual(str(Log.read(text)), text)
            for end in ("\n", "\n\n", " ", "\r", "\t", "\n ", "\nx", "\nbikes", "\x0b", "\x0c", "\x1c", "\u2028"):
                self.assert_no_text(text + end)
            for begin in ("\n", " ", "x", "\ufeff"):
                self.assert_no_text(begin + text)
            self.assert_no_text(text.replace("\n", "\r\n"))
            self.assert_no_text(text.replace("\n", "\r"))
            self.assert_no_text(text.replace(" ", "  "))
            self.assert_no_text(text.upper())

    def test_twelve_facts_at_most(self):
        for many in range(15):
            text = "\n".join([TEXT, *["bikes most 9"] * many])
            if many <= 12:
                self.assertEqual(len(Log.read(text)), many)
            else:
                self.assert_no_text(text)

    def test_a_town_that_is_none(self):
        for text in (
            "", "\n", "slots 1", "stand a 1", "slots 1\nbikes is 1", "slots 9\nstand a 1\nbikes is 1",
            "slots 0\nstand a 1", "slots 1\nstand a 41", "slots 1\nstand a 1\nstand a 1", "stand a 1\nslots 1",
            "slots 1\nstand a 1\nroad a b 1", "slots 1\nroad a a 1\nstand a 1",
        ):
            self.assert_no_text(text)

    def test_values_that_are_no_strings(self):
        for value in [*no_strings(), *no_tuples(), (), FULL.encode(), (FULL,), FULL.split("\n"), make_log()]:
            if not isinstance(value, str):
                self.assert_no_text(value)
        for text in ("", "bikes", "ab", str(STANDS)):
            self.assert_no_text(text)


if __name__ == "__main__":
    unittest.main()
