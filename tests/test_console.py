"""Every line of the console with its answer, and what is none of the lines."""

import unittest

from bikestands.console import Console
from bikestands.errors import InvalidText
from bikestands.logs import Log
from tests.cases import Case
from tests.samples import EqualToAll, edits, make_impossible, make_log, make_slow, make_town, no_strings

SIGNS = "aA0 1/-\n"
NAME_WORDS = ("hil1", "Hill", "abcdefghi", "", "a b", "a1", "1", "-", "a_b", "A")
NUMBER_WORDS = ("", "-1", "+1", "01", "00", "1.0", "a", "1a", "0x1", "1_0", "one", "\u0661")
# A line of each form that can be said to any console, and its answer there.
LINES = (
    ("put new slots 1 / stand a 1", "ok"), ("put one slots 2", "InvalidText"), ("remove third", "ok"),
    ("claim possible one", "ok"), ("claim within one 4 4 bikes", "ok"), ("lift 0", "ok"), ("undo", "ok"),
    ("range one all rides", "2 4"), ("possible one", "yes"), ("names", "clash one third"),
    ("show third", "slots 1\nstand a 1"),
)


def line_for(log):
    return str(log).replace("\n", " / ")


def make_console():
    """A console with three logs and a claim."""
    console = Console()
    for line in (f"put one {line_for(make_log())}", f"put clash {line_for(make_impossible())}",
                 "put third slots 1 / stand a 1", "claim possible one"):
        assert console.say(line) == "ok"
    return console


def told(console):
    """All that a console can tell of its desk without changing it, and the claims that hold."""
    names = console.say("names")
    shown = [] if names == "-" else [console.say(f"show {name}") for name in names.split(" ")]
    return (names, shown)


def is_line(text):
    """Whether the text is one of the lines, told word by word."""
    if "\n" in text:
        return False
    words = text.split(" ")
    letters, digits = set("abcdefghijklmnopqrstuvwxyz"), set("0123456789")

    def is_name(word):
        return 1 <= len(word) <= 8 and set(word) <= letters

    def is_number(word):
        return word != "" and set(word) <= digits and (word == "0" or word[0] != "0")

    if text in ("undo", "names"):
        return True
    if words[0] in ("remove", "possible", "show"):
        return len(words) == 2 and is_name(words[1])
    if words[0] in ("put", "range"):
        return len(words) >= 3 and is_name(words[1])
    if words[0] == "lift":
        return len(words) == 2 and is_number(words[1])
    if words[:2] == ["claim", "possible"]:
        return len(words) == 3 and is_name(words[2])
    if words[:2] == ["claim", "within"]:
        return len(words) >= 6 and is_name(words[2]) and is_number(words[3]) and is_number(words[4])
    return False


class Answers(Case):
    def assert_answers(self, console, *pairs):
        for line, answer in pairs:
            self.assertEqual(console.say(line), answer, line)

    def test_the_document(self):
        self.assert_answers(
            Console(),
            ("put a slots 1 / stand x 2 / stand y 2 / road x y 1 / count x 0 is 2 / count y 1 is 1", "ok"),
            ("range a count x 1", "1 2"), ("range a all vans", "0 3"), ("claim within a 0 3 from x", "ok"),
            ("claim within a 2 3 bikes", "ok"), ("range a rides y x 0", "InvalidAsk"),
            ("claim within a 0 0 from x", "Broken"), ("possible a", "yes"), ("remove a", "InUse"), ("lift 1", "ok"),
            ("names", "a"), ("show b", "UnknownName"),
        )

    def test_by_name(self):
        self.assertEqual(Console().say(line="names"), "-")

    def test_each_line(self):
        for line, answer in LINES:
            self.assertEqual(make_console().say(line), answer, line)

    def test_a_new_console(self):
        self.assert_answers(
            Console(), ("names", "-"), ("undo", "NothingToUndo"), ("lift 0", "InvalidPlace"), ("show a", "UnknownName"),
            ("remove a", "UnknownName"), ("possible a", "UnknownName"), ("range a bikes", "UnknownName"),
            ("claim possible a", "UnknownName"), ("claim within a 0 0 bikes", "UnknownName"), ("names", "-"),
        )

    def test_put(self):
        console = Console()
        for name in ("a", "abcdefgh", "put"):
            for log in (make_log(), make_slow(), make_impossible(), Log(make_town())):
                self.assert_answers(console, (f"put {name} {line_for(log)}", "ok"), (f"show {name}", str(log)))
        self.assert_answers(console, ("names", "a abcdefgh put"))

    def test_put_what_cannot_be_read(self):
        console = make_console()
        before = told(console)
        town = "slots 1 / stand a 1"
        for text in (
            "", " ", "slots 1", f" {town}", f"{town} ", f"{town} / ", f" / {town}", town.replace(" / ", "/"),
            town.replace(" / ", "  /  "), town.replace(" / ", " // "), town.replace(" / ", " / / "), f"{town} / bikes",
            f"{town} / bikes is 01", town.replace("slots 1", "slots 01"), "stand a 1 / slots 1",
            f"{town} / count b 0 is 0", town + " / bikes is 1" * 13, f"{town} / bikes is 1 / stand b 1", "one",
            "/", " / ", f"{town}\\n",
        ):
            for name in ("one", "fresh"):
                self.assert_answers(console, (f"put {name} {text}", "InvalidText"))
        self.assertEqual(told(console), before)
        self.assert_answers(console, (f"put one {town}" + " / bikes is 1" * 12, "ok"))

    def test_put_what_a_claim_forbids(self):
        console = make_console()
        self.assert_answers(
            console, (f"put one {line_for(make_impossible())}", "Broken"), ("show one", str(make_log())),
            (f"put one {line_for(make_slow())}", "ok"), ("show one", str(make_slow())),
        )

    def test_remove(self):
        self.assert_answers(
            make_console(), ("remove one", "InUse"), ("remove third", "ok"), ("remove third", "UnknownName"),
            ("names", "clash one"), ("remove clash", "ok"), ("lift 0", "ok"), ("remove one", "ok"), ("names", "-"),
        )

    def test_claims(self):
        self.assert_answers(
            make_console(), ("claim possible clash", "Broken"), ("claim possible nobody", "UnknownName"),
            ("claim within one 2 4 all rides", "ok"), ("claim within one 3 4 all rides", "Broken"),
            ("claim within one 2 3 all rides", "Broken"), ("claim within one 4 3 bikes", "Broken"),
            (f"claim within one 0 {10 ** 44} all rides", "ok"), (f"claim within one {10 ** 44} 0 all rides", "Broken"),
            ("claim within one 0 0 all vans", "ok"), ("claim within nobody 0 0 all vans", "UnknownName"),
            ("remove one", "InUse"), ("lift 4", "InvalidPlace"), ("lift 3", "ok"), ("lift 3", "InvalidPlace"),
            ("lift 0", "ok"), ("lift 0", "ok"), ("lift 0", "ok"), ("lift 0", "InvalidPlace"), ("remove one", "ok"),
        )

    def test_asks_of_any_form_may_stand_behind_the_blank(self):
        console = make_console()
        for ask in ("", " ", " bikes", "bikes ", "all  rides", "bike", "count one 0", "bikes is 4", "a 0 0 bikes", "/"):
            self.assert_answers(console, (f"range one {ask}", "InvalidAsk"), (f"claim within one 0 9 {ask}", "Broken"))
            self.assert_answers(console, (f"range nobody {ask}", "UnknownName"),
                                (f"claim within nobody 0 9 {ask}", "UnknownName"))
        self.assert_answers(console, ("range clash bikes", "Impossible"), ("range clash bike", "InvalidAsk"))

    def test_ranges(self):
        self.assert_answers(
            make_console(), ("range one count hill 2", "0 1"), ("range one bikes", "4 4"), ("range one way 2", "0 1"),
            ("range third bikes", "0 1"), ("range one to hill", "0 1"), ("range one rides hill hill 0", "InvalidAsk"),
        )

    def test_possible(self):
        self.assert_answers(make_console(), ("possible one", "yes"), ("possible clash", "no"),
                            ("possible nobody", "UnknownName"))

    def test_names_are_ascending(self):
        console = Console()
        for name in ("c", "b", "ab", "a"):
            console.say(f"put {name} slots 1 / stand a 1")
        self.assert_answers(console, ("names", "a ab b c"))

    def test_undo(self):
        console = make_console()
        self.assert_answers(
            console, ("lift 0", "ok"), ("remove one", "ok"), ("undo", "ok"), ("show one", str(make_log())),
            ("undo", "ok"), ("remove one", "InUse"), ("undo", "ok"), ("lift 0", "InvalidPlace"), ("undo", "ok"),
            ("undo", "ok"), ("undo", "ok"), ("names", "-"), ("undo", "NothingToUndo"), ("undo", "NothingToUndo"),
        )

    def test_errors_and_questions_cannot_be_taken_back(self):
        console = make_console()
        for line in ("remove one", "lift 9", "claim possible clash", "range one bikes", "range one x", "names",
                     "show one", "possible one", "put one x", "show nobody"):
            console.say(line)
        self.assert_answers(console, ("undo", "ok"), ("lift 0", "InvalidPlace"), ("undo", "ok"),
                            ("names", "clash one"))

    def test_consoles_do_not_share(self):
        self.assert_answers(make_console(), ("names", "clash one third"))
        self.assert_answers(Console(), ("names", "-"))

    def test_answers_are_strings(self):
        for line, _ in LINES:
            self.assertIs(make_console().say(line).__class__, str)

    def test_a_console_equals_itself_alone_and_is_true(self):
        one, other = Console(), Console()
        self.assertTrue(one == one)
        self.assertFalse(one != one)
        self.assertFalse(one == other)
        self.assertTrue(one != other)
        self.assertFalse(one == "names")
        self.assertIs(bool(one), True)
        self.assertTrue(one == EqualToAll())


class Wrong(Case):
    def assert_no_line(self, console, line):
        self.assert_raised(InvalidText, {"given": line}, console.say, line)
        self.assert_raised(InvalidText, {"given": line}, console.say, line=line)

    def test_other_kinds_of_values(self):
        console = make_console()
        for value in [*no_strings(), (), ("names",), ["names"], b"names"]:
            self.assert_no_line(console, value)
        self.assertEqual(told(console), told(make_console()))

    def test_other_words(self):
        console = make_console()
        for line in (
            "", " ", "a", "Undo", "undo ", " undo", "undo 1", "names a", "names ", "name", "lift", "lift ", "put",
            "put ", "put one", "remove", "remove ", "remove one two", "remove  one", "claim", "claim one",
            "claim  possible one", "claim possible", "claim possible ", "claim possible one ", "claim possible one two",
            "claim within one",
            "claim within one 0", "claim within one 0 1", "claim within one 0  1 bikes", "claim within  one 0 1 bikes",
            "claim within one bikes 0 1", "claim Within one 0 1 bikes", "range", "range one", "range  one bikes",
            "possible", "possible one ", "possible one bikes", "show", "show one ", "show one two", "show  one",
            "claim possible one bikes", "help", "one possible", "within one 0 1 bikes", "desk", "put  one slots 1",
            "NAME", "show NAME", "lift NUMBER", "TEXT", "names names", "undo undo", "lift 0 0", "lift  0", "names\n",
        ):
            self.assert_no_line(console, line)
        self.assertEqual(told(console), told(make_console()))

    def test_other_names(self):
        console = make_console()
        for word in NAME_WORDS:
            for line in (f"put {word} slots 1 / stand a 1", f"remove {word}", f"claim possible {word}",
                         f"claim within {word} 0 1 bikes", f"range {word} bikes", f"possible {word}", f"show {word}"):
                # With a blank in the name the rest of it is a text in some lines.
                if not is_line(line):
                    self.assert_no_line(console, line)
        for line in ("show a b", "range Hill bikes", "put hil1 slots 1 / stand a 1", "claim within  0 1 bikes"):
            self.assert_no_line(console, line)

    def test_other_numbers(self):
        console = make_console()
        for word in NUMBER_WORDS:
            for line in (f"lift {word}", f"claim within one {word} 9 bikes", f"claim within one 0 {word} bikes"):
                self.assert_no_line(console, line)

    def test_newlines(self):
        for line, _ in LINES:
            for at in range(len(line) + 1):
                self.assert_no_line(make_console(), line[:at] + "\n" + line[at:])
        self.assert_no_line(make_console(), f"put a {make_log()}")

    def test_every_edit_of_every_line(self):
        seen = {True: 0, False: 0}
        for line, _ in LINES:
            for other in edits(line, SIGNS):
                console = make_console()
                seen[is_line(other)] += 1
                if is_line(other):
                    self.assertIs(console.say(other).__class__, str)
                else:
                    self.assert_no_line(console, other)
        self.assertGreater(min(seen.values()), 500, seen)


if __name__ == "__main__":
    unittest.main()
