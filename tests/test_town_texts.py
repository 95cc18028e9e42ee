import re
import unittest

from bikestands.errors import InvalidText
from bikestands.towns import Town
from tests.samples import ROADS, STANDS, TEXT, edits, make_town, no_strings

FORM = re.compile(
    "slots [1-8]((?:\nstand [a-z]{1,8} (?:[1-9]|[1-3][0-9]|40)){1,5})((?:\nroad [a-z]{1,8} [a-z]{1,8} [1-3]){0,12})"
)


def is_text(text):
    """Whether this is the text of a town, told in another way than the program tells it."""
    found = FORM.fullmatch(text)
    if found is None:
        return False
    names = [row.split()[1] for row in found[1].split("\n")[1:]]
    pairs = [tuple(row.split()[1:3]) for row in found[2].split("\n")[1:]]
    used = [name for pair in pairs for name in pair]
    return len(set(names)) == len(names) and len(set(pairs)) == len(pairs) and set(used) <= set(names)


class Read(unittest.TestCase):
    def assert_no_text(self, given):
        with self.assertRaises(InvalidText) as caught:
            Town.read(given)
        self.assertIs(caught.exception.__class__, InvalidText)
        self.assertIs(caught.exception.given, given)

    def assert_read_rightly(self, text):
        with self.subTest(text=text):
            if is_text(text):
                self.assertEqual(str(Town.read(text)), text)
            else:
                self.assert_no_text(text)

    def test_the_text_of_the_document(self):
        for town in (Town.read(TEXT), Town.read(text=TEXT), make_town().read(TEXT)):
            self.assertIs(town.__class__, Town)
            self.assertEqual((town.slots, town.stands, town.roads), (2, STANDS, ROADS))
            self.assertEqual(town.names, ("hill", "port"))
            self.assertEqual(str(town), TEXT)

    def test_texts_read_back(self):
        five = (("e", 1), ("d", 9), ("c", 10), ("b", 39), ("a", 40))
        twelve = tuple([(start, end, 1 + "abc".index(end)) for end in "abc" for start in "abcd"])
        words = (("slots", 1), ("stand", 2), ("road", 3), ("is", 4), ("abcdefgh", 5))
        towns = [
            Town(1, (("a", 1),)), Town(8, five), Town(8, five, twelve), Town(2, STANDS), Town(2, STANDS, ROADS),
            Town(5, words, (("slots", "stand", 1), ("road", "road", 2), ("stand", "road", 3))),
        ]
        for town in towns:
            with self.subTest(town=str(town)):
                read = Town.read(str(town))
                self.assertEqual(read, town)
                self.assertEqual((read.slots, read.stands, read.roads), (town.slots, town.stands, town.roads))
                self.assertEqual(str(read), str(town))

    def test_numbers_of_a_text_are_integers(self):
        town = Town.read("slots 8\nstand a 40\nroad a a 3")
        for number in (town.slots, town.stands[0][1], town.roads[0][2]):
            self.assertIs(number.__class__, int)

    def test_values_that_are_no_strings(self):
        for value in [*no_strings(), (), (TEXT,), [TEXT], TEXT.encode(), tuple(TEXT.split("\n"))]:
            self.assert_no_text(value)

    def test_one_sign_otherwise(self):
        for start in (TEXT, "slots 1\nstand a 1", "slots 8\nstand a 40\nstand b 9\nroad a a 3\nroad a b 2"):
            for text in edits(start, "0123489 azSsrt\n\t\r-+_."):
                self.assert_read_rightly(text)

    def test_one_word_otherwise(self):
        words = re.split("([ \n])", TEXT)
        for at in range(0, len(words), 2):
            for word in ("", "slots", "stand", "road", "hill", "port", "a", "0", "1", "3", "8", "9", "40", "41"):
                text = "".join([*words[:at], word, *words[at + 1:]])
                self.assert_read_rightly(text)

    def test_one_line_otherwise(self):
        lines = TEXT.split("\n")
        more = ["", " ", "slots 2", "slots 3", "stand hill 4", "stand a 1", "road hill hill 1", "road hill port 2"]
        more += ["bikes is 3", "#", "stand", "road", "slots", "stands b 1", "Stand b 1"]
        for at in range(len(lines) + 1):
            texts = ["\n".join([*lines[:at], line, *lines[at:]]) for line in more]
            texts += ["\n".join([*lines[:at], line, *lines[at + 1:]]) for line in more]
            texts += ["\n".join([*lines[:at], *lines[at + 1:]]), "\n".join([*lines[at:], *lines[:at]])]
            for text in texts:
                self.assert_read_rightly(text)

    def test_the_end_otherwise(self):
        for end in ("\n", " ", "\n\n", "\r", "\t", "\0", "\nbikes is 3", "\ncount hill 0 is 1", "\nroad", "\nstand"):
            self.assert_no_text(TEXT + end)
        for text in ("", " ", "\n", "slots", "slots ", "slots 1", "slots 1\n", "slots 1\nstand", "stand a 1", "2"):
            self.assert_no_text(text)

    def test_numbers_with_a_0_ahead_or_other_signs(self):
        digits = ("\u0662", "\u00b2", "\uff12")
        for number in ("02", "002", "+2", "-2", "2.", "2.0", "0x2", "2_", "two", "0", "00", "", *digits):
            self.assert_no_text(f"slots {number}\nstand a 1")
            self.assert_no_text(f"slots 1\nstand a {number}")
            self.assert_no_text(f"slots 1\nstand a 1\nroad a a {number}")

    def test_numbers_out_of_bounds(self):
        for number in ("41", "99", "100", "9999", "10000", "1" * 45, "1" * 3900):
            self.assert_no_text(f"slots {number}\nstand a 1")
            self.assert_no_text(f"slots 1\nstand a {number}")
            self.assert_no_text(f"slots 1\nstand a 1\nroad a a {number}")
        self.assert_no_text("slots 9\nstand a 1")
        self.assert_no_text("slots 1\nstand a 1\nroad a a 4")

    def test_lines_that_the_town_cannot_have(self):
        self.assert_no_text("slots 1\nstand a 1\nstand a 2")
        self.assert_no_text("slots 1\nstand a 1\nroad a b 1")
        self.assert_no_text("slots 1\nstand a 1\nroad a a 1\nroad a a 2")
        self.assert_no_text("slots 1\nstand a 1\nroad a a 1\nstand b 1")
        self.assert_no_text("slots 1\nroad a a 1\nstand a 1")
        self.assert_no_text("slots 1\nstand abcdefghi 1")
        self.assert_no_text("slots 1\nstand A 1")
        self.assert_no_text("slots 1" + "".join([f"\nstand {name} 1" for name in "abcdef"]))
        thirteen = [f"\nroad {start} {end} 1" for start in "abcd" for end in "abcd"][:13]
        five = "slots 1" + "".join([f"\nstand {name} 1" for name in "abcde"])
        self.assert_no_text(five + "".join(thirteen))
        self.assertEqual(len(Town.read(five + "".join(thirteen[:12])).roads), 12)

    def test_other_line_ends_and_spaces(self):
        for sign in ("\r\n", "\r", "\x0b", "\x0c", "\u2028", " \n", "\n ", "\n\n"):
            self.assert_no_text(TEXT.replace("\n", sign))
        for sign in ("  ", "\t", "\u00a0", ""):
            self.assert_no_text(TEXT.replace(" ", sign))


if __name__ == "__main__":
    unittest.main()
