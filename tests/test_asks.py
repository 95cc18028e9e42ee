import unittest

from bikestands.towns import Town
from tests.samples import STANDS, asks_of, edits, make_town, no_strings, towns


class Asks(unittest.TestCase):
    def assert_ask(self, town, value, expected):
        with self.subTest(town=str(town), value=value):
            self.assertIs(town.is_ask(value), expected)

    def test_every_form(self):
        town = make_town()
        for ask in (
            "count hill 0", "count port 2", "bikes", "way 0", "way 2", "left hill 0", "left port 1", "came hill 0",
            "came port 1", "rides hill port 0", "rides port hill 1", "van 0", "van 1", "all rides", "all vans",
            "road hill port", "road port hill", "from hill", "from port", "to hill", "to port",
        ):
            self.assert_ask(town, ask, True)
        self.assertIs(town.is_ask(value="bikes"), True)
        self.assertIs(town.is_ask(value="bike"), False)

    def test_all_asks_of_some_towns(self):
        for town in towns():
            for ask in asks_of(town):
                self.assert_ask(town, ask, True)

    def test_asks_of_other_towns(self):
        for town in towns():
            own = asks_of(town)
            for other in towns():
                for ask in asks_of(other):
                    self.assert_ask(town, ask, ask in own)

    def test_one_sign_otherwise(self):
        for town in (make_town(), Town(1, (("a", 1), ("b", 1)), (("a", "b", 1),))):
            own = asks_of(town)
            for ask in own:
                for text in edits(ask, "0123 ab\n"):
                    self.assertIs(town.is_ask(text), text in own, text)

    def test_moments_and_slots(self):
        for slots in range(1, 9):
            town = Town(slots, STANDS, (("hill", "port", 1),))
            for number in [*range(12), 18, 99, 100, 9999, 10000, int("1" * 45)]:
                for form in ("count hill {}", "way {}"):
                    self.assert_ask(town, form.format(number), number <= slots)
                for form in ("left hill {}", "came hill {}", "rides hill port {}", "van {}"):
                    self.assert_ask(town, form.format(number), number < slots)

    def test_numbers_written_otherwise(self):
        town = Town(8, STANDS, (("hill", "port", 1),))
        for form in ("count hill {}", "way {}", "left hill {}", "came hill {}", "rides hill port {}", "van {}"):
            self.assert_ask(town, form.format("1"), True)
            for number in (
                "01", "00", "001", "+1", "-1", "-0", "1.0", "1_", "0x1", "", " 1", "1 ", "one", "\u0661", "\u00b9",
                "\uff11", "1" * 3900, "0" * 3900,
            ):
                self.assert_ask(town, form.format(number), False)

    def test_stands_otherwise(self):
        town = make_town()
        for name in ("", "hil", "hills", "Hill", "HILL", "hillport", "a", "0", "stand", "hill\n", "h\u00eell", "None"):
            for form in (
                "count {} 0", "left {} 0", "came {} 0", "from {}", "to {}", "rides {} port 0", "rides hill {} 0",
                "road {} port", "road hill {}",
            ):
                self.assert_ask(town, form.format(name), False)

    def test_there_must_be_this_road(self):
        town = Town(2, STANDS, (("hill", "port", 1), ("port", "port", 3)))
        for start, end, expected in (
            ("hill", "port", True), ("port", "port", True), ("port", "hill", False), ("hill", "hill", False),
        ):
            self.assert_ask(town, f"rides {start} {end} 1", expected)
            self.assert_ask(town, f"road {start} {end}", expected)
        for ask in ("rides hill port 0", "road hill port"):
            self.assert_ask(Town(2, STANDS), ask, False)
        for ask in ("from hill", "to hill", "left hill 0", "came hill 0", "all rides", "all vans", "way 1", "van 1"):
            self.assert_ask(Town(2, STANDS), ask, True)

    def test_a_word_too_few_or_too_many(self):
        town = make_town()
        own = asks_of(town)
        for ask in own:
            words = ask.split(" ")
            for at in range(len(words) + 1):
                for word in ("", "hill", "port", "0", "1", "is", "rides", "bikes", "count"):
                    text = " ".join([*words[:at], word, *words[at:]])
                    self.assert_ask(town, text, text in own)
            for at in range(len(words)):
                text = " ".join([*words[:at], *words[at + 1:]])
                self.assert_ask(town, text, text in own)

    def test_other_words_and_spaces(self):
        town = make_town()
        for text in (
            "", " ", "  ", "\n", "count", "Count hill 0", "COUNT hill 0", "counts hill 0", "Bikes", "bike", "bikes ",
            " bikes", "bikes\n", "bikes 0", "bikes hill", "way hill", "way", "van", "van hill", "van hill 0", "vans 0",
            "vans", "all", "all bikes", "all ride", "all van", "all rides 0", "rides", "rides hill 0", "rides 0",
            "rides all", "road hill", "road hill port 0", "from", "from hill 0", "from hill to port", "to", "to 0",
            "left hill", "left 0", "came hill", "count hill", "count 0", "count hill hill", "count 0 hill",
            "count  hill 0", "count hill  0", "count\thill 0", "count hill 0 ", " count hill 0", "count hill 0\n",
            "count\nhill 0", "count\u00a0hill 0", "slots 2", "stand hill 4",
        ):
            self.assert_ask(town, text, False)

    def test_facts_are_no_asks(self):
        town = make_town()
        for ask in asks_of(town):
            for end in ("is 0", "from 0 to 1", "least 0", "most 1"):
                self.assert_ask(town, f"{ask} {end}", False)

    def test_values_that_are_no_strings(self):
        town = make_town()
        for value in [*no_strings(), (), ("bikes",), ("count", "hill", 0), ["count", "hill", "0"], b"count hill 0"]:
            self.assertIs(town.is_ask(value), False)


if __name__ == "__main__":
    unittest.main()
