import unittest

from bikestands.towns import Town
from tests.samples import STANDS, asks_of, edits, make_town, no_strings, towns

ENDS = ("is {}", "least {}", "most {}", "from {} to 9999", "from 0 to {}")
SUMS = ("way", "all", "road", "from", "to")


def plain_asks_of(town):
    return [ask for ask in asks_of(town) if ask.split(" ")[0] not in SUMS]


def is_number(word):
    return word in [str(number) for number in range(10)] or (word.isascii() and word.isdigit() and word[0] != "0")


def is_end(text):
    """Whether this may stand behind a plain ask and a space, told in another way than the program tells it."""
    words = text.split(" ")
    numbers = words[1::2]
    if not all(is_number(word) and int(word) <= 9999 for word in numbers):
        return False
    if len(words) == 2:
        return words[0] in ("is", "least", "most")
    return len(words) == 4 and words[::2] == ["from", "to"] and int(numbers[0]) <= int(numbers[1])


def is_fact(asks, text):
    return any(text.startswith(f"{ask} ") and is_end(text[len(ask) + 1:]) for ask in asks)


class Facts(unittest.TestCase):
    def assert_fact(self, town, value, expected):
        with self.subTest(town=str(town), value=value):
            self.assertIs(town.is_fact(value), expected)

    def test_every_form(self):
        town = make_town()
        for ask in ("count hill 2", "bikes", "left hill 1", "came port 0", "rides hill port 1", "van 1"):
            for end in (" is 3", " from 1 to 4", " least 2", " most 7"):
                self.assert_fact(town, ask + end, True)
        self.assertIs(town.is_fact(value="bikes is 3"), True)
        self.assertIs(town.is_fact(value="bikes"), False)

    def test_all_plain_asks_of_some_towns(self):
        for town in towns():
            for ask in plain_asks_of(town):
                for end in ENDS:
                    self.assert_fact(town, f"{ask} {end.format(5)}", True)

    def test_facts_of_other_towns(self):
        for town in towns():
            own = plain_asks_of(town)
            for other in towns():
                for ask in plain_asks_of(other):
                    self.assert_fact(town, f"{ask} is 0", ask in own)
                    self.assert_fact(town, f"{ask} from 1 to 2", ask in own)

    def test_sums_have_no_facts(self):
        for town in towns():
            for ask in asks_of(town):
                if ask.split(" ")[0] in SUMS:
                    for end in ("is 0", "least 0", "most 1", "from 0 to 1"):
                        self.assert_fact(town, f"{ask} {end}", False)

    def test_asks_and_ends_alone_are_no_facts(self):
        town = make_town()
        for ask in asks_of(town):
            self.assert_fact(town, ask, False)
            self.assert_fact(town, f"{ask} ", False)
        for end in ENDS:
            self.assert_fact(town, end.format(1), False)
            self.assert_fact(town, " " + end.format(1), False)

    def test_numbers_from_0_to_9999(self):
        town = make_town()
        for end in ENDS:
            for number in ("0", "1", "9", "10", "40", "41", "999", "1000", "9998", "9999"):
                self.assert_fact(town, "count hill 0 " + end.format(number), True)
            for number in ("10000", "99999", "1" * 45, "1" * 3900):
                self.assert_fact(town, "count hill 0 " + end.format(number), False)
        self.assert_fact(town, "bikes from 10000 to 10000", False)

    def test_numbers_written_otherwise(self):
        town = make_town()
        for end in ENDS:
            for number in (
                "00", "01", "0001", "09999", "+1", "-1", "-0", "1.0", "1_0", "0x1", "", " 1", "1 ", "one", "\u0661",
                "\u00b9", "1\n", "\n1", "0" * 3900, "hill", "None",
            ):
                self.assert_fact(town, "bikes " + end.format(number), False)

    def test_the_first_bound_is_at_most_the_second_one(self):
        town = make_town()
        for first in (0, 1, 9, 10, 99, 100, 9998, 9999):
            for second in (0, 1, 9, 10, 99, 100, 9998, 9999):
                self.assert_fact(town, f"van 0 from {first} to {second}", first <= second)

    def test_one_sign_otherwise(self):
        town = Town(2, (("a", 1), ("from", 1)), (("a", "from", 1),))
        own = plain_asks_of(town)
        facts = [f"{ask} is 10" for ask in own]
        facts += ["count a 0 from 9 to 10", "bikes least 0", "rides a from 1 from 1 to 1", "van 1 most 9999"]
        for fact in facts:
            for text in edits(fact, "019 aift\n"):
                self.assertIs(town.is_fact(text), is_fact(own, text), text)

    def test_one_word_otherwise(self):
        town = make_town()
        own = plain_asks_of(town)
        signs = ("", "is", "from", "to", "least", "most", "0", "2", "hill", "port", "bikes", "count", "van")
        facts = ("count hill 1 is 3", "bikes from 1 to 4", "rides hill port 0 least 1", "van 1 most 2")
        for fact in facts:
            words = fact.split(" ")
            for at in range(len(words) + 1):
                for word in signs:
                    more = " ".join([*words[:at], word, *words[at:]])
                    other = " ".join([*words[:at], word, *words[at + 1:]])
                    fewer = " ".join([*words[:at], *words[at + 1:]])
                    for text in (more, other, fewer):
                        self.assert_fact(town, text, is_fact(own, text))

    def test_ends_otherwise(self):
        town = make_town()
        for end in (
            "is", "is ", "IS 3", "Is 3", "is 3 ", "is  3", " is 3", "is 3 3", "is 3 to 4", "is to 3", "3", "= 3",
            "was 3", "at 3", "from 3", "from 3 to", "from 3 to ", "from 3 4", "from to 4", "to 4", "from 3 to 4 to 5",
            "from 3  to 4", "to 3 from 4", "from 3 from 4", "to 3 to 4", "least", "least 3 most 4", "most",
            "most 3 least 1", "least 3 to 4", "at least 3", "least from 3 to 4", "is 3\n", "is\n3", "is\t3",
            "is 3\nbikes is 3",
        ):
            for ask in ("bikes", "count hill 0", "rides port hill 1"):
                self.assert_fact(town, f"{ask} {end}", False)

    def test_stands_moments_slots_and_roads_otherwise(self):
        town = Town(2, STANDS, (("hill", "port", 1),))
        for ask in (
            "count hills 0", "count hill 3", "count hill 00", "left hill 2", "left a 0", "came hill 2", "came a 0",
            "van 2", "rides port hill 0", "rides hill hill 0", "rides hill port 2", "rides hill a 0", "bikes 0", "bike",
            "counts hill 0",
        ):
            for end in ("is 0", "from 0 to 1", "least 0", "most 1"):
                self.assert_fact(town, f"{ask} {end}", False)

    def test_values_that_are_no_strings(self):
        town = make_town()
        others = [(), ("bikes is 3",), ("bikes", "is", 3), ["bikes is 3"], b"bikes is 3", ("bikes", (3, 3))]
        for value in [*no_strings(), *others]:
            self.assertIs(town.is_fact(value), False)


if __name__ == "__main__":
    unittest.main()
