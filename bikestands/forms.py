"""The forms of integers, names, asks and facts, and what their words tell."""

from bikestands.errors import InvalidAsk
from bikestands.limits import MOST_NUMBER

DIGITS = "0123456789"
LETTERS = "abcdefghijklmnopqrstuvwxyz"
MOST_LETTERS = 8

# For the first word of each ask: of what kinds the words behind it are.
PLAIN = {
    "count": ("stand", "moment"),
    "bikes": (),
    "left": ("stand", "slot"),
    "came": ("stand", "slot"),
    "rides": ("stand", "stand", "slot"),
    "van": ("slot",),
}
SUMS = {
    "way": ("moment",),
    "all": ("movings",),
    "road": ("stand", "stand"),
    "from": ("stand",),
    "to": ("stand",),
}


def is_number(value, least, most):
    """Whether the value is an integer from the least one to the most."""
    if not isinstance(value, int) or isinstance(value, bool):
        return False
    return least <= value <= most


def is_whole(value, least):
    """Whether the value is an integer from the least one on."""
    return is_number(value, least, value)


def is_name(value):
    """Whether the value is a name."""
    if not isinstance(value, str) or not 1 <= len(value) <= MOST_LETTERS:
        return False
    return all([letter in LETTERS for letter in value])


def read_whole(word):
    """The integer from 0 on that the word tells in digits; None if it tells none."""
    if word == "" or not all([digit in DIGITS for digit in word]):
        return None
    if word[0] == "0" and word != "0":
        return None
    return int(word)


def read_number(word, most):
    """The integer from 0 to most that the word tells in digits; None if it tells none."""
    # The length is looked at first, since Python refuses to read very long numbers.
    number = read_whole(word) if len(word) <= len(str(most)) else None
    return number if number is not None and number <= most else None


def has_road(town, start, end):
    """Whether a road of the town leads from the one stand to the other."""
    return any([road[:2] == (start, end) for road in town.roads])


def read_word(town, kind, word):
    """What a word of this kind tells in an ask of the town; None if it is not of the kind."""
    if kind == "moment":
        return read_number(word, town.slots)
    if kind == "slot":
        return read_number(word, town.slots - 1)
    choices = town.names if kind == "stand" else ("rides", "vans")
    return word if word in choices else None


def read_ask_words(town, words):
    """The ask with these words, as `read_ask` tells it; None if it is no ask of the town."""
    first, *rest = words
    kinds = PLAIN.get(first)
    if kinds is None:
        kinds = SUMS.get(first)
    if kinds is None or len(kinds) != len(rest):
        return None
    told = [read_word(town, kind, word) for kind, word in zip(kinds, rest)]
    if any([part is None for part in told]):
        return None
    if first in ("rides", "road") and not has_road(town, told[0], told[1]):
        return None
    return (first, *told)


def read_ask(town, value):
    """The tuple of the words of an ask, numbers as integers; None if it is no ask of the town."""
    if not isinstance(value, str):
        return None
    return read_ask_words(town, value.split(" "))


def read_plain(town, value):
    """The plain ask, as `read_ask` tells it; None if it is no plain ask of the town."""
    ask = read_ask(town, value)
    return ask if ask is not None and ask[0] in PLAIN else None


def asked(town, value):
    """The ask, as `read_ask` tells it; raises InvalidAsk if it is none of the town."""
    ask = read_ask(town, value)
    if ask is None:
        raise InvalidAsk(value)
    return ask


def plain_asks(town, ask):
    """The plain asks, told as `read_ask` tells them, whose values together are that of the ask."""
    first, *rest = ask
    slots = range(town.slots)
    if first == "way":
        return [
            ("rides", start, end, slot)
            for start, end, time in town.roads for slot in slots if slot < rest[0] < slot + time
        ]
    if first == "road":
        return [("rides", *rest, slot) for slot in slots]
    if first == "from":
        return [("left", *rest, slot) for slot in slots]
    if first == "to":
        return [("came", *rest, slot) for slot in slots]
    if first == "all" and rest == ["vans"]:
        return [("van", slot) for slot in slots]
    if first == "all":
        return [("left", name, slot) for name in town.names for slot in slots]
    return [ask]


def read_bounds(words):
    """The pair of bounds that these words behind an ask tell; None if they tell none."""
    signs = words[::2]
    numbers = [read_number(word, MOST_NUMBER) for word in words[1::2]]
    if len(signs) != len(numbers) or any([number is None for number in numbers]):
        return None
    if signs == ["is"]:
        return (numbers[0], numbers[0])
    if signs == ["least"]:
        return (numbers[0], None)
    if signs == ["most"]:
        return (None, numbers[0])
    if signs == ["from", "to"] and numbers[0] <= numbers[1]:
        return (numbers[0], numbers[1])
    return None


def read_fact(town, value):
    """The pair of the ask, as `read_ask` tells it, and the bounds; None if it is no fact of the town."""
    if not isinstance(value, str):
        return None
    words = value.split(" ")
    kinds = PLAIN.get(words[0])
    if kinds is None:
        return None
    many = 1 + len(kinds)
    ask = read_ask_words(town, words[:many])
    bounds = read_bounds(words[many:])
    if ask is None or bounds is None:
        return None
    return (ask, bounds)
