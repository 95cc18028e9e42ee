"""Values for the tests: towns and their asks, and values that are none of what is asked for."""

from bikestands.logs import Log
from bikestands.towns import Town

STANDS = (("hill", 4), ("port", 3))
ROADS = (("hill", "port", 1), ("port", "hill", 2))
TEXT = "slots 2\nstand hill 4\nstand port 3\nroad hill port 1\nroad port hill 2"


class EqualToAll:
    """Claims to be equal to every value."""

    def __eq__(self, other):
        return True

    def __hash__(self):
        return 0


class NeverAsked:
    """Fails when it is compared, measured, gone through or shown."""

    def fail(self, *_):
        raise AssertionError("this value should not have been asked anything")

    __eq__ = __ne__ = __lt__ = __le__ = __gt__ = __ge__ = __hash__ = fail
    __len__ = __iter__ = __getitem__ = __contains__ = __bool__ = __str__ = __repr__ = fail


def make_town():
    return Town(2, STANDS, ROADS)


def asks_of(town):
    """All asks of the town, told one by one from what a town is."""
    moments, slots = range(town.slots + 1), range(town.slots)
    pairs = [road[:2] for road in town.roads]
    return [
        "bikes", "all rides", "all vans",
        *[f"count {name} {moment}" for name in town.names for moment in moments],
        *[f"way {moment}" for moment in moments],
        *[f"{word} {name} {slot}" for word in ("left", "came") for name in town.names for slot in slots],
        *[f"rides {start} {end} {slot}" for start, end in pairs for slot in slots],
        *[f"van {slot}" for slot in slots],
        *[f"road {start} {end}" for start, end in pairs],
        *[f"{word} {name}" for word in ("from", "to") for name in town.names],
    ]


def towns():
    words = (("count", 1), ("bikes", 2), ("from", 3), ("all", 4), ("rides", 5))
    return [
        make_town(), Town(1, (("a", 1),)), Town(8, STANDS, (("hill", "hill", 1),)),
        Town(2, STANDS, (("hill", "port", 3),)),
        Town(3, words, (("from", "from", 1), ("all", "rides", 2), ("rides", "all", 2))),
    ]


def no_strings():
    """Values of many kinds, none of them a string or a tuple."""
    return [
        None, True, False, 0, 1, 2, -1, 10 ** 44, b"bikes", [], ["bikes"], {}, {"bikes": 1}, set(), frozenset(),
        object(), EqualToAll(), NeverAsked(), ValueError("bikes"), Town, make_town, make_town(), range(3), Ellipsis,
        [[[[[[[[[1]]]]]]]]],
    ]


def no_tuples():
    return [*no_strings(), "", "bikes", "ab"]


def no_numbers_in(least, most):
    """Values that are no integers from the least one to the most."""
    kinds = [value for value in no_tuples() if isinstance(value, bool) or not isinstance(value, int)]
    return [*kinds, (), (least,), str(least), least - 1, most + 1, -most, -10 ** 44, 10 ** 44]


def no_names():
    return [
        *no_strings(), (), ("hill",), "", "a" * 9, "Hill", "HILL", "hill1", "1", "hi ll", " hill", "hill ", "hill\n",
        "\n", "hi-ll", "hi_ll", "h.", "`", "{", "\u00e9", "\u00df", "\u0131", "\uff41", "\u00aa",
    ]


def edits(text, letters):
    """All texts that come from this one by one letter more, less or otherwise."""
    for at in range(len(text) + 1):
        for letter in letters:
            yield text[:at] + letter + text[at:]
    for at in range(len(text)):
        yield text[:at] + text[at + 1:]
        for letter in letters:
            if letter != text[at]:
                yield text[:at] + letter + text[at + 1:]


FACTS = (
    "count hill 0 is 3", "count port 0 is 1", "count hill 1 is 1", "count port 2 is 3", "van 0 is 0", "van 1 is 0",
)


def make_log():
    return Log(make_town(), FACTS)


def make_slow():
    """A log in which a van must have moved a bike."""
    return Log(make_town(), ("count hill 0 is 1", "count port 0 is 3", "count hill 1 is 2", "count port 1 is 2"))


def make_impossible():
    return make_slow().with_fact("van 0 is 0")


def no_towns():
    others = [value for value in no_tuples() if not isinstance(value, Town)]
    return [*others, (), TEXT, (2, STANDS, ROADS), (make_town(),), make_log()]


def no_logs():
    return [*no_tuples(), (), FACTS, (make_town(), FACTS), str(make_log()), (make_log(),)]


def no_asks():
    """Values that are no asks of the town."""
    return [
        *no_strings(), (), ("bikes",), ("count", "hill", 0), "", "bike", "bikes ", "count hill 3", "count hall 0",
        "left hill 2", "rides hill hill 0", "road port port", "way 3", "all", "bikes is 3",
    ]


def no_facts():
    """Values that are no facts of the town."""
    return [
        *no_strings(), (), ("bikes is 3",), ("bikes", "is", 3), "", "bikes", "bikes is", "bikes is 10000",
        "bikes is 03", "bikes from 3 to 2", "bikes is 3 ", "count hill 3 is 0", "count hall 0 is 0", "van 2 is 0",
        "rides hill hill 0 is 0", "all rides is 3", "way 1 is 0", "bikes is 3\nbikes is 3", "slots 2", "stand a 1",
    ]


def no_places(many):
    """Values that are no indexes of so many facts."""
    kinds = [value for value in no_tuples() if isinstance(value, bool) or not isinstance(value, int)]
    return [*kinds, (), (0,), "0", -1, -many, many, many + 1, -10 ** 44, 10 ** 44]
