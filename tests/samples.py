"""Values for the tests: towns and their asks, and values that are none of what is asked for."""

from bikestands.towns import Town

STANDS = (("hill", 4), ("port", 3))
ROADS = (("hill", "port", 1), ("port", "hill", 2))
TEXT = "slots 2\nstand hill 4\nstand port 3\nroad hill port 1\nroad port hill 2"


class EqualToAll:
    """Claims to be equal to every value."""

    def __eq__(self, other):
        return True

    def __hash__(self):
        return 0


class NeverAsked:
    """Fails when it is compared, measured, gone through or shown."""

    def fail(self, *_):
        raise AssertionError("this value should not have been asked anything")

    __eq__ = __ne__ = __lt__ = __le__ = __gt__ = __ge__ = __hash__ = fail
    __len__ = __iter__ = __getitem__ = __contains__ = __bool__ = __str__ = __repr__ = fail


def make_town():
    return Town(2, STANDS, ROADS)


def asks_of(town):
    """All asks of the town, told one by one from what a town is."""
    moments, slots = range(town.slots + 1), range(town.slots)
    pairs = [road[:2] for road in town.roads]
    return [
        "bikes", "all rides", "all vans",
        *[f"count {name} {moment}" for name in town.names for moment in moments],
        *[f"way {moment}" for moment in moments],
        *[f"{word} {name} {slot}" for word in ("left", "came") for name in town.names for slot in slots],
        *[f"rides {start} {end} {slot}" for start, end in pairs for slot in slots],
        *[f"van {slot}" for slot in slots],
        *[f"road {start} {end}" for start, end in pairs],
        *[f"{word} {name}" for word in ("from", "to") for name in town.names],
    ]


def towns():
    words = (("count", 1), ("bikes", 2), ("from", 3), ("all", 4), ("rides", 5))
    return [
        make_town(), Town(1, (("a", 1),)), Town(8, STANDS, (("hill", "hill", 1),)),
        Town(2, STANDS, (("hill", "port", 3),)),
        Town(3, words, (("from", "from", 1), ("all", "rides", 2), ("rides", "all", 2))),
    ]


def no_strings():
    """Values of many kinds, none of them a string or a tuple."""
    return [
        None, True, False, 0, 1, 2, -1, 10 ** 44, b"bikes", [], ["bikes"], {}, {"bikes": 1}, set(), frozenset(),
        object(), EqualToAll(), NeverAsked(), ValueError("bikes"), Town, make_town, make_town(), range(3), Ellipsis,
        [[[[[[[[[1]]]]]]]]],
    ]


def no_tuples():
    return [*no_strings(), "", "bikes", "ab"]


def no_numbers_in(least, most):
    """Values that are no integers from the least one to the most."""
    kinds = [value for value in no_tuples() if isinstance(value, bool) or not isinstance(value, int)]
    return [*kinds, (), (least,), str(least), least - 1, most + 1, -most, -10 ** 44, 10 ** 44]


def no_names():
    return [
        *no_strings(), (), ("hill",), "", "a" * 9, "Hill", "HILL", "hill1", "1", "hi ll", " hill", "hill ", "hill\n",
        "\n", "hi-ll", "hi_ll", "h.", "`", "{", "\u00e9", "\u00df", "\u0131", "\uff41", "\u00aa",
    ]


def edits(text, letters):
    """All texts that come from this one by one letter more, less or otherwise."""
    for at in range(len(text) + 1):
        for letter in letters:
            yield text[:at] + letter + text[at:]
    for at in range(len(text)):
        yield text[:at] + text[at + 1:]
        for letter in letters:
            if letter != text[at]:
                yield text[:at] + letter + text[at + 1:]
