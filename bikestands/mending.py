"""Wishes for a log, and the changes that make them hold."""

from bikestands.errors import InvalidChanges, InvalidWish, InvalidWishes
from bikestands.forms import is_number, is_whole, read_ask
from bikestands.limits import MOST_CHANGES
from bikestands.logs import Log, check_log
from bikestands.ranges import fitting
from bikestands.wrongs import is_within, longer_sets


def is_wish(value):
    """Whether the value is a wish."""
    if not isinstance(value, tuple) or len(value) not in (1, 4) or not isinstance(value[0], str):
        return False
    if len(value) == 1:
        return value[0] == "possible"
    return value[0] == "within" and isinstance(value[1], str) and is_whole(value[2], 0) and is_whole(value[3], 0)


def is_change(log, value):
    """Whether the value is a pair of an index of a fact of the log and a string."""
    if not isinstance(value, tuple) or len(value) != 2:
        return False
    return is_number(value[0], 0, len(log) - 1) and isinstance(value[1], str)


def check_wishes(wishes):
    """Raises InvalidWishes if these are not all wishes."""
    if not isinstance(wishes, tuple):
        raise InvalidWishes(None)
    for index, wish in enumerate(wishes):
        if not is_wish(wish):
            raise InvalidWishes(index)


def check_changes(log, changes):
    """Raises InvalidChanges if these are not up to five changes of the log."""
    if not isinstance(changes, tuple):
        raise InvalidChanges(None)
    for index, change in enumerate(changes):
        if index == MOST_CHANGES or not is_change(log, change):
            raise InvalidChanges(index)


def range_wished(town, found, wish):
    """The range that the wish is about, in these records that fit; None if it is about none, or there is none."""
    if found.numbers is None or wish[0] == "possible":
        return None
    ask = read_ask(town, wish[1])
    return None if ask is None else found.ends(ask)


def is_kept(town, found, wish):
    """Whether the wish holds for a log of the town, these being the records that fit."""
    if wish[0] == "possible":
        return found.numbers is not None
    ends = range_wished(town, found, wish)
    return ends is not None and wish[2] <= ends[0] and ends[1] <= wish[3]


def kept(log, wish):
    """Whether the wish holds for the log."""
    check_log(log)
    if not is_wish(wish):
        raise InvalidWish(wish)
    return is_kept(log.town, fitting(log), wish)


def changed_facts(log, changes):
    """The strings that the log has with these changes made; None if two of them are of one fact."""
    strings = dict(enumerate(log.facts))
    if len(set([index for index, _ in changes])) < len(changes):
        return None
    strings.update(dict(changes))
    return tuple([string for string in strings.values() if string != ""])


def is_mended(log, wishes, changes):
    """Whether these changes, all of them made, mend the log for the wishes."""
    facts = changed_facts(log, changes)
    if facts is None or not all([log.town.is_fact(fact) for fact in facts]):
        return False
    found = fitting(Log(log.town, facts))
    return all([is_kept(log.town, found, wish) for wish in wishes])


def mends(log, wishes, changes):
    """All least sets of the changes that mend the log for these wishes."""
    check_log(log)
    check_wishes(wishes)
    check_changes(log, changes)
    least = []
    sets = [()]
    while sets:
        for one in sets:
            known = any([is_within(smaller, one) for smaller in least])
            if not known and is_mended(log, wishes, [changes[index] for index in one]):
                least.append(one)
        sets = longer_sets(sets, len(changes))
    return tuple(least)
