"""Which facts of a log must be wrong, and which of them tell something that the others do not."""

from bikestands.fitting import can_fail, can_hold
from bikestands.logs import check_log, check_place, told_facts
from bikestands.networks import Network


def adds_something(network, facts, index):
    """Whether some record fits the other facts but not the one with this index."""
    return can_fail(network, [*facts[:index], *facts[index + 1:]], facts[index])


def adds(log, index):
    """Whether this fact adds something."""
    check_log(log)
    check_place(log, index)
    return adds_something(Network(log.town), told_facts(log), index)


def spare(log):
    """The indexes of the facts that, each by itself, add nothing."""
    check_log(log)
    network = Network(log.town)
    facts = told_facts(log)
    return tuple([index for index in range(len(facts)) if not adds_something(network, facts, index)])


def is_within(part, whole):
    """Whether all of the part is in the whole."""
    return all([index in whole for index in part])


def longer_sets(sets, many):
    """All ascending tuples of indexes below this many that begin with one of the sets and have one index more."""
    return [(*one, index) for one in sets for index in range(one[-1] + 1 if one else 0, many)]


class Mistakes:
    """The least sets of facts without which the others can hold, and what is known of sets that cannot."""

    def __init__(self, town, facts):
        self._network = Network(town)
        self._facts = facts
        # Sets of which each one is dropped in part by all that are looked for: these facts cannot hold together.
        self._clashes = []
        self.found = []

    def _can_keep(self, kept):
        return can_hold(self._network, [self._facts[index] for index in kept])

    def _clash_among(self, kept):
        """A clash among these facts, which cannot hold together; without any of it, the rest of it can."""
        clash = list(kept)
        for index in kept:
            fewer = [other for other in clash if other != index]
            if not self._can_keep(fewer):
                clash = fewer
        return clash

    def look_at(self, dropped):
        """Finds out whether this set is one of the least ones, all smaller ones being known."""
        if any([is_within(least, dropped) for least in self.found]):
            return
        kept = [index for index in range(len(self._facts)) if index not in dropped]
        if any([is_within(clash, kept) for clash in self._clashes]):
            return
        if self._can_keep(kept):
            self.found.append(dropped)
        else:
            self._clashes.append(self._clash_among(kept))


def wrongs(log):
    """All least sets of facts without which the log would be possible."""
    check_log(log)
    facts = told_facts(log)
    mistakes = Mistakes(log.town, facts)
    sets = [()]
    while sets:
        for dropped in sets:
            mistakes.look_at(dropped)
        sets = longer_sets(sets, len(facts))
    return tuple(mistakes.found)
