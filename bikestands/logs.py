"""Logs: a town, and facts that were told about its bikes."""

from bikestands.errors import InvalidFact, InvalidFacts, InvalidPlace, InvalidText, NotALog, TooMany
from bikestands.forms import is_number, read_fact
from bikestands.limits import MOST_FACTS
from bikestands.towns import Town, check_town

# The first words of the lines of a town; no fact begins with one of them.
TOWN_WORDS = ("slots", "stand", "road")


def check_facts(town, facts):
    """Raises InvalidFacts if these are not the facts of any log of the town."""
    if not isinstance(facts, tuple):
        raise InvalidFacts(None)
    for index, fact in enumerate(facts):
        if index == MOST_FACTS or not town.is_fact(fact):
            raise InvalidFacts(index)


def check_log(value):
    """Raises NotALog if this is no log."""
    if not isinstance(value, Log):
        raise NotALog(value)


def check_place(log, index):
    """Raises InvalidPlace if this is no index of a fact of the log."""
    if not is_number(index, 0, len(log) - 1):
        raise InvalidPlace(index)


def told_facts(log):
    """All facts of the log, each as `read_fact` tells it."""
    return [read_fact(log.town, fact) for fact in log.facts]


class Log:
    """A town and some facts of it; it never changes."""

    def __init__(self, town, facts=()):
        check_town(town)
        check_facts(town, facts)
        self._town = town
        self._facts = facts

    @classmethod
    def read(cls, text):
        """The log with this text."""
        if not isinstance(text, str):
            raise InvalidText(text)
        lines = text.split("\n")
        of_town = [line for line in lines if line.split(" ")[0] in TOWN_WORDS]
        facts = tuple([line for line in lines if line.split(" ")[0] not in TOWN_WORDS])
        try:
            log = cls(Town.read("\n".join(of_town)), facts)
        except (InvalidText, InvalidFacts):
            raise InvalidText(text) from None
        # A line of the town may have stood behind a fact.
        if str(log) != text:
            raise InvalidText(text)
        return log

    @property
    def town(self):
        """The town of which the facts are."""
        return self._town

    @property
    def facts(self):
        """The facts, in their order."""
        return self._facts

    def bounds(self, index):
        """The pair of the bounds of this fact, None for one that it does not have."""
        check_place(self, index)
        return read_fact(self._town, self._facts[index])[1]

    def with_fact(self, fact):
        """The log with this fact more, behind the others."""
        if not self._town.is_fact(fact):
            raise InvalidFact(fact)
        if len(self._facts) == MOST_FACTS:
            raise TooMany(MOST_FACTS)
        return Log(self._town, (*self._facts, fact))

    def without(self, index):
        """The log without the fact with this index."""
        check_place(self, index)
        return Log(self._town, (*self._facts[:index], *self._facts[index + 1:]))

    def __eq__(self, other):
        return isinstance(other, Log) and self._town == other._town and self._facts == other._facts

    def __len__(self):
        return len(self._facts)

    def __bool__(self):
        return True

    def __str__(self):
        return "\n".join([str(self._town), *self._facts])

    def __repr__(self):
        return f"Log of {len(self._facts)} facts"
