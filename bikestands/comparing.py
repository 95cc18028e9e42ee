"""What two logs of the same town have to do with one another."""

from bikestands.errors import OtherTown, TooMany
from bikestands.fitting import Fitting, can_fail, denials
from bikestands.limits import MOST_FACTS
from bikestands.logs import Log, check_log, told_facts
from bikestands.networks import Network


def check_both(one, other):
    """Raises NotALog or OtherTown if these are not two logs of the same town."""
    check_log(one)
    check_log(other)
    if one.town != other.town:
        raise OtherTown()


def places_apart(one, other):
    """The indexes of the facts of the other log that do not hold in all records that fit the one."""
    network = Network(one.town)
    facts = told_facts(one)
    return [index for index, fact in enumerate(told_facts(other)) if can_fail(network, facts, fact)]


def within(one, other):
    """None if all records that fit the one log fit the other; otherwise a record that fits the one alone."""
    check_both(one, other)
    for fact in told_facts(other):
        for denial in denials(fact):
            found = Fitting(one.town, [*told_facts(one), denial])
            if found.numbers is not None:
                return found.written(found.numbers)
    return None


def alike(one, other):
    """Whether the same records fit both logs."""
    check_both(one, other)
    return places_apart(one, other) == [] and places_apart(other, one) == []


def joined(one, other):
    """The log with the facts of the one, and those of the other that are not among them."""
    check_both(one, other)
    facts = (*one.facts, *[fact for fact in other.facts if fact not in one.facts])
    if len(facts) > MOST_FACTS:
        raise TooMany(MOST_FACTS)
    return Log(one.town, facts)


def apart(one, other):
    """The indexes of the facts of the other log that do not hold in all records that fit the one."""
    check_both(one, other)
    return tuple(places_apart(one, other))
