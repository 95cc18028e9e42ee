"""What can be told of all records that fit a log: ranges, records at their ends, and what is sure."""

from bikestands.errors import Impossible, InvalidWord, UnknownName
from bikestands.fitting import Fitting
from bikestands.forms import asked
from bikestands.logs import check_log, told_facts

# For the word of each end of a range the price at which it is cheapest.
PRICES = {"least": 1, "most": -1}
ALL_VANS = ("all", "vans")


def fitting(log):
    """The records that fit the log."""
    return Fitting(log.town, told_facts(log))


def some_fitting(log):
    """The records that fit the log; raises Impossible if there are none."""
    found = fitting(log)
    if found.numbers is None:
        raise Impossible()
    return found


def is_word(value):
    """Whether the value is the word for an end of a range."""
    return isinstance(value, str) and value in PRICES


def possible(log):
    """Whether some record fits the log."""
    check_log(log)
    return fitting(log).numbers is not None


def some_record(log):
    """A record that fits, None if there is none."""
    check_log(log)
    found = fitting(log)
    return None if found.numbers is None else found.written(found.numbers)


def ask_range(log, ask):
    """The pair of the least and the greatest value of the ask in all records that fit."""
    check_log(log)
    told = asked(log.town, ask)
    return some_fitting(log).ends(told)


def end_record(log, ask, word):
    """A record that fits in which the ask has the least or the greatest value, as the word tells."""
    check_log(log)
    told = asked(log.town, ask)
    if not is_word(word):
        raise InvalidWord(word)
    found = some_fitting(log)
    return found.written(found.end_numbers(told, PRICES[word]))


def surely(log, ask):
    """The value of the ask if it is the same in all records that fit, otherwise None."""
    least, most = ask_range(log, ask)
    return least if least == most else None


def fewest_vans(log):
    """A record that fits in which as few bikes are moved by van as can be."""
    check_log(log)
    found = some_fitting(log)
    return found.written(found.end_numbers(ALL_VANS, PRICES["least"]))


def counts(town):
    """The name, the moment and the size for each stand and moment, in this order."""
    return [(name, moment, size) for name, size in town.stands for moment in range(town.slots + 1)]


def surely_full(log):
    """The pairs (name, moment) at which a stand is full in all records that fit."""
    check_log(log)
    found = some_fitting(log)
    rows = counts(log.town)
    return tuple([(name, moment) for name, moment, size in rows if found.least_value(("count", name, moment)) == size])


def surely_empty(log):
    """The pairs (name, moment) at which a stand is empty in all records that fit."""
    check_log(log)
    found = some_fitting(log)
    rows = counts(log.town)
    return tuple([(name, moment) for name, moment, _ in rows if found.greatest_value(("count", name, moment)) == 0])


def surely_moved(log):
    """The slots in which some bike is moved by van in all records that fit."""
    check_log(log)
    found = some_fitting(log)
    return tuple([slot for slot in range(log.town.slots) if found.least_value(("van", slot)) > 0])


def profile(log, name):
    """For each moment the range of how many bikes lie at this stand."""
    check_log(log)
    if not isinstance(name, str) or name not in log.town.names:
        raise UnknownName(name)
    found = some_fitting(log)
    return tuple([found.ends(("count", name, moment)) for moment in range(log.town.slots + 1)])
