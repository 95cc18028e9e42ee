"""Claims for the checker, with certificates that it accepts."""

from bikestands.errors import InvalidWord
from bikestands.forms import asked
from bikestands.logs import check_log
from bikestands.papers import Papers
from bikestands.ranges import PRICES, fitting, is_word, some_fitting


def certify(log):
    """A claim and a certificate for whether the log is possible."""
    check_log(log)
    found = fitting(log)
    if found.numbers is None:
        return (("clash", str(log)), Papers(log).clash_paper())
    return (("possible", str(log)), found.written(found.numbers))


def certify_end(log, ask, word):
    """A claim and a certificate for the end of the range of the ask that the word tells."""
    check_log(log)
    told = asked(log.town, ask)
    found = some_fitting(log)
    number = found.value_in(found.end_numbers(told, PRICES[word]), told)
    return ((word, str(log), ask, number), Papers(log).end_paper(told, PRICES[word]))


def certify_most(log, ask):
    """A claim and a certificate for the greatest value of the ask."""
    return certify_end(log, ask, "most")


def certify_least(log, ask):
    """A claim and a certificate for the least value of the ask."""
    return certify_end(log, ask, "least")


def certify_reached(log, ask, word):
    """A claim and a certificate for a record in which the ask has the end of its range that the word tells."""
    check_log(log)
    told = asked(log.town, ask)
    if not is_word(word):
        raise InvalidWord(word)
    found = some_fitting(log)
    numbers = found.end_numbers(told, PRICES[word])
    return (("reached", str(log), ask, found.value_in(numbers, told)), found.written(numbers))
