"""What readings would tell: how widely an ask can still range when a plain ask has been told exactly."""

from bikestands.errors import InvalidAsk, InvalidReadings
from bikestands.fitting import Fitting
from bikestands.forms import asked, read_plain
from bikestands.limits import MOST_READINGS
from bikestands.logs import check_log, told_facts
from bikestands.ranges import some_fitting


def check_readings(town, readings):
    """Raises InvalidReadings if these are not one to six plain asks of the town."""
    if not isinstance(readings, tuple) or len(readings) == 0:
        raise InvalidReadings(None)
    for index, reading in enumerate(readings):
        if index == MOST_READINGS or read_plain(town, reading) is None:
            raise InvalidReadings(index)


class Reader:
    """What readings would tell of an ask of a log, both of them told as `read_ask` tells them."""

    def __init__(self, log, ask):
        self._town = log.town
        self._facts = told_facts(log)
        self._found = some_fitting(log)
        self._ask = ask

    def _width(self, reading, number):
        """The width of the range of the ask if the reading has this value."""
        least, most = Fitting(self._town, [*self._facts, (reading, (number, number))]).ends(self._ask)
        return most - least

    def greatest_width(self, reading):
        """The greatest width that the range of the ask can still have behind the reading."""
        low, high = self._found.ends(reading)
        # The records for two values have records for each value between as their mixtures, so that the widths
        # first rise, then perhaps stay, then fall: a step without a rise has the greatest one at its lower end, or
        # before it.
        while low < high:
            middle = (low + high) // 2
            if self._width(reading, middle) < self._width(reading, middle + 1):
                low = middle + 1
            else:
                high = middle
        return self._width(reading, low)


def after(log, ask, reading):
    """The greatest width that the range of the ask can still have when the reading has been told exactly."""
    check_log(log)
    told = asked(log.town, ask)
    told_reading = read_plain(log.town, reading)
    if told_reading is None:
        raise InvalidAsk(reading)
    return Reader(log, told).greatest_width(told_reading)


def widths(log, ask, readings):
    """The greatest width behind each of the readings."""
    check_log(log)
    told = asked(log.town, ask)
    check_readings(log.town, readings)
    reader = Reader(log, told)
    return [reader.greatest_width(read_plain(log.town, reading)) for reading in readings]


def best_reading(log, ask, readings):
    """The first one of the readings behind which the greatest width is least."""
    found = widths(log, ask, readings)
    return readings[found.index(min(found))]


def settled(log, ask, readings):
    """The indexes of those readings behind which the ask is surely known."""
    return tuple([index for index, width in enumerate(widths(log, ask, readings)) if width == 0])
