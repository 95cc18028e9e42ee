"""The records that fit facts, looked for as circulations; facts and asks are told as `read_fact` and `read_ask` do."""

from bikestands.forms import plain_asks
from bikestands.networks import Network
from bikestands.routings import circulation


def narrowed(network, facts):
    """For each arc of the network the pair of its bounds, these facts being among them."""
    lows = [0] * len(network.caps)
    highs = list(network.caps)
    for ask, (least, most) in facts:
        place = network.places[ask]
        if least is not None:
            lows[place] = max(lows[place], least)
        if most is not None:
            highs[place] = min(highs[place], most)
    return list(zip(lows, highs))


def priced(network, asks, price):
    """The price of each arc: this one for those of these plain asks, 0 for all others."""
    prices = [0] * len(network.caps)
    for ask in asks:
        prices[network.places[ask]] = price
    return prices


def can_hold(network, facts):
    """Whether some record fits these facts."""
    free = [0] * len(network.caps)
    return circulation(network, narrowed(network, facts), free, free) is not None


def denials(fact):
    """Facts of which one holds in each record in which this one does not, and none in any other."""
    ask, (least, most) = fact
    below = [] if least is None else [(ask, (None, least - 1))]
    above = [] if most is None else [(ask, (most + 1, None))]
    return [*below, *above]


def can_fail(network, facts, fact):
    """Whether some record fits these facts, but not this one."""
    return any([can_hold(network, [*facts, denial]) for denial in denials(fact)])


def paired(taken, brought):
    """Rows (from, to, number) that take so many from each name of the one dict and bring so many to each of the other.

    Both dicts have as many in all.
    """
    rows = []
    lacking = dict(brought)
    for start, many in taken.items():
        for end in brought:
            number = min(many, lacking[end])
            if number > 0:
                rows.append((start, end, number))
                many -= number
                lacking[end] -= number
    return rows


class Fitting:
    """All records of a town that fit some facts, with one of them at hand, if there is one."""

    def __init__(self, town, facts):
        self._town = town
        self._network = Network(town)
        self._limits = narrowed(self._network, facts)
        free = [0] * len(self._limits)
        # How much goes along each arc for the record at hand, None if none fits.
        self.numbers = circulation(self._network, self._limits, free, free)

    def end_numbers(self, ask, price):
        """How much goes along each arc where the ask has the least value (price 1), or the greatest one (price -1)."""
        prices = priced(self._network, plain_asks(self._town, ask), price)
        return circulation(self._network, self._limits, prices, self.numbers)

    def value_in(self, numbers, ask):
        """The value of the ask in the record for which so much goes along each arc."""
        return sum([numbers[self._network.places[plain]] for plain in plain_asks(self._town, ask)])

    def least_value(self, ask):
        """The least value of the ask."""
        return self.value_in(self.end_numbers(ask, 1), ask)

    def greatest_value(self, ask):
        """The greatest value of the ask."""
        return self.value_in(self.end_numbers(ask, -1), ask)

    def ends(self, ask):
        """The range of the ask."""
        return (self.least_value(ask), self.greatest_value(ask))

    def written(self, numbers):
        """The record for which so much goes along each arc."""
        town = self._town
        begun = tuple([self.value_in(numbers, ("count", name, 0)) for name in town.names])
        rides = []
        vans = []
        for slot in range(town.slots):
            for start, end, _ in town.roads:
                rides.append((start, end, slot, self.value_in(numbers, ("rides", start, end, slot))))
            vans.extend(self._van_rows(numbers, slot))
        return (begun, tuple(sorted([row for row in rides if row[3] > 0])), tuple(sorted(vans)))

    def _van_rows(self, numbers, slot):
        """What vans move in this slot, in rows of a record."""
        names = self._town.names
        taken = {name: numbers[self._network.places["take", name, slot]] for name in names}
        brought = {name: numbers[self._network.places["bring", name, slot]] for name in names}
        return [(start, end, slot, number) for start, end, number in paired(taken, brought)]
