"""Papers that show a clash of facts, or the end of a range, made from the heights of nodes in the network of a town.

An arc is strained by its price and by how much higher its tail is than its head. Along a circle the strains come to
the prices alone. So no circulation is cheaper than one that has its low bound on each arc with a strain above 0, and
its high bound on each arc with a strain below 0: these bounds, weighed by the strains, are what a paper tells.
"""

from bikestands.fitting import narrowed, priced
from bikestands.forms import plain_asks
from bikestands.logs import told_facts
from bikestands.networks import Network
from bikestands.routings import Routing


class Papers:
    """Writes papers for a log."""

    def __init__(self, log):
        self._town = log.town
        self._facts = told_facts(log)
        self._network = Network(log.town)
        self._limits = narrowed(self._network, self._facts)
        self._free = [0] * len(self._limits)

    def end_paper(self, ask, price):
        """The paper for the least value of the ask (price 1), or the greatest one (price -1), if some record fits."""
        prices = priced(self._network, plain_asks(self._town, ask), price)
        routing = Routing(self._network, self._limits, prices, self._free)
        routing.run()
        return self._strained(prices, routing.heights())

    def clash_paper(self):
        """The paper that shows that no record fits, if none does."""
        for words, place in self._network.places.items():
            low, high = self._limits[place]
            if low > high:
                flat = [0] * len(self._network.edges)
                return self._written([(words, 1)], [(words, 1)], flat)
        routing = Routing(self._network, self._limits, self._free, self._free)
        routing.run()
        return self._strained(self._free, routing.cut())

    def _strained(self, prices, heights):
        """The paper with weights by the strains, for these heights of all nodes."""
        lows = []
        highs = []
        for words, place in self._network.places.items():
            tail, head = self._network.tail_and_head(place)
            strain = prices[place] + heights[tail] - heights[head]
            # The low bound that each arc has by itself is 0 and calls for no weight.
            if strain > 0 and self._limits[place][0] > 0:
                lows.append((words, strain))
            if strain < 0:
                highs.append((words, -strain))
        return self._written(lows, highs, heights)

    def _written(self, lows, highs, heights):
        """The paper with these weights, by words of arcs, for their low and high bounds."""
        weights = [(self._low_index(words), "least", weight) for words, weight in lows]
        caps = []
        for words, weight in highs:
            index = self._high_index(words)
            if index is None:
                _, name, moment = words
                caps.append((self._town.names.index(name), moment, weight))
            else:
                weights.append((index, "most", weight))
        return (tuple(sorted(weights)), tuple(sorted(caps)), self._stand_heights(heights))

    def _low_index(self, words):
        """The index of the fact that gives the arc with these words its low bound."""
        place = self._network.places[words]
        bounds = [least if ask == words else None for ask, (least, _) in self._facts]
        return bounds.index(self._limits[place][0])

    def _high_index(self, words):
        """The index of the fact that gives the arc with these words its high bound; None if a stand gives it."""
        place = self._network.places[words]
        bounds = [most if ask == words else None for ask, (_, most) in self._facts]
        high = self._limits[place][1]
        return bounds.index(high) if high in bounds else None

    def _stand_heights(self, heights):
        """For each stand its height at each moment, 0 at the last one, in which bikes end."""
        moments = range(self._town.slots + 1)
        rows = []
        for name in self._town.names:
            row = [heights[self._network.lying(name, moment)] for moment in moments]
            # Nodes rise by what the way to them costs; a paper, which tells what deeds come to, has it the other way.
            rows.append(tuple([row[-1] - height for height in row]))
        return tuple(rows)
