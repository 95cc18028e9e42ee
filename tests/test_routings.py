"""Cheapest circulations in small networks of any form and price, against all circulations there are."""

import itertools
import random
import unittest

from bikestands.networks import Network
from bikestands.routings import Routing, circulation
from tests.samples import asks_of, make_town, towns


class Arcs:
    """A network of arcs (from, to) alone, as far as a circulation looks at it."""

    def __init__(self, many, arcs):
        self.arcs = arcs
        self.heads = [node for start, end in arcs for node in (end, start)]
        self.edges = [[] for _ in range(many)]
        for place, (start, end) in enumerate(arcs):
            self.edges[start].append(2 * place)
            self.edges[end].append(2 * place + 1)


def is_circulation(network, limits, numbers):
    if not all(low <= number <= high for number, (low, high) in zip(numbers, limits)):
        return False
    excess = [0] * len(network.edges)
    for number, (start, end) in zip(numbers, network.arcs):
        excess[start] -= number
        excess[end] += number
    return not any(excess)


def price_of(numbers, prices):
    return sum(number * price for number, price in zip(numbers, prices))


def least_price(network, limits, prices):
    """The least price of all circulations; None if there are none."""
    choices = itertools.product(*[range(low, high + 1) for low, high in limits])
    return min([price_of(numbers, prices) for numbers in choices if is_circulation(network, limits, numbers)],
               default=None)


def random_networks(seed, times):
    """Networks with few arcs, and bounds and prices for these."""
    chance = random.Random(seed)
    for _ in range(times):
        many = chance.randint(2, 5)
        arcs = [(chance.randrange(many), chance.randrange(many)) for _ in range(chance.randint(1, 7))]
        lows = [chance.choice((0, 0, 0, 1, 2)) for _ in arcs]
        limits = [(low, low + chance.randint(0, 2)) for low in lows]
        most = chance.randint(0, 3)
        yield Arcs(many, arcs), limits, [chance.randint(-most, most) for _ in arcs]


class Routings(unittest.TestCase):
    def test_against_all_circulations(self):
        seen = {True: 0, False: 0}
        for network, limits, prices in random_networks(1, 700):
            arcs = network.arcs
            expected = least_price(network, limits, prices)
            for start in ([0] * len(arcs), [place * 7 + 3 for place in range(len(arcs))]):
                numbers = circulation(network, limits, prices, start)
                seen[expected is None] += 1
                if expected is None:
                    self.assertIsNone(numbers)
                else:
                    self.assertTrue(is_circulation(network, limits, numbers))
                    self.assertEqual(price_of(numbers, prices), expected, (arcs, limits, prices))
        self.assertGreater(min(seen.values()), 200)

    def test_heights_show_that_nothing_is_cheaper(self):
        risen = 0
        for network, limits, prices in random_networks(2, 700):
            routing = Routing(network, limits, prices, [0] * len(prices))
            if routing.run():
                for place, (start, end) in enumerate(network.arcs):
                    number, (low, high) = routing.result()[place], limits[place]
                    above = prices[place] + routing._heights[start] - routing._heights[end]
                    self.assertTrue(above >= 0 or number == high, (network.arcs, limits, prices))
                    self.assertTrue(above <= 0 or number == low, (network.arcs, limits, prices))
                risen += len(set(routing._heights)) > 1
        self.assertGreater(risen, 50)

    def test_bounds_that_no_number_has(self):
        network = Arcs(1, [(0, 0)])
        self.assertIsNone(circulation(network, [(2, 1)], [0], [0]))
        self.assertIsNone(circulation(network, [(0, -1)], [1], [0]))
        self.assertEqual(circulation(network, [(1, 1)], [1], [0]), [1])

    def test_what_is_passed_stays_as_it_is(self):
        network = Arcs(2, [(0, 1), (1, 0)])
        limits, prices, numbers = [(1, 3), (0, 3)], [-1, 0], [0, 0]
        self.assertEqual(circulation(network, limits, prices, numbers), [3, 3])
        self.assertEqual((limits, prices, numbers), ([(1, 3), (0, 3)], [-1, 0], [0, 0]))
        self.assertEqual((network.heads, network.edges), ([1, 0, 0, 1], [[0, 3], [1, 2]]))


class Networks(unittest.TestCase):
    def test_each_plain_ask_has_its_arc(self):
        for town in towns():
            network = Network(town)
            for ask in asks_of(town):
                if town.is_fact(f"{ask} is 0"):
                    words = tuple([int(word) if word.isdigit() else word for word in ask.split(" ")])
                    self.assertIn(words, network.places)

    def test_edges_and_arcs(self):
        network = Network(make_town())
        self.assertEqual(sorted(network.places.values()), list(range(len(network.caps))))
        self.assertEqual(len(network.heads), 2 * len(network.caps))
        self.assertEqual(sorted(itertools.chain(*network.edges)), list(range(len(network.heads))))


if __name__ == "__main__":
    unittest.main()
