"""The cheapest circulation in a network, with bounds for each arc.

What would be cheapest for each arc by itself leaves too much at some nodes and too little at others. This is then
brought from the ones to the others by ways that are cheapest, and of these by those with the fewest edges.
"""

from heapq import heappop, heappush


def first_number(number, low, high, price):
    """How much goes along an arc at first: as this number, if the price does not call for an end."""
    if price > 0:
        return low
    if price < 0:
        return high
    return max(low, min(number, high))


class Routing:
    """What goes along the edges of a network while it becomes a circulation."""

    def __init__(self, network, limits, prices, numbers):
        self._edges = network.edges
        self._heads = network.heads
        self._limits = limits
        self._prices = []
        # How much more can go along each edge.
        self._rest = []
        many = len(network.edges)
        # How much more comes to each node than goes from it.
        self._excess = [0] * many
        # No edge with a rest has a price below the height of its head less that of its node: what is sent along
        # edges where the two are equal is sent as cheaply as can be.
        self._heights = [0] * many
        # How far each node is from those with too much, and which of its edges is to be tried next.
        self._lengths = []
        self._turns = []
        # No way has so many edges, so that this stands for a price of 1 when lengths are compared.
        self._unit = many + 1
        for place, (low, high) in enumerate(limits):
            number = first_number(numbers[place], low, high, prices[place])
            self._rest.extend([high - number, number - low])
            self._prices.extend([prices[place], -prices[place]])
            self._excess[self._heads[2 * place]] += number
            self._excess[self._heads[2 * place + 1]] -= number

    def run(self):
        """Whether there is a circulation; then it is there."""
        while sum([abs(excess) for excess in self._excess]) > 0:
            goal = self._measure()
            if goal is None:
                return False
            self._turns = [0] * len(self._edges)
            for node, excess in enumerate(list(self._excess)):
                if excess > 0:
                    self._push(node, goal)
            self._lift(goal)
        return True

    def result(self):
        """How much goes along each arc."""
        return [high - self._rest[2 * place] for place, (_, high) in enumerate(self._limits)]

    def heights(self):
        """The height of each node; they show that no circulation is cheaper than the one that was found."""
        return list(self._heights)

    def cut(self):
        """For each node 0 if what is too much still comes to it, otherwise 1, when there is no circulation."""
        return [1 if length is None else 0 for length in self._lengths]

    def _edge_length(self, node, edge):
        """The length of an edge from this node: its price above the difference of heights, and 1 for itself."""
        price = self._prices[edge] + self._heights[node] - self._heights[self._heads[edge]]
        return price * self._unit + 1

    def _measure(self):
        """Measures how far nodes are from those with too much, up to the next with too little; how far this one is."""
        self._lengths = [None] * len(self._edges)
        queue = []
        for node, excess in enumerate(self._excess):
            if excess > 0:
                self._lengths[node] = 0
                heappush(queue, (0, node))
        while queue:
            length, node = heappop(queue)
            if self._excess[node] < 0:
                return length
            if length == self._lengths[node]:
                for edge in self._edges[node]:
                    self._reach(queue, node, edge)
        return None

    def _reach(self, queue, node, edge):
        """Puts the node behind this edge into the queue, if the way there is shorter than those before."""
        if self._rest[edge] == 0:
            return
        head = self._heads[edge]
        length = self._lengths[node] + self._edge_length(node, edge)
        if self._lengths[head] is None or length < self._lengths[head]:
            self._lengths[head] = length
            heappush(queue, (length, head))

    def _push(self, start, goal):
        """Brings as much from this node as shortest ways let through, to nodes with too little."""
        way = []
        node = start
        while self._excess[start] > 0:
            edge = self._next_edge(node, goal)
            if edge is not None:
                way.append(edge)
                node = self._heads[edge]
            elif way:
                node = self._heads[way.pop() ^ 1]
                self._turns[node] += 1
            else:
                return
            if self._excess[node] < 0:
                self._send(start, way)
                way = []
                node = start

    def _next_edge(self, node, goal):
        """The next edge from this node that is part of a shortest way; None if there is none left."""
        edges = self._edges[node]
        while self._turns[node] < len(edges):
            edge = edges[self._turns[node]]
            length = self._lengths[self._heads[edge]]
            if self._rest[edge] > 0 and length is not None and length <= goal:
                if length == self._lengths[node] + self._edge_length(node, edge):
                    return edge
            self._turns[node] += 1
        return None

    def _send(self, start, way):
        """Brings as much along this way as its edges, and both of its ends, let through."""
        end = self._heads[way[-1]]
        number = min(self._excess[start], -self._excess[end], min([self._rest[edge] for edge in way]))
        for edge in way:
            self._rest[edge] -= number
            self._rest[edge ^ 1] += number
        self._excess[start] -= number
        self._excess[end] += number

    def _lift(self, goal):
        """Raises the heights by what was measured, so that shortest ways cost nothing above them."""
        for node, length in enumerate(self._lengths):
            far = goal if length is None else min(length, goal)
            self._heights[node] += far // self._unit


def circulation(network, limits, prices, numbers):
    """How much goes along each arc of a circulation that is as cheap as can be; None if there is none.

    The limits are a pair of bounds for each arc. It is looked for from these numbers on.
    """
    if any([low > high for low, high in limits]):
        return None
    routing = Routing(network, limits, prices, numbers)
    return routing.result() if routing.run() else None
