"""A town as a network: each record is a circulation in it, in whole numbers, and each such circulation is a record.

An arc is called by words. Those of a plain ask, as `read_ask` tells it, call the arc along which its value goes.
"""

# Where bikes come from, and where they end; from the end they go back to the start along the arc ("bikes",).
START = ("start",)
END = ("end",)
# The cap of an arc that has none: all that facts call for, brought along one arc, is less.
WIDE = 1000000


class Network:
    """Nodes, told by numbers, and arcs between them, told by their places.

    The arc with the place K is two edges: along 2 * K its number becomes greater, along 2 * K + 1, which leads
    back, it becomes less.
    """

    def __init__(self, town):
        self._nodes = {}
        self._slots = town.slots
        # The place of each arc by its words.
        self.places = {}
        # For each arc the greatest number that can go along it.
        self.caps = []
        # For each edge the node to which it leads, and for each node the edges that lead from it.
        self.heads = []
        self.edges = []
        for name, size in town.stands:
            self._add_stand(name, size)
        for start, end, time in town.roads:
            self._add_road(start, end, time)
        for slot in range(town.slots):
            self._add_arc(("van", slot), ("taken", slot), ("brought", slot), WIDE)
        self._add_arc(("bikes",), END, START, WIDE)

    def lying(self, name, moment):
        """The number of the node of what has lain at the stand at this moment."""
        return self._nodes[self._behind(name, moment)]

    def tail_and_head(self, place):
        """The numbers of the nodes from which and to which the arc with this place leads."""
        return (self.heads[2 * place + 1], self.heads[2 * place])

    def _node(self, words):
        """The number of the node that is called by these words, which is added if there is none."""
        if words not in self._nodes:
            self._nodes[words] = len(self.edges)
            self.edges.append([])
        return self._nodes[words]

    def _add_arc(self, words, tail, head, cap):
        """Adds an arc from the node tail to the node head."""
        start, end = self._node(tail), self._node(head)
        self.places[words] = len(self.caps)
        self.edges[start].append(len(self.heads))
        self.edges[end].append(len(self.heads) + 1)
        self.heads.extend([end, start])
        self.caps.append(cap)

    def _ahead(self, name, moment):
        """The node of what comes to lie at the stand at this moment."""
        return START if moment == 0 else ("ahead", name, moment)

    def _behind(self, name, moment):
        """The node of what has lain at the stand at this moment."""
        return END if moment == self._slots else ("behind", name, moment)

    def _add_stand(self, name, size):
        for moment in range(self._slots + 1):
            self._add_arc(("count", name, moment), self._ahead(name, moment), self._behind(name, moment), size)
        for slot in range(self._slots):
            start, end = self._behind(name, slot), self._ahead(name, slot + 1)
            self._add_arc(("stay", name, slot), start, end, WIDE)
            self._add_arc(("left", name, slot), start, ("leaving", name, slot), WIDE)
            self._add_arc(("came", name, slot), ("coming", name, slot), end, WIDE)
            self._add_arc(("take", name, slot), start, ("taken", slot), WIDE)
            self._add_arc(("bring", name, slot), ("brought", slot), end, WIDE)

    def _add_road(self, start, end, time):
        for slot in range(self._slots):
            last = slot + time - 1
            # What would come later is under way in the end.
            head = ("coming", end, last) if last < self._slots else END
            self._add_arc(("rides", start, end, slot), ("leaving", start, slot), head, WIDE)
