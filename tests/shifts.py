"""Whether some shift of bikes makes the value of an ask in a record less, or greater, without breaking a fact.

All that bikes do is a circulation in time. If one with a better value fits, some circle leads from here to a better
one: along it more or fewer bikes do what they do. Without such a circle, no record that fits has a better value.
"""

from bikestands.records import value
from tests.every_record import asks_that_count, taken_apart

WITHOUT_END = 10 ** 9


def steps_of(town):
    """Rows (from, to, asks that count it, greatest number, what the record tells of it) of all that bikes can do."""
    last = town.slots
    steps = [("end", "start", ["bikes"], WITHOUT_END, "bikes")]
    for name, size in town.stands:
        for moment in range(last + 1):
            ask = f"count {name} {moment}"
            start = ("in", name, moment) if moment > 0 else "start"
            steps.append((start, ("out", name, moment) if moment < last else "end", [ask], size, ask))
    for slot in range(last):
        steps.append((("vans", slot), ("moved", slot), [f"van {slot}", "all vans"], WITHOUT_END, f"van {slot}"))
        for name in town.names:
            start, end = ("out", name, slot), ("in", name, slot + 1)
            steps.append((start, end, [], WITHOUT_END, ("stay", name, slot)))
            steps.append((start, ("vans", slot), [], WITHOUT_END, ("taken", name, slot)))
            steps.append((("moved", slot), end, [], WITHOUT_END, ("brought", name, slot)))
            left, came = f"left {name} {slot}", f"came {name} {slot}"
            steps.append((start, ("left", name, slot), [left, f"from {name}", "all rides"], WITHOUT_END, left))
            steps.append((("came", name, slot), end, [came, f"to {name}"], WITHOUT_END, came))
        for start, end, time in town.roads:
            rides = f"rides {start} {end} {slot}"
            told = asks_that_count(town, ("ride", start, end, slot, time, 1))
            asks = [ask for ask in told if ask.split(" ")[0] in ("rides", "road", "way")]
            place = ("came", end, slot + time - 1) if slot + time <= last else "end"
            steps.append((("left", start, slot), place, asks, WITHOUT_END, rides))
    return steps


def number_of(town, record, told):
    """How many bikes take a step in the record."""
    if isinstance(told, str):
        return value(town, record, told)
    word, name, slot = told
    taken = sum(row[3] for row in record[2] if (row[0], row[2]) == (name, slot))
    if word == "taken":
        return taken
    if word == "brought":
        return sum(row[3] for row in record[2] if (row[1], row[2]) == (name, slot))
    return value(town, record, f"count {name} {slot}") - value(town, record, f"left {name} {slot}") - taken


def edges_of(log, record, ask, price):
    """Rows (from, to, price): one bike more along a step, or one less, as the facts let it be."""
    bounds = {}
    for fact in log.facts:
        told, least, most = taken_apart(fact)
        low, high = bounds.get(told, (0, WITHOUT_END))
        bounds[told] = (max(low, least), min(high, most))
    edges = []
    for start, end, asks, most, told in steps_of(log.town):
        low, high = bounds.get(told, (0, WITHOUT_END))
        number = number_of(log.town, record, told)
        worth = price if ask in asks else 0
        if number < min(high, most):
            edges.append((start, end, worth))
        if number > low:
            edges.append((end, start, -worth))
    return edges


def has_shift(log, record, ask, word):
    """Whether the value of the ask can still become less (for "least") or greater (for "most") by a shift."""
    edges = edges_of(log, record, ask, 1 if word == "least" else -1)
    prices = {node: 0 for edge in edges for node in edge[:2]}
    for _ in range(len(prices) + 1):
        changed = False
        for start, end, worth in edges:
            if prices[start] + worth < prices[end]:
                prices[end] = prices[start] + worth
                changed = True
        if not changed:
            return False
    return True
