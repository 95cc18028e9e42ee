"""All records of a small town, gone through one by one, with the value of every ask in each of them.

This is told from points 6 to 10 of the document alone, and uses nothing of the program but towns and logs.
"""

import functools
import itertools
import random

from bikestands.logs import Log
from bikestands.towns import Town
from tests.samples import asks_of


def small_towns():
    """Towns with few records, of many forms."""
    return [
        Town(1, (("a", 2), ("b", 1)), (("a", "b", 1), ("b", "a", 2))),
        Town(2, (("b", 1), ("a", 1)), (("a", "b", 1), ("b", "b", 2))),
        Town(2, (("a", 2), ("b", 1)), (("a", "b", 2), ("b", "a", 1))),
        Town(2, (("b", 2), ("a", 2)), (("b", "a", 1), ("a", "b", 1))),
        Town(3, (("a", 1), ("b", 1)), (("a", "b", 1), ("b", "a", 3))),
        Town(3, (("a", 1), ("b", 1)), (("a", "b", 2), ("b", "a", 1), ("a", "a", 1))),
        Town(4, (("a", 3),), (("a", "a", 2),)),
        Town(3, (("a", 2),), (("a", "a", 3),)),
        Town(2, (("a", 2), ("b", 1))),
        Town(1, (("c", 1), ("a", 2), ("b", 1)), (("a", "b", 1), ("a", "a", 2), ("c", "a", 1))),
        Town(2, (("c", 1), ("a", 1), ("b", 1)), (("a", "b", 1), ("b", "c", 2), ("c", "a", 1))),
    ]


def spreads(many, ways):
    """All tuples that tell how many go each of so many ways."""
    if ways == 1:
        return [(many,)]
    return [(first, *rest) for first in range(many + 1) for rest in spreads(many - first, ways - 1)]


def choices_at(town, name):
    """What a bike at this stand can do: the kind of row, where to, and after what time it lies there."""
    rides = [("ride", end, time) for start, end, time in town.roads if start == name]
    return [("stay", name, 1), *rides, *[("van", end, 1) for end in town.names]]


def deeds_in(town, lying):
    """All that can be done in a slot by as many bikes as lie at each stand: lists of (kind, from, to, time, number)."""
    ways = []
    for name in town.names:
        choices = choices_at(town, name)
        ways.append([
            [(kind, name, end, time, number) for (kind, end, time), number in zip(choices, spread) if number]
            for spread in spreads(lying[name], len(choices))
        ])
    return [list(itertools.chain(*parts)) for parts in itertools.product(*ways)]


def histories(town):
    """For each record what it does, as rows (kind, from, to, slot, time, number), and what lies where."""
    sizes = dict(town.stands)
    begun = itertools.product(*[range(size + 1) for _, size in town.stands])
    found = [([], [dict(zip(town.names, numbers))], {}) for numbers in begun]
    for slot in range(town.slots):
        longer = []
        for rows, table, coming in found:
            for deeds in deeds_in(town, table[-1]):
                later = dict(coming)
                for _, _, end, time, number in deeds:
                    later[end, slot + time] = later.get((end, slot + time), 0) + number
                lying = {name: later.get((name, slot + 1), 0) for name in town.names}
                if all(lying[name] <= sizes[name] for name in town.names):
                    added = [(kind, start, end, slot, time, number) for kind, start, end, time, number in deeds]
                    longer.append((rows + added, table + [lying], later))
        found = longer
    return [(rows, table) for rows, table, _ in found]


def written(town, rows, table):
    """The record in the form of point 8."""
    rides = [(start, end, slot, number) for kind, start, end, slot, _, number in rows if kind == "ride"]
    vans = [(start, end, slot, number) for kind, start, end, slot, _, number in rows if kind == "van"]
    return (tuple(table[0][name] for name in town.names), tuple(sorted(rides)), tuple(sorted(vans)))


def asks_that_count(town, row):
    """All asks whose value is greater by one for each bike that does this."""
    kind, start, end, slot, time, _ = row
    if kind == "stay":
        return []
    if kind == "van":
        return ["all vans", f"van {slot}"]
    asks = ["all rides", f"left {start} {slot}", f"rides {start} {end} {slot}", f"road {start} {end}", f"from {start}"]
    asks += [f"way {moment}" for moment in range(slot + 1, min(slot + time, town.slots + 1))]
    if slot + time <= town.slots:
        asks += [f"came {end} {slot + time - 1}", f"to {end}"]
    return asks


def values_in(town, rows, table):
    """The value of every ask of the town."""
    values = dict.fromkeys(asks_of(town), 0)
    values["bikes"] = sum(table[0].values())
    for moment, lying in enumerate(table):
        for name in town.names:
            values[f"count {name} {moment}"] = lying[name]
    for row in rows:
        for ask in asks_that_count(town, row):
            values[ask] += row[-1]
    return values


class EveryRecord:
    """All records of a town, and the values of all its asks in each."""

    def __init__(self, town):
        self.town = town
        self.asks = asks_of(town)
        self.columns = {ask: column for column, ask in enumerate(self.asks)}
        self.values = {}
        self.tables = {}
        for rows, table in histories(town):
            record = written(town, rows, table)
            values = values_in(town, rows, table)
            self.values[record] = tuple(values[ask] for ask in self.asks)
            self.tables[record] = tuple(tuple(lying[name] for lying in table) for name in town.names)
        # Many records have the same values: what is told of values is told for each such group once.
        self.rows = sorted(set(self.values.values()))

    def value(self, record, ask):
        return self.values[record][self.columns[ask]]

    def holds(self, row, fact):
        """Whether the fact holds where the asks have the values in this row."""
        ask, least, most = taken_apart(fact)
        return least <= row[self.columns[ask]] <= most

    def fitting(self, facts):
        """The rows of values of all records in which these facts hold."""
        told = [taken_apart(fact) for fact in facts]
        bounds = [(self.columns[ask], least, most) for ask, least, most in told]
        return [row for row in self.rows if all(least <= row[at] <= most for at, least, most in bounds)]

    def ends(self, rows, ask):
        numbers = [row[self.columns[ask]] for row in rows]
        return (min(numbers), max(numbers))


@functools.cache
def every_small_town():
    """All records of each of the small towns."""
    return tuple(EveryRecord(town) for town in small_towns())


def plain_asks_of(every):
    """The asks of the town of which facts can be told."""
    return [ask for ask in every.asks if every.town.is_fact(f"{ask} is 0")]


def random_logs(seed, many_logs, most_facts, offs):
    """So many logs of each small town, with all records of it and the rows of values of those that fit."""
    chance = random.Random(seed)
    for every in every_small_town():
        for _ in range(many_logs):
            facts = random_facts(chance, every, chance.randint(0, most_facts), chance.choice(offs))
            yield every, Log(every.town, facts), every.fitting(facts)


def taken_apart(fact):
    """The ask of a fact and its bounds; those that it does not have never matter."""
    for word in (" is ", " least ", " most ", " from "):
        ask, found, numbers = fact.rpartition(word)
        if found:
            break
    if word == " from ":
        least, most = numbers.split(" to ")
        return (ask, int(least), int(most))
    least = 0 if word == " most " else int(numbers)
    most = 10 ** 6 if word == " least " else int(numbers)
    return (ask, least, most)


def random_fact(chance, ask, number):
    """A fact about the ask, near this number."""
    low, high = max(0, number - chance.randint(0, 1)), number + chance.randint(0, 1)
    ends = (f"is {number}", f"from {low} to {high}", f"least {low}", f"most {high}")
    return f"{ask} {chance.choice(ends)}"


def random_facts(chance, every, many, off):
    """So many facts near a record chosen at random; with a number above 0, up to so far off."""
    row = chance.choice(every.rows)
    facts = []
    for ask in chance.choices(plain_asks_of(every), k=many):
        number = row[every.columns[ask]] + chance.randint(-off, off)
        facts.append(random_fact(chance, ask, max(0, number)))
    return tuple(facts)
