"""Records: which bikes began where, were ridden and were moved by van, and what lay where by that."""

from bikestands.errors import InvalidFact, InvalidRecord
from bikestands.forms import asked, is_name, is_number, is_whole, plain_asks, read_fact
from bikestands.logs import check_log, told_facts
from bikestands.towns import check_town


def is_begun(town, value):
    """Whether the value has an integer from 0 on for each stand of the town."""
    if not isinstance(value, tuple) or len(value) != len(town.stands):
        return False
    return all([is_whole(number, 0) for number in value])


def is_row(town, value):
    """Whether the value is (from, to, slot, number) with stands and a slot of the town."""
    if not isinstance(value, tuple) or len(value) != 4:
        return False
    # Only a name is compared with the names: another value may compare in its own way.
    if not all([is_name(name) and name in town.names for name in value[:2]]):
        return False
    return is_number(value[2], 0, town.slots - 1) and is_whole(value[3], 1)


def is_rows(town, value):
    """Whether the value is a tuple of such rows, ascending, no two with the same first three."""
    if not isinstance(value, tuple) or not all([is_row(town, row) for row in value]):
        return False
    return all([one[:3] < other[:3] for one, other in zip(value, value[1:])])


def has_form(town, value):
    """Whether the value is a record of the town, as far as each number can be looked at by itself."""
    if not isinstance(value, tuple) or len(value) != 3:
        return False
    begun, rides, vans = value
    if not is_begun(town, begun) or not is_rows(town, rides) or not is_rows(town, vans):
        return False
    pairs = [road[:2] for road in town.roads]
    return all([row[:2] in pairs for row in rides])


def moves(town, record):
    """A row (from, to, slot, number, moment) for all that is ridden or moved: at this moment it lies there."""
    times = {(start, end): time for start, end, time in town.roads}
    ridden = [(*row, row[2] + times[row[:2]]) for row in record[1]]
    moved = [(*row, row[2] + 1) for row in record[2]]
    return [*ridden, *moved]


def lying(town, record):
    """For each name of a stand how many bikes lie there at each moment, if so many can be moved."""
    last = town.slots
    table = {name: [number] * (last + 1) for name, number in zip(town.names, record[0])}
    for start, end, slot, number, arrival in moves(town, record):
        for moment in range(slot + 1, last + 1):
            table[start][moment] -= number
        for moment in range(arrival, last + 1):
            table[end][moment] += number
    return table


def staying(town, record):
    """For each name of a stand how many of the bikes stay there in each slot, below 0 if too many are moved."""
    table = {name: row[:-1] for name, row in lying(town, record).items()}
    for start, _, slot, number, _ in moves(town, record):
        table[start][slot] -= number
    return table


def has_room(town, value):
    """Whether at each moment as many bikes lie at each stand as can be, and as many as are moved from it then."""
    table = lying(town, value)
    if any([max(table[name]) > size for name, size in town.stands]):
        return False
    return all([min(row) >= 0 for row in staying(town, value).values()])


def is_record(town, value):
    """Whether the value is a record of the town."""
    check_town(town)
    return has_form(town, value) and has_room(town, value)


def check_record(town, record):
    """Raises InvalidRecord if this is no record of the town."""
    if not has_form(town, record) or not has_room(town, record):
        raise InvalidRecord(record)


def plain_value(town, record, ask):
    """The value of a plain ask, told as `read_ask` tells it."""
    first, *rest = ask
    begun, rides, vans = record
    if first == "count":
        return lying(town, record)[rest[0]][rest[1]]
    if first == "bikes":
        return sum(begun)
    if first == "van":
        return sum([row[3] for row in vans if row[2] == rest[0]])
    if first == "left":
        return sum([row[3] for row in rides if [row[0], row[2]] == rest])
    if first == "rides":
        return sum([row[3] for row in rides if list(row[:3]) == rest])
    ridden = moves(town, (begun, rides, ()))
    return sum([row[3] for row in ridden if [row[1], row[4] - 1] == rest])


def value_of(town, record, ask):
    """The value of any ask, told as `read_ask` tells it."""
    return sum([plain_value(town, record, plain) for plain in plain_asks(town, ask)])


def is_held(town, record, fact):
    """Whether the fact, told as `read_fact` tells it, holds in the record."""
    ask, (least, most) = fact
    number = value_of(town, record, ask)
    return (least is None or least <= number) and (most is None or number <= most)


def contents(town, record):
    """For each stand how many bikes lie there at each moment."""
    check_town(town)
    check_record(town, record)
    return tuple([tuple(row) for row in lying(town, record).values()])


def value(town, record, ask):
    """The value of the ask in this record."""
    check_town(town)
    check_record(town, record)
    return value_of(town, record, asked(town, ask))


def holds(town, record, fact):
    """Whether this fact holds in the record."""
    check_town(town)
    check_record(town, record)
    told = read_fact(town, fact)
    if told is None:
        raise InvalidFact(fact)
    return is_held(town, record, told)


def fits(log, record):
    """Whether the record fits the log."""
    check_log(log)
    check_record(log.town, record)
    return all([is_held(log.town, record, fact) for fact in told_facts(log)])
