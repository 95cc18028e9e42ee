"""A small checker: what it accepts is true, whoever wrote the claim and the certificate."""

from bikestands.errors import InvalidText
from bikestands.forms import is_number, is_whole, plain_asks, read_ask
from bikestands.logs import Log, told_facts
from bikestands.records import fits, is_record, value_of

# For the first word of each claim how many elements it has.
LENGTHS = {"possible": 2, "clash": 2, "reached": 4, "most": 4, "least": 4}
# For the word of each weight which of the two bounds of a fact it is for, and with what sign it counts.
SIDES = {"least": (0, -1), "most": (1, 1)}
# The price of the deeds that the ask of a claim counts.
PRICES = {"most": 1, "least": -1}


def is_integer(value):
    """Whether the value is an integer."""
    return isinstance(value, int) and not isinstance(value, bool)


def read_log(value):
    """The log with this text; None if this is the text of none."""
    try:
        return Log.read(value)
    except InvalidText:
        return None


def read_claim(value):
    """The word, the log, the ask as `read_ask` tells it, and the number, None for the last two if the claim has none.

    None if this is no claim for the checker.
    """
    if not isinstance(value, tuple) or len(value) not in (2, 4):
        return None
    word, text, *rest = value
    if not isinstance(word, str) or LENGTHS.get(word) != len(value):
        return None
    log = read_log(text)
    if log is None:
        return None
    if not rest:
        return (word, log, None, None)
    ask = read_ask(log.town, rest[0])
    if ask is None or not is_integer(rest[1]):
        return None
    return (word, log, ask, rest[1])


def is_triple(value):
    """Whether the value is a triple, whatever is in it."""
    return isinstance(value, tuple) and len(value) == 3


def is_weight(facts, value):
    """Whether the value is the index of one of these facts, the word for a bound that it has, and a weight."""
    if not is_triple(value):
        return False
    index, word, weight = value
    if not is_number(index, 0, len(facts) - 1) or not isinstance(word, str) or word not in SIDES:
        return False
    return facts[index][1][SIDES[word][0]] is not None and is_whole(weight, 1)


def is_cap(town, value):
    """Whether the value is the index of a stand, a moment and a weight."""
    if not is_triple(value):
        return False
    stand, moment, weight = value
    return is_number(stand, 0, len(town.stands) - 1) and is_number(moment, 0, town.slots) and is_whole(weight, 1)


def is_stand_heights(town, value):
    """Whether the value is a tuple with an integer for each moment."""
    if not isinstance(value, tuple) or len(value) != town.slots + 1:
        return False
    return all([is_integer(height) for height in value])


def ascends(rows):
    """Whether these triples ascend, no two with the same first two."""
    return all([one[:2] < other[:2] for one, other in zip(rows, rows[1:])])


def is_paper(town, facts, value):
    """Whether the value is a paper for a log of the town with these facts."""
    if not is_triple(value) or not all([isinstance(part, tuple) for part in value]):
        return False
    weights, caps, heights = value
    if not all([is_weight(facts, row) for row in weights]) or not all([is_cap(town, row) for row in caps]):
        return False
    if len(heights) != len(town.stands) or not all([is_stand_heights(town, row) for row in heights]):
        return False
    return ascends(weights) and ascends(caps)


def worth(town, facts, paper):
    """The worth of the paper: what its loads come to at most in any record that fits."""
    weights, caps, _ = paper
    numbers = [weight * town.stands[stand][1] for stand, _, weight in caps]
    for index, word, weight in weights:
        side, sign = SIDES[word]
        numbers.append(sign * weight * facts[index][1][side])
    return sum(numbers)


def loads(town, facts, paper):
    """For each plain ask the load that the paper puts on the deeds that it counts."""
    weights, caps, _ = paper
    rows = [(facts[index][0], SIDES[word][1] * weight) for index, word, weight in weights]
    rows.extend([(("count", town.names[stand], moment), weight) for stand, moment, weight in caps])
    found = {}
    for ask, load in rows:
        found[ask] = found.get(ask, 0) + load
    return found


def ride(town, road, slot):
    """The deed of a bike that is ridden on the road in this slot, as `deeds` tells it."""
    start, end, time = road
    asks = [("left", start, slot), ("rides", start, end, slot)]
    if slot + time > town.slots:
        return ((start, slot), None, asks)
    return ((start, slot), (end, slot + time), [*asks, ("came", end, slot + time - 1)])


def deeds(town):
    """All deeds: the stand and moment at which the bike lies ahead and behind, and asks that count the deed.

    In the place of a stand and a moment None stands ahead of beginnings, behind ends, and for bikes that are under
    way in the end. The asks for what lies at a stand are left out.
    """
    names = town.names
    slots = range(town.slots)
    begins = [(None, (name, 0), [("bikes",)]) for name in names]
    stays = [((name, slot), (name, slot + 1), []) for name in names for slot in slots]
    rides = [ride(town, road, slot) for road in town.roads for slot in slots]
    vans = [
        ((start, slot), (end, slot + 1), [("van", slot)]) for start in names for end in names for slot in slots
    ]
    ends = [((name, town.slots), None, []) for name in names]
    return [*begins, *stays, *rides, *vans, *ends]


def shows(town, facts, paper, prices):
    """Whether the paper shows that the deeds come to its worth at most, plain asks giving those they count prices."""
    found = loads(town, facts, paper)
    heights = {}
    for name, row in zip(town.names, paper[2]):
        for moment, height in enumerate(row):
            heights[name, moment] = height
    for ahead, behind, asks in deeds(town):
        counting = asks if behind is None else [*asks, ("count", *behind)]
        price = sum([prices.get(ask, 0) for ask in counting])
        load = sum([found.get(ask, 0) for ask in counting])
        if price > load + heights.get(behind, 0) - heights.get(ahead, 0):
            return False
    return True


def is_clash(log, certificate):
    """Whether the certificate shows that no record fits the log."""
    facts = told_facts(log)
    if not is_paper(log.town, facts, certificate):
        return False
    return worth(log.town, facts, certificate) < 0 and shows(log.town, facts, certificate, {})


def is_end(word, log, ask, number, certificate):
    """Whether the certificate shows that the ask has at most, or at least, this value."""
    facts = told_facts(log)
    if not is_paper(log.town, facts, certificate):
        return False
    price = PRICES[word]
    prices = {plain: price for plain in plain_asks(log.town, ask)}
    return worth(log.town, facts, certificate) <= price * number and shows(log.town, facts, certificate, prices)


def is_fitting(log, certificate):
    """Whether the certificate is a record that fits the log."""
    return is_record(log.town, certificate) and fits(log, certificate)


def accepts(claim, certificate):
    """Whether this is a claim for the checker with a certificate for it."""
    told = read_claim(claim)
    if told is None:
        return False
    word, log, ask, number = told
    if word == "possible":
        return is_fitting(log, certificate)
    if word == "reached":
        return is_fitting(log, certificate) and value_of(log.town, certificate, ask) == number
    if word == "clash":
        return is_clash(log, certificate)
    return is_end(word, log, ask, number, certificate)
