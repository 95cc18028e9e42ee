"""Papers, looked at deed by deed as point 16 of the document tells it, with asks as strings.

Nothing of the checker is used here: which asks count a deed is told by `every_record`.
"""

from tests.every_record import asks_that_count, choices_at, taken_apart

SIGNS = {"most": 1, "least": -1}


def deeds_of(town):
    """Rows (kind, place ahead, place behind, asks that count it); a place is a stand and a moment, or None."""
    last = town.slots
    rows = []
    for name in town.names:
        rows.append(("begin", None, (name, 0), ["bikes", f"count {name} 0"]))
        rows.append(("end", (name, last), None, []))
        for slot in range(last):
            for kind, end, time in choices_at(town, name):
                asks = asks_that_count(town, (kind, name, end, slot, time, 1))
                if slot + time > last:
                    rows.append(("away", (name, slot), None, asks))
                else:
                    rows.append((kind, (name, slot), (end, slot + time), [*asks, f"count {end} {slot + time}"]))
    return rows


def worth_of(log, paper):
    weights, caps, _ = paper
    numbers = [weight * log.town.stands[stand][1] for stand, _, weight in caps]
    for index, word, weight in weights:
        first, second = log.bounds(index)
        numbers.append(weight * second if word == "most" else -weight * first)
    return sum(numbers)


def load_of(log, paper, behind, asks):
    weights, caps, _ = paper
    load = sum(weight for stand, moment, weight in caps if (log.town.names[stand], moment) == behind)
    for index, word, weight in weights:
        if taken_apart(log.facts[index])[0] in asks:
            load += SIGNS[word] * weight
    return load


def failing_deeds(log, paper, price_of):
    """The deeds whose price, by the asks that count them, is more than the paper has for them."""
    heights = {None: 0}
    for name, row in zip(log.town.names, paper[2]):
        heights.update({(name, moment): height for moment, height in enumerate(row)})
    return [
        (kind, ahead, behind) for kind, ahead, behind, asks in deeds_of(log.town)
        if price_of(asks) > load_of(log, paper, behind, asks) + heights[behind] - heights[ahead]
    ]


def prices_for(claim):
    """The price of a deed by the asks that count it."""
    if claim[0] == "clash":
        return lambda asks: 0
    return lambda asks: SIGNS[claim[0]] if claim[2] in asks else 0


def is_shown(log, claim, paper):
    """Whether the paper shows the claim, which is about this log."""
    enough = worth_of(log, paper) < 0 if claim[0] == "clash" else worth_of(log, paper) <= SIGNS[claim[0]] * claim[3]
    return enough and not failing_deeds(log, paper, prices_for(claim))
