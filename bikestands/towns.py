"""Towns: their slots, their stands with sizes, and the roads between them."""

from bikestands.errors import InvalidRoads, InvalidSlots, InvalidStands, InvalidText, NotATown
from bikestands.forms import is_name, is_number, read_ask, read_fact, read_number
from bikestands.limits import MOST_NUMBER, MOST_ROADS, MOST_SIZE, MOST_SLOTS, MOST_STANDS, MOST_TIME


def is_stand(value):
    """Whether the value is a pair of a name and a size."""
    if not isinstance(value, tuple) or len(value) != 2:
        return False
    return is_name(value[0]) and is_number(value[1], 1, MOST_SIZE)


def is_road(names, value):
    """Whether the value is a triple of two of these names and a time."""
    if not isinstance(value, tuple) or len(value) != 3:
        return False
    # Only a name is compared with the names: another value may compare in its own way.
    if not is_name(value[0]) or not is_name(value[1]):
        return False
    return value[0] in names and value[1] in names and is_number(value[2], 1, MOST_TIME)


def check_slots(slots):
    """Raises InvalidSlots if this is no number of slots."""
    if not is_number(slots, 1, MOST_SLOTS):
        raise InvalidSlots(slots)


def check_stands(stands):
    """Raises InvalidStands if these are not the stands of any town."""
    if not isinstance(stands, tuple) or len(stands) == 0:
        raise InvalidStands(None)
    names = []
    for index, stand in enumerate(stands):
        if index == MOST_STANDS or not is_stand(stand) or stand[0] in names:
            raise InvalidStands(index)
        names.append(stand[0])


def check_roads(names, roads):
    """Raises InvalidRoads if these are not the roads of any town with stands of these names."""
    if not isinstance(roads, tuple):
        raise InvalidRoads(None)
    pairs = []
    for index, road in enumerate(roads):
        if index == MOST_ROADS or not is_road(names, road) or road[:2] in pairs:
            raise InvalidRoads(index)
        pairs.append(road[:2])


def check_town(value):
    """Raises NotATown if this is no town."""
    if not isinstance(value, Town):
        raise NotATown(value)


def read_row(words):
    """The tuple of the words behind the first one, with the last one as a number, or as None."""
    return (*words[1:-1], read_number(words[-1], MOST_NUMBER))


class Town:
    """A town; it never changes."""

    def __init__(self, slots, stands, roads=()):
        check_slots(slots)
        check_stands(stands)
        names = tuple([name for name, _ in stands])
        check_roads(names, roads)
        self._slots = slots
        self._stands = stands
        self._roads = roads
        self._names = names

    @classmethod
    def read(cls, text):
        """The town with this text."""
        if not isinstance(text, str):
            raise InvalidText(text)
        rows = [line.split(" ") for line in text.split("\n")]
        slots = read_number(rows[0][-1], MOST_NUMBER)
        stands = tuple([read_row(row) for row in rows if row[0] == "stand"])
        roads = tuple([read_row(row) for row in rows if row[0] == "road"])
        try:
            town = cls(slots, stands, roads)
        except (InvalidSlots, InvalidStands, InvalidRoads):
            raise InvalidText(text) from None
        # Words and rows that were passed over, or stand in another order, are not in its text.
        if str(town) != text:
            raise InvalidText(text)
        return town

    @property
    def slots(self):
        """How many slots there are."""
        return self._slots

    @property
    def stands(self):
        """The pairs of the names and the sizes of the stands."""
        return self._stands

    @property
    def roads(self):
        """The triples of the stands from and to which the roads lead, and their times."""
        return self._roads

    @property
    def names(self):
        """The names of the stands."""
        return self._names

    def is_ask(self, value):
        """Whether the value is an ask of this town."""
        return read_ask(self, value) is not None

    def is_fact(self, value):
        """Whether the value is a fact of this town."""
        return read_fact(self, value) is not None

    def __eq__(self, other):
        return (
            isinstance(other, Town)
            and self._slots == other._slots
            and self._stands == other._stands
            and self._roads == other._roads
        )

    def __str__(self):
        stands = [f"stand {name} {size}" for name, size in self._stands]
        roads = [f"road {start} {end} {time}" for start, end, time in self._roads]
        return "\n".join([f"slots {self._slots}", *stands, *roads])

    def __repr__(self):
        return f"Town of {len(self._stands)} stands"
