"""Desks: logs under names, and claims about them that hold after each change."""

from bikestands.errors import Broken, InUse, InvalidClaim, InvalidName, InvalidPlace, NothingToUndo, UnknownName
from bikestands.forms import is_name, is_number
from bikestands.logs import check_log
from bikestands.mending import is_kept, is_wish, range_wished
from bikestands.ranges import fitting


def check_kept(index, log, wish):
    """Raises Broken if the wish of the claim with this index does not hold for the log."""
    found = fitting(log)
    if not is_kept(log.town, found, wish):
        raise Broken(index, range_wished(log.town, found, wish))


class State:
    """What a desk has, and how it came there; it never changes."""

    def __init__(self, table, row, earlier, many):
        # The logs by their names, and the claims in their order.
        self.table = table
        self.row = row
        # The state before the last change that can be taken back, and how many of them there are.
        self.earlier = earlier
        self.many = many


class Mark:
    """The state that a desk had when the rows of a trial began, and the mark of the same trial around these rows."""

    def __init__(self, state, around):
        self.state = state
        self.around = around


class Trial:
    """For a `with` statement: if its rows end with an exception, the desk is as it was when they began."""

    def __init__(self, desk):
        self._desk = desk
        self._mark = None

    def __enter__(self):
        self._mark = Mark(self._desk.state, self._mark)
        return self._desk

    def __exit__(self, kind, value, trace):
        if kind is not None:
            self._desk.state = self._mark.state
        self._mark = self._mark.around


class Desk:
    """Logs under names, and a row of claims about them."""

    def __init__(self):
        self.state = State({}, (), None, 0)

    def _change(self, table, row):
        """Makes a change by which the desk comes to have these logs and claims."""
        self.state = State(table, row, self.state, self.state.many + 1)

    def _check_name(self, name):
        """Raises UnknownName if no log has this name."""
        if name not in self:
            raise UnknownName(name)

    def __getitem__(self, name):
        self._check_name(name)
        return self.state.table[name]

    def __setitem__(self, name, log):
        if not is_name(name):
            raise InvalidName(name)
        check_log(log)
        for index, (about, wish) in enumerate(self.state.row):
            if about == name:
                check_kept(index, log, wish)
        table = dict(self.state.table)
        table[name] = log
        self._change(table, self.state.row)

    def __contains__(self, value):
        return isinstance(value, str) and value in self.state.table

    def __iter__(self):
        raise TypeError("a desk cannot be gone through")

    def __len__(self):
        return len(self.state.table)

    def __bool__(self):
        return True

    @property
    def names(self):
        """The names of the logs, ascending."""
        return tuple(sorted(list(self.state.table)))

    @property
    def claims(self):
        """The claims, in their order."""
        return self.state.row

    @property
    def changes(self):
        """How many changes can be taken back."""
        return self.state.many

    def remove(self, name):
        """Takes the log with this name away."""
        self._check_name(name)
        for index, (about, _) in enumerate(self.state.row):
            if about == name:
                raise InUse(index)
        table = {other: log for other, log in self.state.table.items() if other != name}
        self._change(table, self.state.row)

    def claim(self, claim):
        """Takes in a claim more, behind the others."""
        if not isinstance(claim, tuple) or len(claim) != 2 or not is_wish(claim[1]):
            raise InvalidClaim(claim)
        name, wish = claim
        self._check_name(name)
        check_kept(len(self.state.row), self.state.table[name], wish)
        self._change(self.state.table, (*self.state.row, claim))

    def lift(self, index):
        """Takes the claim with this index away."""
        row = self.state.row
        if not is_number(index, 0, len(row) - 1):
            raise InvalidPlace(index)
        self._change(self.state.table, (*row[:index], *row[index + 1:]))

    def undo(self):
        """Takes back the last change that has not been taken back."""
        if self.state.earlier is None:
            raise NothingToUndo()
        self.state = self.state.earlier

    def trial(self):
        """For a `with` statement whose rows leave the desk as it was if they end with an exception."""
        return Trial(self)

    def tried(self, action):
        """Calls the action with the desk within such a statement; returns what it returns."""
        with self.trial() as desk:
            return action(desk)
