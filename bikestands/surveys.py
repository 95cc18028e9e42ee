"""Surveys: facts that come one by one."""

from bikestands.errors import Contradicts, NothingToUndo
from bikestands.logs import Log
from bikestands.ranges import ask_range, possible
from bikestands.wrongs import adds


class Survey:
    """The facts that were told of a town so far; some record fits them all."""

    def __init__(self, town):
        self._log = Log(town)
        self._town = town
        # What the log was before each fact.
        self._earlier = []

    def tell(self, fact):
        """Takes in a fact; returns whether it adds something."""
        log = self._log.with_fact(fact)
        if not possible(log):
            raise Contradicts(fact)
        added = adds(log, len(log) - 1)
        self._earlier.append(self._log)
        self._log = log
        return added

    @property
    def town(self):
        """The town of which the facts are."""
        return self._town

    @property
    def log(self):
        """The log of what was told."""
        return self._log

    @property
    def changes(self):
        """How many facts can be taken back."""
        return len(self._earlier)

    def ends(self, ask):
        """The range of the ask by what was told."""
        return ask_range(self._log, ask)

    def undo(self):
        """Takes back the last fact."""
        if not self._earlier:
            raise NothingToUndo()
        self._log = self._earlier.pop()

    def __len__(self):
        return len(self._earlier)

    def __bool__(self):
        return True
