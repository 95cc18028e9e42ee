"""A desk by lines."""

from bikestands.desks import Desk
from bikestands.errors import (
    Broken, Impossible, InUse, InvalidAsk, InvalidPlace, InvalidText, NothingToUndo, UnknownName,
)
from bikestands.forms import is_name, read_whole
from bikestands.logs import Log
from bikestands.ranges import ask_range, possible

OK = "ok"


def put_log(desk, name, text):
    """Reads a log and puts it on the desk."""
    desk[name] = Log.read(text.replace(" / ", "\n"))
    return OK


def remove_log(desk, name):
    """Takes a log away."""
    desk.remove(name)
    return OK


def claim_possible(desk, name):
    """Claims that a log is possible."""
    desk.claim((name, ("possible",)))
    return OK


def claim_within(desk, name, least, most, ask):
    """Claims that both ends of a range are from the least number to the most."""
    desk.claim((name, ("within", ask, least, most)))
    return OK


def lift_claim(desk, index):
    """Takes a claim away."""
    desk.lift(index)
    return OK


def take_back(desk):
    """Takes back the last change."""
    desk.undo()
    return OK


def tell_range(desk, name, ask):
    """Both ends of a range."""
    least, most = ask_range(desk[name], ask)
    return f"{least} {most}"


def tell_possible(desk, name):
    """Whether a log is possible."""
    return "yes" if possible(desk[name]) else "no"


def tell_names(desk):
    """The names of the logs, a dash if there are none."""
    return " ".join(desk.names) if len(desk) > 0 else "-"


def show_log(desk, name):
    """The text of a log."""
    return str(desk[name])


# What each line does; a word in large letters stands for what is told there, as `read_part` reads it.
ACTIONS = {
    "put NAME TEXT": put_log,
    "remove NAME": remove_log,
    "claim possible NAME": claim_possible,
    "claim within NAME NUMBER NUMBER TEXT": claim_within,
    "lift NUMBER": lift_claim,
    "undo": take_back,
    "range NAME TEXT": tell_range,
    "possible NAME": tell_possible,
    "names": tell_names,
    "show NAME": show_log,
}
KINDS = ("NAME", "NUMBER", "TEXT")


def read_part(kind, part):
    """What a part of a line tells where such a word stands in its form; None if it cannot stand there."""
    if kind == "TEXT":
        return part
    if kind == "NUMBER":
        return read_whole(part)
    if kind == "NAME":
        return part if is_name(part) else None
    return part if part == kind else None


def read_parts(form, line):
    """What the line tells in the places of the words in large letters; None if it is not of this form."""
    kinds = form.split(" ")
    # The last part has all that is left: a text may have spaces, while other parts with a space cannot stand there.
    parts = line.split(" ", len(kinds) - 1)
    if len(parts) != len(kinds):
        return None
    told = [read_part(kind, part) for kind, part in zip(kinds, parts)]
    if any([part is None for part in told]):
        return None
    return [part for kind, part in zip(kinds, told) if kind in KINDS]


def answer(desk, form, parts):
    """Does what a line of this form does; the answer is the name of the error if there is one."""
    action = ACTIONS[form]
    try:
        return action(desk, *parts)
    except InvalidText:
        return "InvalidText"
    except InvalidAsk:
        return "InvalidAsk"
    except InvalidPlace:
        return "InvalidPlace"
    except UnknownName:
        return "UnknownName"
    except InUse:
        return "InUse"
    except Impossible:
        return "Impossible"
    except NothingToUndo:
        return "NothingToUndo"
    except Broken:
        return "Broken"


class Console:
    """A desk that is told lines and answers them."""

    def __init__(self):
        self._desk = Desk()

    def say(self, line):
        """The answer to the line."""
        if not isinstance(line, str) or "\n" in line:
            raise InvalidText(line)
        for form in ACTIONS:
            parts = read_parts(form, line)
            if parts is not None:
                return answer(self._desk, form, parts)
        raise InvalidText(line)
