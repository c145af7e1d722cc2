"""Desks, which keep a live family and execute commands."""

from heirorders.deciding import greatest, least, settled
from heirorders.errors import InvalidCommand, NoName
from heirorders.families import Family
from heirorders.live import Live

# How many words stand behind the first word of a command; behind `family` stands a text.
BEHIND = {"die": 1, "learn": 2, "held": 1, "least": 1, "greatest": 1, "settled": 0, "undo": 0}


class Desk:
    """A desk that executes commands on the live family that it keeps."""

    def __init__(self):
        self.live = None

    def say(self, command):
        """Execute a command (any value at all), and return its result as a text."""
        word, behind = _read_command(command)
        if word == "family":
            return self._begin(" ".join(behind))
        if self.live is None:
            raise InvalidCommand()
        if word in ("die", "learn", "undo"):
            return self._change(word, behind)
        return self._answer(word, behind)

    def _begin(self, text):
        """Begin to follow the family with this text, and return the number of its people."""
        family = Family.read(text.replace(" ; ", "\n"))
        self.live = Live(family)
        return str(len(family.people))

    def _change(self, word, behind):
        """Execute a command that changes the live family."""
        if word == "die":
            return _gifts_text(self.live.die(behind[0]))
        if word == "learn":
            self.live.learn(behind[0], behind[1])
            return "learn"
        return "undone" if self.live.undo() else "nothing"

    def _answer(self, word, behind):
        """Execute a command that only asks."""
        if word == "held":
            return self._held_text(behind[0])
        if word == "least":
            return _value_text(least(self.live.family, behind[0]))
        if word == "greatest":
            return _value_text(greatest(self.live.family, behind[0]))
        return " ".join(settled(self.live.family)) or "none"

    def _held_text(self, name):
        """Return what somebody who is alive, or the crown, holds now."""
        for holder, value in self.live.held:
            if holder == name:
                return _value_text(value)
        raise NoName(name)


def _read_command(command):
    """Return the first word of a command (any value at all), and the words behind it."""
    if not isinstance(command, str) or "\n" in command:
        raise InvalidCommand()
    word, *behind = command.split(" ")
    if "" in (word, *behind):
        raise InvalidCommand()
    if word == "family":
        has_form = len(behind) > 0
    else:
        has_form = len(behind) == BEHIND.get(word)
    if not has_form:
        raise InvalidCommand()
    return word, behind


def _gifts_text(gifts):
    """Return the text of what is passed on."""
    return ", ".join([f"{name} {_value_text(value)}" for name, value in gifts]) or "nothing"


def _value_text(value):
    """Return the text of a value in lowest terms."""
    above, below = value
    return str(above) if below == 1 else f"{above}/{below}"
