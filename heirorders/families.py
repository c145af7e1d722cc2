"""Families: who owned what, who died with which will, and who is known to have died before whom."""

from heirorders.basics import is_name, is_number, is_pair, is_sequence, line_up, read_number
from heirorders.errors import InvalidFamily, InvalidText, NoName
from heirorders.wills import Will

AMOUNT_DIGITS = 10

# The first words of lines, in the order in which the lines stand.
LINE_WORDS = ("person", "will", "first")


class Family:
    """People with amounts, the wills of the dead, and facts about who died first."""

    def __init__(self, people, wills=(), facts=()):
        if not _are_people(people):
            raise InvalidFamily("people")
        if not _are_wills(wills, [name for name, _ in people]):
            raise InvalidFamily("wills")
        dead = [name for name, _ in wills]
        if not _are_facts(facts, dead):
            raise InvalidFamily("facts")
        if line_up(dead, facts) is None:
            raise InvalidFamily("ring")
        self.people = tuple(people)
        self.wills = tuple(wills)
        self.facts = tuple(facts)

    @classmethod
    def read(cls, text):
        """Return the family with this text."""
        entries = [[], [], []]
        last = 0
        for at, line in enumerate(text.split("\n")):
            kind, entry = _read_line(line)
            if entry is None or kind < last:
                raise InvalidText(at)
            last = kind
            entries[kind].append(entry)
        return cls(entries[0], entries[1], entries[2])

    @property
    def names(self):
        """The names of all people, in the order of the people."""
        return tuple([name for name, _ in self.people])

    @property
    def dead(self):
        """The lot of those who have a will."""
        return tuple(sorted([name for name, _ in self.wills]))

    @property
    def living(self):
        """The lot of those who have no will."""
        dead = self.dead
        return tuple(sorted([name for name, _ in self.people if name not in dead]))

    def own(self, name):
        """Return what this person owned at first."""
        return _found(self.people, name)

    def will_of(self, name):
        """Return the will of this dead person."""
        return _found(self.wills, name)

    def with_fact(self, first, then):
        """Return the family with one more fact at the end."""
        dead = self.dead
        for name in (first, then):
            if name not in dead:
                raise NoName(name)
        return Family(self.people, self.wills, self.facts + ((first, then),))

    def with_own(self, name, amount):
        """Return the family in which this person owned another amount."""
        if name not in self.names:
            raise NoName(name)
        people = [(each, amount if each == name else owned) for each, owned in self.people]
        return Family(people, self.wills, self.facts)

    def __add__(self, other):
        if not isinstance(other, Family):
            return NotImplemented
        return Family(self.people + other.people, self.wills + other.wills, self.facts + other.facts)

    def __eq__(self, other):
        # These three tell the same as the text.
        return (isinstance(other, Family) and self.people == other.people
                and self.wills == other.wills and self.facts == other.facts)

    def __str__(self):
        people = [f"person {name} {amount}" for name, amount in self.people]
        wills = [f"will {name} {will}" for name, will in self.wills]
        facts = [f"first {first} {then}" for first, then in self.facts]
        return "\n".join([*people, *wills, *facts])


def _are_people(value):
    """Tell whether any value at all may be the people of a family."""
    if not is_sequence(value) or len(value) == 0:
        return False
    if not all([is_pair(person) and is_name(person[0]) and is_number(person[1]) for person in value]):
        return False
    return _have_different_names(value)


def _are_wills(value, names):
    """Tell whether any value at all may be the wills among people with these names."""
    if not is_sequence(value):
        return False
    if not all([is_pair(entry) and _may_leave(entry[0], entry[1], names) for entry in value]):
        return False
    return _have_different_names(value)


def _may_leave(name, will, names):
    """Tell whether a person may have this will (any values at all) among people with these names."""
    if name not in names or not isinstance(will, Will):
        return False
    return all([heir in names and heir != name for heir in will.names])


def _have_different_names(pairs):
    """Tell whether each of the pairs begins with another name."""
    return len({name for name, _ in pairs}) == len(pairs)


def _are_facts(value, dead):
    """Tell whether any value at all may be the facts about these dead people."""
    return is_sequence(value) and all([is_pair(fact) and _is_fact(fact[0], fact[1], dead) for fact in value])


def _is_fact(first, then, dead):
    """Tell whether any values at all are two different dead people."""
    return first in dead and then in dead and first != then


def _found(pairs, name):
    """Return what stands beside this name (any value at all)."""
    for known, told in pairs:
        if known == name:
            return told
    raise NoName(name)


def _read_line(line):
    """Return the kind of a line, as an index of LINE_WORDS, and its pair, or None if it is no line."""
    word, _, behind = line.partition(" ")
    name, _, words = behind.partition(" ")
    told = _read_told(word, words)
    if told is None or not is_name(name):
        return 0, None
    return LINE_WORDS.index(word), (name, told)


def _read_told(word, words):
    """Return what a line with this first word tells in its last words, or None."""
    if word == "person":
        return read_number(words, AMOUNT_DIGITS)
    if word == "will":
        return _read_will(words)
    if word == "first" and is_name(words):
        return words
    return None


def _read_will(text):
    """Return the will with this text, or None."""
    try:
        return Will.read(text)
    except InvalidText:
        return None
