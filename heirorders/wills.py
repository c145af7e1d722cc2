"""Wills: who gets which part of what somebody leaves."""

from heirorders.basics import CROWN, ZERO, is_integer, is_name, is_pair, is_sequence, lowest, plus, read_number
from heirorders.errors import InvalidText, InvalidWill

WEIGHT_DIGITS = 6


class Will:
    """The shares of an estate, each with the groups that may get it, one after the other."""

    def __init__(self, shares):
        if not _are_shares(shares):
            raise InvalidWill("shares")
        self.shares = tuple([(weight, _lots(groups)) for weight, groups in shares])

    @classmethod
    def read(cls, text):
        """Return the will with this text."""
        shares = []
        for at, part in enumerate(text.split(" | ")):
            share = _read_share(part)
            if not _is_share(share):
                raise InvalidText(at)
            shares.append(share)
        return cls(shares)

    @property
    def names(self):
        """The lot of all names in the will."""
        return tuple(sorted({name for _, groups in self.shares for group in groups for name in group}))

    def heirs(self, alive):
        """Return which fraction each heir gets if just these people are alive."""
        total = sum([weight for weight, _ in self.shares])
        parts = {}
        for weight, groups in self.shares:
            takers = _takers(groups, alive)
            part = lowest(weight, total * len(takers))
            for name in takers:
                parts[name] = plus(parts[name], part) if name in parts else part
        return tuple(sorted(parts.items()))

    def __len__(self):
        return len(self.shares)

    def __eq__(self, other):
        # The shares tell the same as the text: their groups are sorted.
        return isinstance(other, Will) and self.shares == other.shares

    def __str__(self):
        return " | ".join([_share_text(weight, groups) for weight, groups in self.shares])


def _are_shares(value):
    """Tell whether any value at all makes a will."""
    return is_sequence(value) and len(value) > 0 and all([_is_share(share) for share in value])


def _is_share(value):
    """Tell whether any value at all makes a share."""
    if not is_pair(value):
        return False
    weight, groups = value
    if not is_integer(weight) or weight < 1 or not is_sequence(groups):
        return False
    return all([_is_group(group) for group in groups])


def _is_group(value):
    """Tell whether any value at all makes a group."""
    if not is_sequence(value) or len(value) == 0:
        return False
    # Only of names it is sure that a set can hold them.
    return all([is_name(name) for name in value]) and len(set(value)) == len(value)


def _lots(groups):
    """Return the groups as lots."""
    return tuple([tuple(sorted(group)) for group in groups])


def first_reached(groups, alive):
    """Return the index of the first group in which somebody is alive, or None."""
    for at, group in enumerate(groups):
        for name in group:
            if name in alive:
                return at
    return None


def _takers(groups, alive):
    """Return who gets a share with these groups."""
    for group in groups:
        takers = [name for name in group if name in alive]
        if takers:
            return takers
    return [CROWN]


def _share_text(weight, groups):
    """Return the text of a share."""
    if not groups:
        return str(weight)
    told = " > ".join(["+".join(group) for group in groups])
    return f"{weight} {told}"


def _read_share(part):
    """Return the weight and the groups that a part of a text tells; they need not make a share."""
    word, space, told = part.partition(" ")
    weight = read_number(word, WEIGHT_DIGITS)
    if not space:
        return weight, []
    return weight, [group.split("+") for group in told.split(" > ")]
