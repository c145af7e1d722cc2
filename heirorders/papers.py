"""Papers, which show that a name gets at most some amount in all orders."""

from heirorders.basics import as_pair, is_integer, is_less, is_pair
from heirorders.deciding import amounts_in_cases


def paper(family, name, most):
    """Return a right paper, or None if this name can get more."""
    entries = amounts_in_cases(family, name)
    if any([is_less(as_pair(most), amount) for _, amount in entries]):
        return None
    return entries


def paper_holds(family, name, most, value):
    """Tell whether any value at all is a right paper."""
    right = paper(family, name, most)
    if right is None or not isinstance(value, tuple) or len(value) != len(right):
        return False
    # As many entries as there are cases hold each of these only if none is there twice.
    return all([_has_integers(entry) for entry in value]) and all([entry in value for entry in right])


def _has_integers(entry):
    """Tell whether any value at all is a pair with a pair of integers in its second place."""
    # In Python True equals 1, so that being equal is not enough.
    return is_pair(entry) and is_pair(entry[1]) and all([is_integer(part) for part in entry[1]])
