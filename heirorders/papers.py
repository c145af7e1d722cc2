"""Papers, which show that a name gets at most some amount in all orders."""

from heirorders.basics import as_pair, is_integer, is_less, is_pair, lowest
from heirorders.cases import is_about
from heirorders.deciding import paid_to


def paper(family, name, most):
    """Return a right paper, or None if this name can get more."""
    found, parts, amounts = paid_to(family, name)
    if is_less(as_pair(most), (max(amounts), parts)):
        return None
    return tuple([(case, lowest(amount, parts)) for (case, _, _), amount in zip(found, amounts)])


def paper_holds(family, name, most, value):
    """Tell whether any value at all is a right paper."""
    right = paper(family, name, most)
    if right is None or not isinstance(value, tuple) or len(value) != len(right):
        return False
    case, _ = right[0]
    if not all([_has_form(entry, case) for entry in value]):
        return False
    # As many entries as there are cases have all of them only if none is there twice.
    return {case: amount for case, amount in value} == {case: amount for case, amount in right}


def _has_form(entry, case):
    """Tell whether any value at all is a pair of directions of the pairs of this case and a pair of integers."""
    if not is_pair(entry) or not is_about(case, entry[0]):
        return False
    # In Python True equals 1, so that it is not enough if amounts are equal.
    return is_pair(entry[1]) and all([is_integer(part) for part in entry[1]])
