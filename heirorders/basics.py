"""What several modules need: the kinds of values, numbers in texts, fractions, and names in an order."""

from math import gcd

CROWN = "crown"

LONGEST_NAME = 5

ZERO = (0, 1)


def is_integer(value):
    """Tell whether any value at all is an integer."""
    # In Python True and False are integers, here they are not.
    return isinstance(value, int) and not isinstance(value, bool)


def is_number(value):
    """Tell whether any value at all is a number."""
    return is_integer(value) and value >= 0


def is_name(value):
    """Tell whether any value at all is a name."""
    if not isinstance(value, str) or len(value) > LONGEST_NAME or value == CROWN:
        return False
    # Letters of other alphabets may be lower-case, too.
    return value.isascii() and value.isalpha() and value.islower()


def is_sequence(value):
    """Tell whether any value at all may be passed as a sequence."""
    return isinstance(value, (list, tuple))


def is_pair(value):
    """Tell whether any value at all is a tuple of two."""
    return isinstance(value, tuple) and len(value) == 2


def read_number(word, digits):
    """Return the number that a word of at most so many digits writes, or None."""
    # Python also takes digits of other scripts for digits.
    if len(word) > digits or not word.isascii() or not word.isdigit():
        return None
    if word != "0" and word.startswith("0"):
        return None
    return int(word)


def lowest(above, below):
    """Return above / below as a value in lowest terms; below is greater than 0."""
    common = gcd(above, below)
    return above // common, below // common


def plus(left, right):
    """Return the sum of two values that are pairs."""
    return lowest(left[0] * right[1] + right[0] * left[1], left[1] * right[1])


def times(left, right):
    """Return the product of two values that are pairs."""
    return lowest(left[0] * right[0], left[1] * right[1])


def is_less(left, right):
    """Tell whether the first of two values that are pairs is the smaller one."""
    return left[0] * right[1] < right[0] * left[1]


def as_pair(value):
    """Return a value as a pair, not always in lowest terms."""
    if is_integer(value):
        return value, 1
    return value


def line_up(names, facts):
    """Return a list of these names that keeps the facts about who comes first, or None if there is a ring."""
    left = list(names)
    placed = []
    while left:
        waiting = [then for first, then in facts if first in left]
        free = [name for name in left if name not in waiting]
        if not free:
            return None
        placed = placed + free
        left = [name for name in left if name in waiting]
    return placed
