"""Another way to what the program tells: all orders of small families, one by one, with Python's fractions."""

from fractions import Fraction
from itertools import permutations, product

from heirorders.families import Family
from heirorders.wills import Will

DEAD = "abcdefghi"
LIVING = "xyz"


def pair(amount):
    """Return a fraction as a value."""
    return amount.numerator, amount.denominator


def all_orders(family):
    """Return all orders of the family."""
    return [order for order in permutations(family.dead)
            if all(order.index(first) < order.index(then) for first, then in family.facts)]


def follow(family, hours):
    """Return what is held after these hours, and what is passed on in each of them, as dicts of fractions."""
    held = {name: Fraction(amount) for name, amount in family.people}
    held["crown"] = Fraction(0)
    wills = dict(family.wills)
    told = []
    for group in hours:
        estates = [(name, held.pop(name)) for name in group]
        gifts = {}
        for name, estate in estates:
            shares = wills[name].shares
            for weight, groups in shares:
                takers = ["crown"]
                for names in reversed(groups):
                    takers = [each for each in names if each in held] or takers
                for each in takers:
                    part = estate * weight / sum(other for other, _ in shares) / len(takers)
                    gifts[each] = gifts.get(each, 0) + part
        for name, gift in gifts.items():
            held[name] += gift
        told.append(gifts)
    return held, told


def final(family, hours):
    """Return what is paid after these hours."""
    held, _ = follow(family, hours)
    return tuple((name, pair(held[name])) for name in list(family.living) + ["crown"])


def all_paid(family):
    """Return for all orders what is paid in them, as dicts of fractions."""
    return [{name: Fraction(*amount) for name, amount in final(family, order)} for order in all_orders(family)]


def matter(family):
    """Return the pairs that matter."""
    wills = dict(family.wills)
    return tuple((a, b) for a, b in product(family.dead, family.dead)
                 if a < b and (b in wills[a].names or a in wills[b].names))


def case_in(family, order):
    """Return the case of an order."""
    places = {name: at for at, name in enumerate(order)}
    return tuple(tuple(sorted(each, key=places.get)) for each in matter(family))


def have_ring(names, ways):
    """Tell whether somebody is reached from themselves along these directions."""
    reached = {(first, then) for first, then in ways}
    for middle, first, then in product(names, repeat=3):
        if (first, middle) in reached and (middle, then) in reached:
            reached.add((first, then))
    return any((name, name) in reached for name in names)


def open_cases(family):
    """Return the directions of the pairs that matter that make no ring with the facts, ascending."""
    choices = [(each, each[::-1]) for each in matter(family)]
    return tuple(sorted(ways for ways in product(*choices) if not have_ring(family.dead, family.facts + ways)))


def in_case(family, ways):
    """Return the dead in an order that keeps these directions and the facts."""
    reached = {(first, then) for first, then in family.facts + ways}
    for middle, first, then in product(family.dead, repeat=3):
        if (first, middle) in reached and (middle, then) in reached:
            reached.add((first, then))
    # Whoever died later has all who died before the earlier one before them, and that one, too.
    return sorted(family.dead, key=lambda name: len([first for first, then in reached if then == name]))


def paid_in_cases(family):
    """Return for each case what is paid in it, as dicts of fractions."""
    return {ways: {name: Fraction(*amount) for name, amount in final(family, in_case(family, ways))}
            for ways in open_cases(family)}


class Numbers:
    """Numbers that look as if they came by chance, but are always the same."""

    def __init__(self, seed):
        self.state = seed * 7919 + 1

    def below(self, most):
        self.state = (self.state * 1103515245 + 12345) % 2 ** 31
        return (self.state >> 12) % most

    def some(self, things, most):
        """Return a list of at most so many of the things, each once."""
        left, chosen = list(things), []
        for _ in range(min(most, len(left))):
            chosen.append(left.pop(self.below(len(left))))
        return chosen


def some_share(numbers, others):
    """Return a share whose groups are of these names; a name that is there more often is chosen more often."""
    many = numbers.below(4) if others else 0
    return 1 + numbers.below(9), [sorted(set(numbers.some(others, 1 + numbers.below(3)))) for _ in range(many)]


def some_family(seed, dead=4, living=3):
    """Return a family with so many dead and so many living people."""
    numbers = Numbers(seed)
    dead, living = DEAD[:dead], LIVING[:living]
    people = [(name, numbers.below(4) * numbers.below(100)) for name in numbers.some(dead + living, 12)]
    # Where the living own nothing, more depends on the order.
    people = [(name, 0 if name in living and seed % 2 else amount) for name, amount in people]
    wills = []
    for name in numbers.some(dead, 9):
        others = [other for other in dead * (1 + seed % 3) + living if other != name]
        wills.append((name, Will([some_share(numbers, others) for _ in range(1 + numbers.below(3))])))
    # Facts of one hidden order make no ring.
    hidden = numbers.some(dead, 9)
    facts = [tuple(sorted(numbers.some(dead, 2), key=hidden.index)) for _ in range(numbers.below(4))]
    return Family(people, wills, facts if len(dead) > 1 else [])


SMALL = [some_family(seed) for seed in range(30)] + [some_family(seed, 3, 2) for seed in range(30, 60)]
SMALL += [some_family(seed, dead, living) for seed, (dead, living) in enumerate(product((1, 2, 5), (0, 1, 3)), 60)]
