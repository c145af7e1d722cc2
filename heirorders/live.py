"""Live families, which follow the deaths one by one."""

from heirorders.basics import CROWN
from heirorders.errors import NoName, Refused
from heirorders.orders import first_held, held_after, is_early, passed_on


class Live:
    """A family with the deaths so far, what is held now, and the changes that can be taken back."""

    def __init__(self, family):
        self.family = family
        self._order = ()
        self._held = first_held(family)
        self._past = ()

    @property
    def order(self):
        """The deaths so far."""
        return self._order

    @property
    def alive(self):
        """The lot of all people who did not die yet."""
        return tuple(sorted([name for name, _ in self.family.people if name not in self._order]))

    @property
    def held(self):
        """The ascending pairs (name, value) for all who are alive, then for the crown."""
        return tuple([(name, self._held[name]) for name in (*self.alive, CROWN)])

    def die(self, name):
        """Let this person die next, and return what is passed on."""
        gifts, order, held = _after_death(self.family, self._order, self._held, name)
        self._change(self.family, order, held)
        return gifts

    def several(self, names):
        """Let all of these die, one after the other, or none of them; return what each passes on."""
        order, held, told = self._order, self._held, []
        for at, name in enumerate(names):
            try:
                gifts, order, held = _after_death(self.family, order, held, name)
            except (NoName, Refused) as error:
                raise Refused(at) from error
            told.append(gifts)
        self._change(self.family, order, held)
        return tuple(told)

    def learn(self, first, then):
        """Add a fact."""
        family = self.family.with_fact(first, then)
        if then in self._order and first not in self._order[:self._order.index(then)]:
            raise Refused(len(self._order))
        self._change(family, self._order, self._held)

    def undo(self):
        """Take back the last change, and return whether there was one."""
        if not self._past:
            return False
        self.family, self._order, self._held = self._past[-1]
        self._past = self._past[:-1]
        return True

    def within(self, work):
        """Return what work(live) returns, and be afterwards as before."""
        family, order, held, past = self.family, self._order, self._held, self._past
        try:
            return work(self)
        finally:
            self.family, self._order, self._held, self._past = family, order, held, past

    def __len__(self):
        return len(self._past)

    def _change(self, family, order, held):
        """Go on to another state; the present one can be taken back."""
        # States are never changed, so that those of the past may share what they hold.
        self._past = (*self._past, (self.family, self._order, self._held))
        self.family, self._order, self._held = family, order, held


def _after_death(family, order, held, name):
    """Return what is passed on when this one (any value at all) dies next, and then the order and what is held."""
    if name not in family.dead or name in order:
        raise NoName(name)
    if is_early(family.facts, name, order):
        raise Refused(len(order))
    gifts = passed_on(family, held, [name])
    return gifts, (*order, name), held_after(held, [name], gifts)
