"""A greatest taking kept up while units and bounds change."""

from neverregret.basics import MOST_UNITS, changed_at
from neverregret.errors import Refused
from neverregret.flows import go_way, most_taken, way_to_unit
from neverregret.fullpapers import paper_of_taking, paper_rest
from neverregret.stocks import bounds_after, unit_put, unit_taken


class KeptTaking:
    """A greatest taking by a lot of types, with the present stock and the present bounds.

    Each change makes at most one type take a unit more than it had, by one way. A way has each kind once, so
    that no number of the taking changes by more than 1.
    """

    def __init__(self, table, stock, bounds, types):
        self.table = table
        self.stock = stock
        self.bounds = bounds
        self.types = types
        self.taken, self.left = most_taken(table, stock, bounds, types)

    def unit_comes(self, kind):
        """Put a unit of a kind."""
        self.stock = unit_put(self.stock, kind)
        self.left[kind] += 1
        self.take_one(self.types)

    def unit_goes(self, kind):
        """Take a unit of a kind away."""
        self.stock = unit_taken(self.stock, kind)
        if self.left[kind] > 0:
            self.left[kind] -= 1
        else:
            giver = [request for request in self.types if self.taken[request][kind] > 0][0]
            self.taken[giver][kind] -= 1
            # who found no way before finds none now: only the one who gave a unit can get another one
            self.take_one((giver,))

    def bound_rises(self, request):
        """Make the bound of a type one more."""
        bound = self.bounds[request]
        if bound is not None and bound >= MOST_UNITS:
            raise Refused("bounds")
        if bound is not None:
            self.bounds = changed_at(self.bounds, request, 1)
            if request in self.types:
                self.take_one((request,))

    def bound_falls(self, request):
        """Make the bound of a type one less."""
        self.bounds = bounds_after(self.bounds, request)
        bound = self.bounds[request]
        if bound is not None and sum(self.taken[request]) > bound:
            kind = [kind for kind, units in enumerate(self.taken[request]) if units > 0][0]
            self.taken[request][kind] -= 1
            self.left[kind] += 1
            self.take_one(self.types)

    def take_one(self, types):
        """Let the first of some types that can take a unit more take one."""
        for request in types:
            if sum(self.taken[request]) != self.bounds[request]:
                way = way_to_unit(self.table, self.taken, self.left, request)
                if way is not None:
                    go_way(self.taken, self.left, way, 1)
                    break

    def present_taking(self):
        """Return the taking."""
        return tuple([tuple(units) for units in self.taken])

    def present_gap(self):
        """Return the worst gap of the types."""
        return self.present_paper().gap

    def present_rest(self):
        """Return the greatest full lot within the types."""
        return paper_rest(self.table, self.present_paper())

    def present_paper(self):
        """Return a right paper with the types."""
        return paper_of_taking(self.table, self.stock, self.types, self.present_taking())
