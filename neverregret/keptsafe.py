"""Which kinds are safe against which, kept up while requests come, units come back and bounds fall."""

from neverregret.basics import MOST_UNITS, is_number_below
from neverregret.choices import kinds_at_hand
from neverregret.errors import InvalidNumber, Refused
from neverregret.safe import safe_pairs, unit_kinds, worse_kinds
from neverregret.stocks import bounds_after, unit_put, unit_taken


class KeptSafe:
    """The present stock, the present bounds, and the pairs of kinds of which the first is safe against the second."""

    def __init__(self, table, stock, bounds):
        self.table = table
        self.stock = stock
        self.bounds = bounds
        self.pairs = safe_pairs(table, stock, bounds)

    def present_worse(self, kind):
        """Return the lot of the kinds with units that are not safe against a kind now."""
        return worse_kinds(self.table, self.stock, self.bounds, kind)

    def present_pairs(self):
        """Return the lot of all pairs of kinds with units of which the first is safe against the second now."""
        return self.pairs

    def request_refused(self, request):
        """Let a request come that is refused, and return the pairs gained and lost."""
        return self.change(self.stock, bounds_after(self.bounds, request))

    def request_served(self, request, kind):
        """Let a request come that gets a unit of a kind, any value, and return the pairs gained and lost."""
        bounds = bounds_after(self.bounds, request)
        kinds = kinds_at_hand(self.table, self.stock, request)
        if not is_number_below(kind, len(self.stock)) or kind not in kinds:
            raise Refused("kind")
        return self.change(unit_taken(self.stock, kind), bounds)

    def unit_back(self, kind):
        """Let a unit of a kind come back, and return the pairs gained and lost."""
        return self.change(unit_put(self.stock, kind), self.bounds)

    def ruled_out(self, request, bound):
        """Make a number, any value, the bound of a type, and return the pairs gained and lost."""
        if not is_number_below(bound, MOST_UNITS + 1):
            raise InvalidNumber("bound")
        present = self.bounds[request]
        if present is not None and bound > present:
            raise Refused("bound")
        return self.change(self.stock, self.bounds[:request] + (bound,) + self.bounds[request + 1:])

    def change(self, stock, bounds):
        """Change the stock and the bounds, and return the pairs gained and lost of kinds there before and now."""
        there = [kind for kind in unit_kinds(self.stock) if stock[kind] > 0]
        before = self.pairs
        self.stock = stock
        self.bounds = bounds
        self.pairs = safe_pairs(self.table, stock, bounds)
        return pairs_beyond(self.pairs, before, there), pairs_beyond(before, self.pairs, there)


def pairs_beyond(pairs, others, kinds):
    """Return those of the pairs, of some kinds alone, that are none of others."""
    return tuple([pair for pair in pairs if pair not in others and pair[0] in kinds and pair[1] in kinds])
