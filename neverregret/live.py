"""A table that changes, kind by kind and type by type, and which kinds cross then."""

from neverregret.basics import MOST_KINDS, MOST_TYPES, is_name
from neverregret.court import court, crossing_pairs, shared_takers
from neverregret.errors import Refused
from neverregret.tables import accepted, kind_number, table_by_names, type_names, type_number


class LiveTable:
    """The present table. Kinds and types are told by their names."""

    def __init__(self, table):
        self.table = table

    def kind_comes(self, name):
        """Put a kind that no type accepts, and return which pairs of kinds cross now, and which no more."""
        if not is_name(name) or name in self.table.kinds:
            raise Refused("kind")
        if len(self.table.kinds) >= MOST_KINDS:
            raise Refused("kinds")
        return self.become(self.table.kinds + (name,), self.names_by_type())

    def kind_goes(self, name):
        """Take a kind away, from all types too, and return the pairs as above."""
        kind_number(self.table, name)
        if len(self.table.kinds) == 1:
            raise Refused("kinds")
        lots = self.names_by_type()
        fewer = {other: [kind for kind in lots[other] if kind != name] for other in lots}
        return self.become([kind for kind in self.table.kinds if kind != name], fewer)

    def type_comes(self, name, kinds):
        """Put a type that accepts the kinds of a tuple of names, and return the pairs as above."""
        if not is_name(name) or name in type_names(self.table):
            raise Refused("type")
        if not are_unlike_kinds(self.table, kinds):
            raise Refused("kind")
        if len(self.table.types) >= MOST_TYPES:
            raise Refused("types")
        return self.become_with(name, kinds)

    def type_goes(self, name):
        """Take a type away, and return the pairs as above."""
        type_number(self.table, name)
        lots = self.names_by_type()
        del lots[name]
        return self.become(self.table.kinds, lots)

    def accept(self, name, kind):
        """Let a type accept a kind that it did not accept, and return the pairs as above."""
        kinds = self.names_accepted(name)
        kind_number(self.table, kind)
        if kind in kinds:
            raise Refused("accepted")
        return self.become_with(name, kinds + (kind,))

    def strike(self, name, kind):
        """Let a type accept a kind no more, and return the pairs as above."""
        kinds = self.names_accepted(name)
        kind_number(self.table, kind)
        if kind not in kinds:
            raise Refused("accepted")
        return self.become_with(name, [other for other in kinds if other != kind])

    def names_accepted(self, name):
        """Return the names of the kinds that a type accepts, by any value as its name."""
        request = type_number(self.table, name)
        return tuple([self.table.kinds[kind] for kind in accepted(self.table, request)])

    def names_by_type(self):
        """Return a dict with the names of the kinds that each type accepts, by its name."""
        return {name: self.names_accepted(name) for name in type_names(self.table)}

    def become_with(self, name, kinds):
        """Become the table in which a type, an old or a new one, accepts these kinds, and return the pairs."""
        lots = self.names_by_type()
        lots[name] = kinds
        return self.become(self.table.kinds, lots)

    def become(self, kinds, lots):
        """Become the table of these names, and return which pairs of kinds cross now, and which no more."""
        before = self.crossing_names()
        self.table = table_by_names(kinds, lots)
        now = self.crossing_names()
        return (tuple([pair for pair in now if pair not in before]),
                tuple([pair for pair in before if pair not in now]))

    def crossing_names(self):
        """Return the ascending tuple of all pairs of names of kinds that cross."""
        kinds = self.table.kinds
        return tuple([(kinds[one], kinds[other]) for one, other in crossing_pairs(self.table)])

    def pair_counts(self, one, other):
        """Return how many types accept both of two kinds, the first alone, the second alone."""
        lots = shared_takers(self.table, kind_number(self.table, one), kind_number(self.table, other))
        return tuple([len(lot) for lot in lots])

    def verdict(self):
        """Return the verdict of the court on the present table."""
        return court(self.table)


def are_unlike_kinds(table, value):
    """Return whether any value is a tuple of unlike names of kinds of a table."""
    if not isinstance(value, tuple) or not all([isinstance(name, str) and name in table.kinds for name in value]):
        return False
    return len(set(value)) == len(value)
