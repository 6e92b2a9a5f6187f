"""Overflows along a forest kept up while requests and units come and go."""

from neverregret.basics import changed_at
from neverregret.errors import Refused
from neverregret.forests import place_of_kind, way_up
from neverregret.stocks import unit_put, unit_taken
from neverregret.upward import overflows, refused_count, room_for


class Upward:
    """A forest with the present stock and the present counts of requests."""

    def __init__(self, forest, stock, counts):
        self.forest = forest
        self.stock = stock
        self.counts = counts

    def come(self, request):
        """Count a request more of a type, and return the places that overflow more."""
        return self.change(self.stock, changed_at(self.counts, request, 1), self.forest.homes[request])

    def leave(self, request):
        """Count a request less of a type, and return the places that overflow less."""
        if self.counts[request] == 0:
            raise Refused("request")
        return self.change(self.stock, changed_at(self.counts, request, -1), self.forest.homes[request])

    def unit_comes(self, kind):
        """Put a unit of a kind, and return the places that overflow less."""
        return self.change(unit_put(self.stock, kind), self.counts, place_of_kind(self.forest, kind))

    def unit_goes(self, kind):
        """Take a unit of a kind away, and return the places that overflow more."""
        return self.change(unit_taken(self.stock, kind), self.counts, place_of_kind(self.forest, kind))

    def change(self, stock, counts, place):
        """Change the stock and the counts, and return the places from one upward whose overflows change."""
        before = self.overflowing()
        self.stock = stock
        self.counts = counts
        after = self.overflowing()
        return tuple([higher for higher in way_up(self.forest, place) if before[higher] != after[higher]])

    def overflowing(self):
        """Return for each place how many requests overflow from it now."""
        return overflows(self.forest, self.stock, self.counts)

    def refused(self):
        """Return how many requests are refused at the least now."""
        return refused_count(self.forest, self.stock, self.counts)

    def room(self, request):
        """Return how many units are left over now on the way up from the home of a type."""
        return room_for(self.forest, self.stock, self.counts, request)
