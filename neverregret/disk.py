"""A disk of octets that can be cut at any moment."""

from neverregret.basics import is_number_below
from neverregret.errors import Refused

MOST_CELLS = 20000
OCTETS = 256


class Disk:
    """A disk that began with `cells`, and all that was put and flushed since."""

    def __init__(self, cells):
        if not are_cells(cells):
            raise Refused("cells")
        self.cells = cells
        self.present = list(cells)
        self.happened = []

    def look(self, at):
        """Return the octet at a place."""
        return self.present[at]

    def put(self, at, octet):
        """Put an octet at a place."""
        self.present[at] = octet
        self.happened.append((at, octet))

    def flush(self):
        """Make all that was put last."""
        self.happened.append(None)

    def events(self):
        """Return all puts and flushes in their sequence."""
        return tuple(self.happened)


def are_cells(value):
    """Return whether any value is a tuple of 1 to 20,000 octets."""
    if not isinstance(value, tuple) or not 1 <= len(value) <= MOST_CELLS:
        return False
    return all([is_number_below(item, OCTETS) for item in value])


def pending_places(events):
    """Return the lot of the places of puts behind the last flush."""
    pending = {}
    for event in events:
        if event is None:
            pending = {}
        else:
            pending[event[0]] = True
    return tuple(sorted(pending))


def cut_cells(cells, events, octets):
    """Return what a cut behind these events leaves, with these octets at the pending places."""
    left = list(cells)
    for event in events:
        if event is not None:
            left[event[0]] = event[1]
    for place, octet in zip(pending_places(events), octets):
        left[place] = octet
    return tuple(left)
