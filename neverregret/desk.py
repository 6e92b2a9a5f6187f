"""A desk on a disk, which may be cut anywhere."""

from neverregret.answers import answer, moving_answer
from neverregret.deskrecords import deed_record, deed_told, house_record, table_and_house
from neverregret.errors import Broken, Refused
from neverregret.houses import House, house_after, is_deed
from neverregret.journal import Journal


class Desk:
    """The desk on a disk: its table, its present house, and the deeds since it began or was packed."""

    def __init__(self, disk):
        self.disk = disk
        self.journal = Journal(disk)
        records = self.journal.records()
        told = table_and_house(records[0]) if records else None
        if told is None:
            raise Broken("desk")
        self.table, self.first = told
        self.house = self.first
        self.done = []
        for record in records[1:]:
            deed = deed_told(record)
            if deed is None or not is_deed(self.table, self.house, deed):
                raise Broken("desk")
            self.keep(deed)

    def keep(self, deed):
        """Change the house by a deed that lies on the disk."""
        self.house = house_after(self.table, self.house, deed)
        self.done.append(deed)

    def do(self, deed):
        """Do a deed, any value, and return it."""
        if not is_deed(self.table, self.house, deed):
            raise Refused("deed")
        self.journal.write(deed_record(deed))
        self.keep(deed)
        return deed

    def come(self, request):
        """Let a request come, and return the deed that answers it without moves."""
        return self.do(answer(self.table, self.house, request))

    def come_moving(self, request):
        """Let a request come, and return the deed that answers it, perhaps with moves."""
        return self.do(moving_answer(self.table, self.house, request))

    def deeds(self):
        """Return the tuple of all deeds since the desk began or was packed."""
        return tuple(self.done)

    def begun(self):
        """Return the house of the moment when the desk began or was packed."""
        return self.first

    def pack(self):
        """Keep the present house without deeds."""
        self.journal.renew((house_record(self.table, self.house),))
        self.first = self.house
        self.done = []


def start_desk(disk, table, stock, bounds):
    """Renew the journal on a disk with that of a desk without guests, and return this desk."""
    Journal(disk).renew((house_record(table, House(stock, bounds, ())),))
    return Desk(disk)
