"""[74] Journals, cut anywhere."""

import random
import unittest

from helpers import error_of
from neverregret.disk import Disk, cut_cells, pending_places
from neverregret.journal import Journal


def cells_now(disk):
    """Return the present cells of a disk."""
    return tuple(disk.look(at) for at in range(len(disk.cells)))


def room_promised(cells):
    """Return the greatest weight of records for which room is promised."""
    return cells // 2 - 8


def weight(records):
    """Return what records weigh."""
    return sum(len(record) + 8 for record in records)


def octets_at_cut(rng, before, now, pending):
    """Return several octets that a cut can leave at pending places: old, new, and other ones."""
    olds = tuple(before[place] for place in pending)
    news = tuple(now[place] for place in pending)
    found = [olds, news, (0,) * len(pending), (255,) * len(pending), (1,) * len(pending)]
    for _ in range(4):
        found.append(tuple(rng.choice((old, new, rng.randrange(256))) for old, new in zip(olds, news)))
        found.append(tuple(rng.randrange(256) for _ in pending))
    if len(pending) == 1:
        found.extend((octet,) for octet in range(256))
    return found


def cuts_of_call(rng, cells, change):
    """Return all cells that cuts during a call can leave, and those at its ends, with the disk behind it."""
    disk = Disk(cells)
    change(Journal(disk))
    events = disk.events()
    found = []
    for end in range(len(events) + 1):
        part = events[:end]
        pending = pending_places(part)
        now = cut_cells(cells, part, tuple(dict(event for event in part if event)[place] for place in pending))
        for octets in octets_at_cut(rng, cells, now, pending):
            found.append((end, cut_cells(cells, part, octets)))
    return found, disk


class JournalTest(unittest.TestCase):
    def test_disks_of_zeros(self):
        for size in (1, 2, 3, 15, 16, 17, 600, 20000):
            disk = Disk((0,) * size)
            journal = Journal(disk=disk)
            self.assertEqual((), journal.records())
            self.assertIs(disk, journal.disk)
            self.assertEqual((), disk.events())

    def test_writes_and_renewals(self):
        disk = Disk((0,) * 200)
        journal = Journal(disk)
        self.assertIsNone(journal.write((1, 2, 255)))
        journal.write(())
        self.assertEqual(((1, 2, 255), ()), journal.records())
        self.assertIsNone(journal.renew(((0,), (7, 7))))
        self.assertEqual(((0,), (7, 7)), journal.records())
        journal.write(record=(9,) * 20)
        self.assertEqual(((0,), (7, 7), (9,) * 20), journal.records())
        self.assertEqual(((0,), (7, 7), (9,) * 20), Journal(disk).records())
        self.assertEqual(((0,), (7, 7), (9,) * 20), Journal(Disk(cells_now(disk))).records())
        journal.renew(records=())
        self.assertEqual((), journal.records())
        self.assertEqual((), Journal(Disk(cells_now(disk))).records())
        self.assertEqual((), pending_places(disk.events()))

    def test_reading_makes_no_events(self):
        disk = Disk((0,) * 100)
        Journal(disk).write((3, 4))
        events = disk.events()
        journal = Journal(disk)
        journal.records()
        Journal(disk).records()
        self.assertEqual(events, disk.events())

    def test_room_that_is_promised(self):
        for size in (16, 17, 18, 19, 32, 33, 100, 101, 1000, 20000):
            room = room_promised(size)
            many = room // 8
            for records in ((), ((255,) * (room - 8),) if room >= 8 else (), ((),) * many,
                            ((),) * (many - 1) + ((7,) * (room - 8 * many),) if many else ()):
                self.assertLessEqual(weight(records), room)
                disk = Disk((0,) * size)
                journal = Journal(disk)
                for record in records:
                    journal.write(record)
                self.assertEqual(records, journal.records())
                journal.renew(records)
                journal.renew(records)
                self.assertEqual(records, Journal(Disk(cells_now(disk))).records())

    def test_no_room(self):
        for size in (1, 2, 16, 50, 51):
            disk = Disk((0,) * size)
            journal = Journal(disk)
            self.assertEqual(("Refused", "room"), error_of(journal.write, (1,) * size))
            self.assertEqual(("Refused", "room"), error_of(journal.renew, ((1,),) * size))
            self.assertEqual((), disk.events())
            self.assertEqual((), journal.records())
        disk = Disk((0,) * 100)
        journal = Journal(disk)
        written = ()
        while error_of(journal.write, (5, 6)) is None:
            written += ((5, 6),)
        self.assertGreaterEqual(weight(written + ((5, 6),)), room_promised(100))
        events = disk.events()
        self.assertEqual(("Refused", "room"), error_of(journal.write, (5, 6)))
        self.assertEqual(("Refused", "room"), error_of(journal.renew, written * 9))
        self.assertEqual(events, disk.events())
        self.assertEqual(written, journal.records())
        journal.renew(((1,),))
        journal.write((2,))
        self.assertEqual(((1,), (2,)), Journal(disk).records())

    def test_disks_that_are_just_full(self):
        """Whatever has room is kept, up to the last cell and not over it."""
        for size in range(1, 60):
            for length in range(30):
                record = (9,) * length
                disk = Disk((0,) * size)
                journal = Journal(disk)
                if error_of(journal.write, record) is None:
                    self.assertEqual((record,), Journal(disk).records())
                    for news in ((record,), (), (record,)):
                        journal.renew(news)
                        self.assertEqual(news, journal.records())
                        self.assertEqual(news, Journal(Disk(cells_now(disk))).records())
                    journal.renew(())
                    journal.write(record)
                    self.assertEqual((record,), Journal(Disk(cells_now(disk))).records())
                    self.assertGreater(size, 2 * length)
                else:
                    self.assertGreater(weight((record,)), room_promised(size))
                    self.assertEqual(("Refused", "room"), error_of(journal.renew, (record,)))

    def test_every_full_disk_keeps_all(self):
        for size in range(8, 40):
            disk = Disk((0,) * size)
            journal = Journal(disk)
            kept = ()
            for turn in range(3):
                # the longest records that have room, one after another
                for length in range(size, -1, -1):
                    if error_of(journal.write, (turn,) * length) is None:
                        kept += ((turn,) * length,)
                self.assertEqual(kept, Journal(Disk(cells_now(disk))).records())
                journal.renew(kept)
                self.assertEqual(kept, Journal(Disk(cells_now(disk))).records())
                journal.renew(())
                kept = ()

    def test_long_records(self):
        disk = Disk((0,) * 20000)
        journal = Journal(disk)
        record = tuple(at % 256 for at in range(9000))
        journal.write(record)
        journal.write((1,))
        self.assertEqual((record, (1,)), Journal(disk).records())

    def test_cells_that_no_journal_has_left(self):
        rng = random.Random(15)
        for _ in range(300):
            disk = Disk(tuple(rng.randrange(256) for _ in range(rng.randint(1, 40))))
            self.assertIn(error_of(Journal, disk), (None, ("Broken", "journal")))
            self.assertEqual((), disk.events())
        self.assertEqual(("Broken", "journal"), error_of(Journal, Disk((0, 1, 255, 255, 0, 0, 0))))
        self.assertEqual(("Broken", "journal"), error_of(Journal, Disk((0, 1, 0, 0, 0))))


class CutTest(unittest.TestCase):
    def random_call(self, rng, journal, size):
        """Return a call, the records behind it, and what it is called with."""
        records = journal.records()
        record = tuple(rng.randrange(256) for _ in range(rng.randint(0, 6)))
        if rng.random() < 0.6 and weight(records + (record,)) <= room_promised(size):
            return (lambda changed: changed.write(record)), records + (record,)
        news = ()
        while rng.random() < 0.7:
            news += (tuple(rng.choice((0, 1, 255)) for _ in range(rng.randint(0, 4))),)
        if weight(news) > room_promised(size):
            news = ()
        return (lambda changed: changed.renew(news)), news

    def test_cuts_at_every_event(self):
        rng = random.Random(16)
        for size in (16, 40, 57, 90):
            cells = (0,) * size
            for _ in range(14):
                before = Journal(Disk(cells)).records()
                change, behind = self.random_call(rng, Journal(Disk(cells)), size)
                cuts, disk = cuts_of_call(rng, cells, change)
                last = len(disk.events())
                for end, left in cuts:
                    found = Journal(Disk(left)).records()
                    self.assertIn(found, (before, behind))
                    if end == 0:
                        self.assertEqual(before, found)
                    if end == last:
                        self.assertEqual(behind, found)
                self.go_on(rng, cuts, size)
                # what comes next happens on what some cut has left
                cells = rng.choice(cuts)[1]

    def go_on(self, rng, cuts, size):
        """Check that a journal on what a cut has left can be written, renewed and cut again."""
        for _, left in rng.sample(cuts, 12):
            disk = Disk(left)
            journal = Journal(disk)
            change, behind = self.random_call(rng, journal, size)
            change(journal)
            self.assertEqual(behind, journal.records())
            self.assertEqual(behind, Journal(Disk(cells_now(disk))).records())
        for _, left in rng.sample(cuts, 3):
            before = Journal(Disk(left)).records()
            change, behind = self.random_call(rng, Journal(Disk(left)), size)
            again, _ = cuts_of_call(rng, left, change)
            for _, cells in rng.sample(again, min(60, len(again))):
                self.assertIn(Journal(Disk(cells)).records(), (before, behind))

    def test_cuts_with_just_the_promised_room(self):
        rng = random.Random(17)
        size = 64
        records = ((1,) * 4, (255,) * 4)
        self.assertEqual(room_promised(size), weight(records))
        disk = Disk((0,) * size)
        Journal(disk).write(records[0])
        for change, before, behind in (((lambda journal: journal.write(records[1])), records[:1], records),
                                       ((lambda journal: journal.renew(records)), records[:1], records)):
            cuts, _ = cuts_of_call(rng, cells_now(disk), change)
            for _, left in cuts:
                found = Journal(Disk(left))
                self.assertIn(found.records(), (before, behind))
                found.renew(records[::-1])
                self.assertEqual(records[::-1], found.records())


if __name__ == "__main__":
    unittest.main()
