"""[73] Disks."""

import random
import unittest

from helpers import SINGLES, Unfriendly, error_of
from neverregret.disk import Disk, cut_cells, pending_places


class DiskTest(unittest.TestCase):
    def test_puts_and_flushes(self):
        disk = Disk(cells=(5, 6, 7, 255))
        self.assertEqual((), disk.events())
        self.assertEqual([5, 6, 7, 255], [disk.look(at) for at in range(4)])
        self.assertIsNone(disk.put(1, 9))
        self.assertIsNone(disk.flush())
        disk.put(at=1, octet=0)
        disk.put(3, 255)
        self.assertEqual(((1, 9), None, (1, 0), (3, 255)), disk.events())
        self.assertEqual([5, 0, 7, 255], [disk.look(at) for at in range(4)])
        self.assertEqual((5, 6, 7, 255), disk.cells)

    def test_sizes(self):
        self.assertEqual(0, Disk((0,)).look(0))
        self.assertEqual(3, Disk((1, 2) * 9999 + (1, 3)).look(19999))
        for cells in ((), (0,) * 20001):
            self.assertEqual(("Refused", "cells"), error_of(Disk, cells))

    def test_wrong_cells(self):
        for cells in SINGLES + ([0], "0", (Unfriendly(),)):
            self.assertEqual(("Refused", "cells"), error_of(Disk, cells))
        for item in SINGLES + (256, (), (0,)):
            self.assertEqual(("Refused", "cells"), error_of(Disk, (0, 255, item)))


class CutTest(unittest.TestCase):
    def test_example(self):
        self.assertEqual((77, 9, 0, 8), cut_cells((5, 6, 7, 8), ((1, 9), None, (2, 3), (0, 4)), (77, 0)))

    def test_pending(self):
        self.assertEqual((), pending_places(()))
        self.assertEqual((0, 2), pending_places(((1, 9), None, (2, 3), (0, 4), (2, 5))))
        self.assertEqual((), pending_places(((1, 9), None)))
        self.assertEqual((1,), pending_places(((1, 9),)))

    def test_nothing_pending(self):
        self.assertEqual((5, 6), cut_cells((5, 6), (), ()))
        self.assertEqual((5, 1), cut_cells((5, 6), ((1, 9), (1, 1), None, None), ()))

    def test_by_the_words(self):
        rng = random.Random(14)
        for _ in range(100):
            cells = tuple(rng.randrange(256) for _ in range(5))
            disk = Disk(cells)
            last = list(cells)
            pending = set()
            for _ in range(rng.randint(0, 9)):
                if rng.random() < 0.3:
                    disk.flush()
                    pending = set()
                else:
                    at, octet = rng.randrange(5), rng.randrange(256)
                    disk.put(at, octet)
                    last[at] = octet
                    pending.add(at)
            self.assertEqual(tuple(sorted(pending)), pending_places(disk.events()))
            octets = tuple(rng.randrange(256) for _ in pending)
            left = cut_cells(cells, disk.events(), octets)
            for at, octet in zip(sorted(pending), octets):
                self.assertEqual(octet, left[at])
                last[at] = octet
            self.assertEqual(tuple(last), left)


if __name__ == "__main__":
    unittest.main()
