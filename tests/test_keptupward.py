"""[43] Overflows kept up."""

import random
import unittest

from helpers import error_of, random_tables
from neverregret.court import court, is_forest
from neverregret.forests import place_of_kind, way_up
from neverregret.keptupward import Upward
from neverregret.reader import read_table
from neverregret.tables import Table
from neverregret.upward import overflows, refused_count, room_for

FOREST = court(read_table("bike: lane road\ncart: road\nskate: lane park road"))


def state(kept):
    """Return all that is kept."""
    return kept.forest, kept.stock, kept.counts, kept.overflowing(), kept.refused()


class UpwardTest(unittest.TestCase):
    def test_example(self):
        kept = Upward(FOREST, (1, 0, 2), (1, 0, 1))
        self.assertEqual(((1, 0), (0, 2), 1, (1, 0, 2), (2, 1, 0)),
                         (kept.come(2), kept.come(0), kept.refused(), kept.unit_comes(1), kept.overflowing()))

    def test_attributes(self):
        kept = Upward(forest=FOREST, stock=(1, 0, 2), counts=(1, 0, 1))
        self.assertEqual((FOREST, (1, 0, 2), (1, 0, 1)), (kept.forest, kept.stock, kept.counts))
        kept.come(request=0)
        kept.unit_comes(kind=1)
        self.assertEqual((FOREST, (1, 1, 2), (2, 0, 1)), (kept.forest, kept.stock, kept.counts))
        kept.leave(request=2)
        kept.unit_goes(kind=0)
        self.assertEqual((FOREST, (0, 1, 2), (2, 0, 0)), (kept.forest, kept.stock, kept.counts))
        self.assertEqual(1, kept.room(request=2))

    def test_no_such_request(self):
        kept = Upward(FOREST, (1, 0, 2), (1, 0, 1))
        before = state(kept)
        self.assertEqual(("Refused", "request"), error_of(kept.leave, 1))
        self.assertEqual(before, state(kept))
        kept.come(1)
        kept.leave(1)
        self.assertEqual(("Refused", "request"), error_of(kept.leave, 1))
        self.assertEqual(before, state(kept))

    def test_stocks_of_0_and_400(self):
        kept = Upward(FOREST, (399, 0, 1), (1, 0, 1))
        self.assertEqual((), kept.unit_comes(0))
        before = state(kept)
        self.assertEqual(("Refused", "units"), error_of(kept.unit_comes, 0))
        self.assertEqual(("Refused", "unit"), error_of(kept.unit_goes, 1))
        self.assertEqual(before, state(kept))
        self.assertEqual((), kept.unit_goes(2))
        self.assertEqual(("Refused", "unit"), error_of(kept.unit_goes, 2))
        self.assertEqual((400, 0, 0), kept.stock)

    def test_without_places(self):
        kept = Upward(court(Table(("a", "b"), (("p", ()), ("q", (0,))))), (0, 0), (0, 0))
        self.assertEqual(((), 1, 0), (kept.come(0), kept.refused(), kept.room(0)))
        self.assertEqual(((), (), ()), (kept.leave(0), kept.unit_comes(1), kept.unit_goes(1)))
        self.assertEqual(((0,), 1), (kept.come(1), kept.refused()))
        none = Upward(court(Table(("a",), ())), (1,), ())
        self.assertEqual(((), (), 0), (none.unit_goes(0), none.overflowing(), none.refused()))

    def test_walks(self):
        rng = random.Random(430)
        for table in [table for table in random_tables(260, 431, 4, 4) if is_forest(table)][:90]:
            forest = court(table)
            stock = tuple(rng.randint(0, 2) for _ in table.kinds)
            counts = tuple(rng.randint(0, 2) for _ in table.types)
            kept = Upward(forest, stock, counts)
            for _ in range(30):
                before = kept.overflowing()
                word = rng.choice(("come", "leave", "unit_comes", "unit_goes"))
                is_request = word in ("come", "leave")
                number = rng.randrange(len(table.types) or 1) if is_request else rng.randrange(len(table.kinds))
                if is_request and not table.types:
                    continue
                values = list(counts if is_request else stock)
                values[number] += 1 if word in ("come", "unit_comes") else -1
                if values[number] < 0:
                    self.assertEqual(("Refused", "request" if is_request else "unit"),
                                     error_of(getattr(kept, word), number))
                    changed = ()
                else:
                    changed = getattr(kept, word)(number)
                    if is_request:
                        counts = tuple(values)
                    else:
                        stock = tuple(values)
                self.assertEqual((stock, counts), (kept.stock, kept.counts))
                self.assertEqual(overflows(forest, stock, counts), kept.overflowing())
                self.assertEqual(refused_count(forest, stock, counts), kept.refused())
                for request in range(len(table.types)):
                    self.assertEqual(room_for(forest, stock, counts, request), kept.room(request))
                way = way_up(forest, forest.homes[number] if is_request else place_of_kind(forest, number))
                self.assertEqual(way[:len(changed)], changed)
                by = 1 if word in ("come", "unit_goes") else -1
                for place, after in enumerate(kept.overflowing()):
                    self.assertEqual(before[place] + (by if place in changed else 0), after)


if __name__ == "__main__":
    unittest.main()
