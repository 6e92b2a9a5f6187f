"""[62] Which kinds are safe, kept up."""

import random
import unittest

from helpers import Unfriendly, cases_within, crossing_cases, error_of, large_case, odd_values
from neverregret.keptsafe import KeptSafe
from neverregret.safe import safe_pairs, unit_kinds, worse_kinds
from neverregret.tables import Table, accepted

TABLE = Table(("a", "j", "k"), (("t", (1, 2)), ("u", (0, 2))))


def state(kept):
    """Return all that can be asked of a kept object."""
    worse = tuple(worse_or_none(kept, kind) for kind in range(len(kept.stock)))
    return kept.stock, kept.bounds, kept.present_pairs(), worse


def worse_or_none(kept, kind):
    """Return the kinds that are not safe against a kind now, None for one without units."""
    return kept.present_worse(kind) if kept.stock[kind] else None


class KeptSafeTest(unittest.TestCase):
    def check_present(self, kept, stock, bounds):
        self.assertEqual((stock, bounds), (kept.stock, kept.bounds))
        self.assertEqual(safe_pairs(kept.table, stock, bounds), kept.present_pairs())
        for kind in range(len(stock)):
            if stock[kind]:
                self.assertEqual(worse_kinds(kept.table, stock, bounds, kind), kept.present_worse(kind))
            else:
                self.assertEqual(("Refused", "unit"), error_of(kept.present_worse, kind))

    def test_examples(self):
        kept = KeptSafe(TABLE, (1, 2, 1), (None, 1))
        self.assertEqual(((0, 0), (0, 1), (0, 2), (1, 1), (1, 2), (2, 1), (2, 2)), kept.present_pairs())
        self.assertEqual(((), ((0, 1),)), kept.request_served(0, 2))
        self.assertEqual((0,), kept.present_worse(1))
        self.check_present(kept, (1, 2, 0), (None, 1))

    def test_attributes(self):
        kept = KeptSafe(table=TABLE, stock=(1, 2, 1), bounds=(None, 1))
        self.assertEqual((TABLE, (1, 2, 1), (None, 1)), (kept.table, kept.stock, kept.bounds))
        kept.request_refused(request=1)
        kept.request_served(request=0, kind=1)
        kept.unit_back(kind=0)
        kept.ruled_out(request=0, bound=3)
        self.check_present(kept, (2, 1, 1), (3, 0))

    def change(self, rng, kept):
        """Make some change, perhaps one that is refused; return what it returned, or None, and its name."""
        table, stock, bounds = kept.table, kept.stock, kept.bounds
        request = rng.randrange(len(table.types))
        kind = rng.randrange(len(table.kinds))
        word = rng.choice(("refused", "served", "served", "back", "out"))
        bound_error = ("Refused", "bound") if bounds[request] == 0 else None
        limits = bounds
        if word in ("refused", "served") and bounds[request]:
            limits = bounds[:request] + (bounds[request] - 1,) + bounds[request + 1:]
        if word == "refused":
            call, values, error = kept.request_refused, (request,), bound_error
        elif word == "served":
            there = kind in accepted(table, request) and stock[kind] > 0
            call, values, error = kept.request_served, (request, kind), bound_error
            error = error or (None if there else ("Refused", "kind"))
            stock = stock[:kind] + (stock[kind] - 1,) + stock[kind + 1:]
        elif word == "back":
            call, values, error = kept.unit_back, (kind,), ("Refused", "units") if stock[kind] >= 400 else None
            stock = stock[:kind] + (stock[kind] + 1,) + stock[kind + 1:]
        else:
            bound = rng.choice((0, 1, 2, 5, 400))
            greater = bounds[request] is not None and bound > bounds[request]
            call, values, error = kept.ruled_out, (request, bound), ("Refused", "bound") if greater else None
            limits = bounds[:request] + (bound,) + bounds[request + 1:]
        if error is not None:
            before = state(kept)
            self.assertEqual(error, error_of(call, *values))
            self.assertEqual(before, state(kept))
            return None, word
        found = call(*values)
        self.check_present(kept, stock, limits)
        return found, word

    def test_many_changes(self):
        rng = random.Random(620)
        gained = lost = refused = 0
        cases = cases_within(60, 621, units=(0, 1, 2, 3), limits=(None, 0, 1, 3), most_units=7)
        cases += crossing_cases(40, 622)
        cases += [(TABLE, tuple(rng.randint(0, 3) for _ in range(3)), (rng.choice((None, 3)), rng.choice((1, 2, 3))))
                  for _ in range(200)]
        for table, stock, bounds in cases + [large_case(rng) for _ in range(8)]:
            if not table.types:
                continue
            kept = KeptSafe(table, stock, bounds)
            self.check_present(kept, stock, bounds)
            for _ in range(12):
                before, stock = kept.present_pairs(), kept.stock
                found, word = self.change(rng, kept)
                if found is None:
                    refused += 1
                    continue
                there = [kind for kind in unit_kinds(stock) if kept.stock[kind]]
                self.assertEqual(tuple(pair for pair in kept.present_pairs()
                                       if pair not in before and set(pair) <= set(there)), found[0])
                self.assertEqual(tuple(pair for pair in before
                                       if pair not in kept.present_pairs() and set(pair) <= set(there)), found[1])
                gained += len(found[0]) > 0
                lost += len(found[1]) > 0
                # only a request that is served ever loses any
                self.assertTrue(word == "served" or found[1] == ())
        self.assertGreater(min(gained, lost, refused), 10)

    def test_kinds_that_come_and_go(self):
        kept = KeptSafe(TABLE, (1, 1, 0), (None, None))
        self.assertEqual(("Refused", "unit"), error_of(kept.present_worse, 2))
        # the pairs of a kind that had no unit before are no gain, those of one that has none now no loss
        self.assertEqual(((), ()), kept.unit_back(2))
        self.assertEqual(((0, 0), (0, 2), (1, 1), (1, 2), (2, 2)), kept.present_pairs())
        self.assertEqual(((), ()), kept.request_served(0, 2))
        self.assertEqual(((0, 0), (1, 1)), kept.present_pairs())
        self.assertEqual(((), ()), kept.request_served(0, 1))
        self.assertEqual(((0, 0),), kept.present_pairs())
        self.assertEqual(("Refused", "unit"), error_of(kept.present_worse, 1))

    def test_bounds_that_fall_to_0(self):
        kept = KeptSafe(TABLE, (1, 1, 1), (1, 2))
        self.assertEqual((), kept.present_worse(0))
        self.assertEqual((0, 2), kept.present_worse(1))
        self.assertEqual((((0, 1), (2, 1)), ()), kept.request_refused(1))
        self.assertEqual(((), ()), kept.request_refused(1))
        self.assertEqual((1, 0), kept.bounds)
        self.assertEqual(("Refused", "bound"), error_of(kept.request_refused, 1))
        self.assertEqual(("Refused", "bound"), error_of(kept.request_served, 1, 0))
        self.assertEqual(((), ()), kept.ruled_out(0, 0))
        self.assertEqual(("Refused", "bound"), error_of(kept.request_refused, 0))
        self.check_present(kept, (1, 1, 1), (0, 0))

    def test_bounds_that_are_none_stay(self):
        kept = KeptSafe(TABLE, (2, 2, 2), (None, None))
        kept.request_refused(0)
        kept.request_served(1, 0)
        self.assertEqual((None, None), kept.bounds)
        kept.ruled_out(0, 400)
        self.assertEqual((400, None), kept.bounds)
        kept.ruled_out(0, 400)
        kept.ruled_out(0, 399)
        self.assertEqual(("Refused", "bound"), error_of(kept.ruled_out, 0, 400))
        self.assertEqual((399, None), kept.bounds)

    def test_400_units(self):
        kept = KeptSafe(TABLE, (400, 400, 399), (None, 400))
        self.assertEqual(("Refused", "units"), error_of(kept.unit_back, 0))
        kept.unit_back(2)
        self.assertEqual(("Refused", "units"), error_of(kept.unit_back, 2))
        self.check_present(kept, (400, 400, 400), (None, 400))
        kept.request_served(1, 0)
        self.check_present(kept, (399, 400, 400), (None, 399))
        kept.unit_back(0)
        self.check_present(kept, (400, 400, 400), (None, 399))

    def test_other_values(self):
        kept = KeptSafe(TABLE, (1, 0, 1), (None, 1))
        before = state(kept)
        for value in odd_values() + (0, 1, 3, 4, 2.0, True):
            self.assertEqual(("Refused", "kind"), error_of(kept.request_served, 0, value))
        for value in (1, False, Unfriendly(), 0.0):
            self.assertEqual(("Refused", "kind"), error_of(kept.request_served, 1, value))
        for value in odd_values() + (401, 1000, 1.0, (0,), "0"):
            for request in (0, 1):
                self.assertEqual(("InvalidNumber", "bound"), error_of(kept.ruled_out, request, value))
        for value in (2, 3, 400):
            self.assertEqual(("Refused", "bound"), error_of(kept.ruled_out, 1, value))
        self.assertEqual(before, state(kept))
        # the bound is looked at first
        kept.ruled_out(1, 0)
        before = state(kept)
        for value in odd_values() + (1, 0):
            self.assertEqual(("Refused", "bound"), error_of(kept.request_served, 1, value))
        self.assertEqual(before, state(kept))

    def test_edges(self):
        kept = KeptSafe(Table(("a", "b"), ()), (0, 1), ())
        self.assertEqual(((1, 1),), kept.present_pairs())
        self.assertEqual(((), ()), kept.unit_back(0))
        self.check_present(kept, (1, 1), ())
        empty = KeptSafe(Table(("a",), (("p", ()),)), (1,), (1,))
        self.assertEqual(("Refused", "kind"), error_of(empty.request_served, 0, 0))
        self.assertEqual(((), ()), empty.request_refused(0))
        self.check_present(empty, (1,), (0,))


if __name__ == "__main__":
    unittest.main()
