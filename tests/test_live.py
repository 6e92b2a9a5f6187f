"""[82] A live table and [83] what changes."""

import itertools
import random
import unittest

from helpers import SINGLES, Unfriendly, error_of, odd_values
from neverregret.court import court, do_cross
from neverregret.live import LiveTable
from neverregret.reader import read_table
from neverregret.tables import Table

TABLE = read_table("both: a b\nleft: a\nright: b")
NO_NAMES = ("", "A", "a b", "abcdefghi", "a1")


def told(table):
    """Return the names of all kinds, and a dict with those that each type accepts."""
    return set(table.kinds), {name: {table.kinds[kind] for kind in lot} for name, lot in table.types}


def crossing_by_words(kinds, lots):
    """Return all pairs of names of kinds that cross, and a dict with the three numbers of each pair."""
    pairs, counts = [], {}
    for one, other in itertools.combinations(sorted(kinds), 2):
        counts[one, other] = (sum({one, other} <= lot for lot in lots.values()),
                              sum(one in lot and other not in lot for lot in lots.values()),
                              sum(other in lot and one not in lot for lot in lots.values()))
        if all(counts[one, other]):
            pairs.append((one, other))
    return tuple(pairs), counts


class LiveTest(unittest.TestCase):
    def test_example(self):
        live = LiveTable(TABLE)
        self.assertEqual(((), (("a", "b"),)), live.strike("left", "a"))
        self.assertEqual(((("a", "b"),), ()), live.type_comes("low", ("a",)))
        self.assertEqual((1, 1, 1), live.pair_counts("b", "a"))

    def test_attributes(self):
        live = LiveTable(table=TABLE)
        self.assertIs(TABLE, live.table)
        self.assertEqual(((), ()), live.kind_comes(name="ab"))
        self.assertEqual(("a", "ab", "b"), live.table.kinds)
        self.assertEqual(Table(("a", "ab", "b"), (("both", (0, 2)), ("left", (0,)), ("right", (2,)))), live.table)
        live.type_comes(name="aa", kinds=("b", "ab"))
        self.assertEqual(("aa", (1, 2)), live.table.types[0])
        live.accept(name="left", kind="ab")
        live.strike(name="both", kind="b")
        live.kind_goes(name="a")
        live.type_goes(name="right")
        self.assertEqual(Table(("ab", "b"), (("aa", (0, 1)), ("both", ()), ("left", (0,)))), live.table)
        self.assertEqual((1, 1, 0), live.pair_counts(one="ab", other="b"))
        self.assertEqual(((), court(live.table)), (live.crossing_names(), live.verdict()))
        self.assertEqual(read_table("both: a b\nleft: a\nright: b"), TABLE)

    def test_verdict_and_names(self):
        live = LiveTable(TABLE)
        self.assertEqual(((("a", "b"),), court(TABLE)), (live.crossing_names(), live.verdict()))
        self.assertEqual(((), (("a", "b"),)), live.kind_goes("b"))
        self.assertEqual(((), court(read_table("both: a\nleft: a\nright:"))), (live.crossing_names(), live.verdict()))

    def test_a_ninth_kind_and_the_last_one(self):
        live = LiveTable(Table(tuple("abcdefg"), ()))
        live.kind_comes("h")
        self.assertEqual(tuple("abcdefgh"), live.table.kinds)
        self.assertEqual(("Refused", "kinds"), error_of(live.kind_comes, "i"))
        self.assertEqual(("Refused", "kind"), error_of(live.kind_comes, "h"))
        self.assertEqual(("Refused", "kind"), error_of(live.kind_comes, "I"))
        for name in "abcdefg":
            live.kind_goes(name)
        self.assertEqual(("Refused", "kinds"), error_of(live.kind_goes, "h"))
        self.assertEqual(("Refused", "kind"), error_of(live.kind_goes, "a"))
        self.assertEqual(Table(("h",), ()), live.table)

    def test_a_thirteenth_type(self):
        names = "klmnopqrstuv"
        live = LiveTable(Table(("a",), tuple((name, ()) for name in names[:11])))
        live.type_comes("v", ())
        self.assertEqual(tuple(names), tuple(name for name, _ in live.table.types))
        self.assertEqual(("Refused", "types"), error_of(live.type_comes, "w", ("a",)))
        self.assertEqual(("Refused", "kind"), error_of(live.type_comes, "w", ("b",)))
        self.assertEqual(("Refused", "type"), error_of(live.type_comes, "v", ("b",)))
        for name in names:
            self.assertEqual(((), ()), live.type_goes(name))
        self.assertEqual(("Refused", "type"), error_of(live.type_goes, "k"))
        self.assertEqual(Table(("a",), ()), live.table)

    def test_wrong_names(self):
        live = LiveTable(TABLE)
        odd = [value for value in odd_values() if not (isinstance(value, str) and value in ("a", "abc"))]
        for value in tuple(odd) + NO_NAMES:
            self.assertEqual(("Refused", "kind"), error_of(live.kind_comes, value))
            self.assertEqual(("Refused", "kind"), error_of(live.kind_goes, value))
            self.assertEqual(("Refused", "type"), error_of(live.type_goes, value))
            for other in ("a", None, Unfriendly()):
                self.assertEqual(("Refused", "type"), error_of(live.type_comes, value, other))
                self.assertEqual(("Refused", "type"), error_of(live.accept, value, other))
                self.assertEqual(("Refused", "type"), error_of(live.strike, value, other))
            self.assertEqual(("Refused", "kind"), error_of(live.accept, "left", value))
            self.assertEqual(("Refused", "kind"), error_of(live.strike, "left", value))
            if not isinstance(value, tuple) or not all(isinstance(item, str) and item == "a" for item in value):
                self.assertEqual(("Refused", "kind"), error_of(live.type_comes, "new", value))
        for kinds in (["a"], ("a", "a"), ("a", "c"), ("b", "a", "b"), "a", "ab", ("both",), (("a",),), ("a", None)):
            self.assertEqual(("Refused", "kind"), error_of(live.type_comes, "new", kinds))
        for item in SINGLES:
            if not (isinstance(item, str) and item == "a"):
                self.assertEqual(("Refused", "kind"), error_of(live.type_comes, "new", ("b", item)))
        self.assertEqual(("Refused", "kind"), error_of(live.kind_comes, "a"))
        self.assertEqual(("Refused", "kind"), error_of(live.kind_goes, "c"))
        self.assertEqual(("Refused", "type"), error_of(live.type_comes, "left", ("a",)))
        self.assertEqual(("Refused", "type"), error_of(live.type_goes, "a"))
        self.assertEqual(("Refused", "accepted"), error_of(live.accept, "left", "a"))
        self.assertEqual(("Refused", "accepted"), error_of(live.strike, "left", "b"))
        self.assertIs(TABLE, live.table)
        # the same name for a kind and a type
        self.assertEqual(((), ()), live.kind_comes("left"))
        self.assertEqual(((), ()), live.type_comes("a", ("left",)))

    def test_walks(self):
        rng = random.Random(820)
        crossed = 0
        for _ in range(25):
            live = LiveTable(Table(("b",), ()))
            for _ in range(60):
                kinds, lots = told(live.table)
                before, counts = crossing_by_words(kinds, lots)
                word = rng.choice(("kind_comes", "kind_goes", "type_comes", "type_comes", "type_goes", "accept",
                                   "accept", "accept", "strike"))
                values, refused = self.deed(rng, word, kinds, lots)
                same = live.table
                if refused is not None:
                    self.assertEqual(("Refused", refused), error_of(getattr(live, word), *values))
                    self.assertIs(same, live.table)
                    continue
                changed = getattr(live, word)(*values)
                self.assertEqual((kinds, lots), told(live.table))
                now, numbers = crossing_by_words(kinds, lots)
                self.assertEqual([sorted(set(now) - set(before)), sorted(set(before) - set(now))],
                                 [list(pairs) for pairs in changed])
                self.assertTrue(isinstance(changed, tuple) and all(isinstance(pairs, tuple) for pairs in changed))
                self.assertEqual((now, court(live.table)), (live.crossing_names(), live.verdict()))
                for (one, other), three in numbers.items():
                    self.assertEqual(three, live.pair_counts(one, other))
                    self.assertEqual((three[0], three[2], three[1]), live.pair_counts(other, one))
                    number = [live.table.kinds.index(name) for name in (one, other)]
                    self.assertEqual(all(three), do_cross(live.table, *number))
                self.check_changes(word, values, counts, numbers)
                crossed += len(changed[0])
        self.assertGreater(crossed, 15)

    def deed(self, rng, word, kinds, lots):
        """Choose a deed, do it by the words, and return its values and the word of its refusal or `None`."""
        name = rng.choice("pqrstuvw")
        kind = rng.choice("abcde")
        if word == "kind_comes":
            if kind in kinds:
                return (kind,), "kind"
            kinds.add(kind)
            return (kind,), None
        if word == "kind_goes":
            if kind not in kinds:
                return (kind,), "kind"
            if len(kinds) == 1:
                return (kind,), "kinds"
            kinds.remove(kind)
            for lot in lots.values():
                lot.discard(kind)
            return (kind,), None
        if word == "type_comes":
            chosen = tuple(rng.sample(sorted(kinds), rng.randint(0, len(kinds))))
            if name in lots:
                return (name, chosen), "type"
            lots[name] = set(chosen)
            return (name, chosen), None
        if name not in lots:
            return (name,) if word == "type_goes" else (name, kind), "type"
        if word == "type_goes":
            del lots[name]
            return (name,), None
        if kind not in kinds:
            return (name, kind), "kind"
        if (kind in lots[name]) == (word == "accept"):
            return (name, kind), "accepted"
        lots[name].symmetric_difference_update({kind})
        return (name, kind), None

    def check_changes(self, word, values, before, after):
        """Check for which pairs the three numbers change, and by how much."""
        for pair in set(before) & set(after):
            difference = [abs(new - old) for new, old in zip(after[pair], before[pair])]
            if word in ("accept", "strike"):
                self.assertLessEqual(max(difference), 1 if values[1] in pair else 0)
            elif word == "type_comes":
                self.assertEqual(any(name in values[1] for name in pair), any(difference))
            elif word in ("kind_comes", "kind_goes"):
                self.assertEqual([0, 0, 0], difference)


if __name__ == "__main__":
    unittest.main()
