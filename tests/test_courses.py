"""[71] Courses, and the rule by which they are made; and of [72] which types must be movable for it."""

import itertools
import random
import unittest

from helpers import (SINGLES, Unfriendly, all_servings, all_tables, crossing_cases, meaning_of, odd_values, random_table,
                     random_tables, regrets_by_trying, served, subsets)
from neverregret.anyorder import row_orders
from neverregret.court import crossings_of
from neverregret.courses import course_by_rule, course_moves, is_course, next_serving
from neverregret.crossing import crossing_day
from neverregret.movers import are_enough, fixed_crossing
from neverregret.moves import moved_places
from neverregret.plain import is_serving, regrets
from neverregret.rule import served_by_rule
from neverregret.servings import most_by_ways
from neverregret.tables import Table, takers

TABLE = Table(("l", "s"), (("any", (0, 1)), ("large", (0,)), ("small", (1,))))


def cases(many, seed, kinds=3, types=3, length=4):
    """Return small tables with a stock, a row and movable types each."""
    rng = random.Random(seed)
    found = []
    for table in random_tables(many, seed, kinds, types):
        stock = tuple(rng.choice((0, 1, 1, 2)) for _ in table.kinds)
        row = tuple(rng.randrange(len(table.types)) for _ in range(rng.randint(0, length) if table.types else 0))
        found.append((table, stock, row, tuple(at for at in range(len(table.types)) if rng.random() < 0.5)))
    return found


def crossing_row_cases(many, seed):
    """Return the same with crossing kinds and most types movable."""
    rng = random.Random(seed)
    found = []
    for table, stock, _ in crossing_cases(many, seed):
        row = tuple(rng.randrange(len(table.types)) for _ in range(rng.randint(2, 4)))
        found.append((table, stock, row, tuple(at for at in range(len(table.types)) if rng.random() < 0.8)))
    return found


def can_follow(row, movable, before, serving):
    """Return whether a serving can stand behind another one in a course."""
    return all((old is None) == (new is None) and (row[at] in movable or old == new)
               for at, (old, new) in enumerate(zip(before, serving)))


def followers(table, stock, row, serving, movable):
    """Return all servings of a row that can come next in a course, by trying all."""
    return [value for value in all_servings(table, stock, row) if can_follow(row, movable, serving, value)]


def followers_by_rule(table, stock, row, serving, movable):
    """Return those of them that the rule allows."""
    values = [value for value in followers(table, stock, row, serving, movable) if value[-1] is not None]
    if not values:
        return [serving + (None,)]
    moves = {value: len(moved_places(serving, value)) for value in values}
    if row[-1] not in movable:
        fewest = min(len(takers(table, value[-1])) for value in values)
        values = [value for value in values if len(takers(table, value[-1])) == fewest]
    least = min(moves[value] for value in values)
    return [value for value in values if moves[value] == least]


def courses_by_rule(table, stock, row, movable):
    """Return all courses that the rule allows."""
    courses = [((), ())]
    for length in range(1, len(row) + 1):
        courses = [(course + (value,), value) for course, serving in courses
                   for value in followers_by_rule(table, stock, row[:length], serving, movable)]
    return [course for course, _ in courses]


class CoursesTest(unittest.TestCase):
    def test_examples(self):
        self.assertEqual((1, 0), course_by_rule(TABLE, (1, 1), (0, 1), (0,))[1])
        self.assertEqual(2, len(course_by_rule(TABLE, (1, 1), (0, 1), (0,))))

    def test_by_hand(self):
        # who stays makes no room; a movable one is moved as often as need be
        self.assertEqual((0, None), next_serving(TABLE, (1, 1), (0, 1), (0,), ()))
        self.assertEqual((0, None), next_serving(TABLE, (1, 1), (0, 1), (0,), (1, 2)))
        self.assertEqual((1, 0), next_serving(TABLE, (1, 1), (0, 1), (0,), (0,)))
        self.assertEqual((1, None), next_serving(TABLE, (1, 1), (0, 2), (1,), ()))
        self.assertEqual((0, 1), next_serving(TABLE, (1, 1), (0, 2), (1,), (0,)))
        self.assertEqual((0,), next_serving(TABLE, (1, 1), (1,), (), ()))
        self.assertEqual((None,), next_serving(TABLE, (0, 1), (1,), (), (0, 1, 2)))
        self.assertEqual((None, 1), next_serving(TABLE, (0, 1), (1, 0), (None,), (0, 1)))

    def test_fewest_takers_first(self):
        table = Table(("a", "b", "c"), (("p", (0, 1)), ("q", (0,)), ("r", (1, 2)), ("s", (0,))))
        # who stays gets a kind with fewest takers, even if another one has to move for it
        self.assertEqual((1,), next_serving(table, (1, 1, 1), (0,), (), ()))
        self.assertEqual((2, 1), next_serving(table, (1, 1, 1), (2, 0), (1,), (2,)))
        self.assertEqual((1, 0), next_serving(table, (1, 1, 1), (2, 0), (1,), ()))
        # who can be moved takes what is left instead
        self.assertEqual((1, 0), next_serving(table, (1, 1, 1), (2, 0), (1,), (0, 2)))
        # the rule of [28] if nobody can be moved
        self.assertEqual((2, 1, 0), course_by_rule(table, (1, 1, 1), (2, 0, 1), ())[-1])

    def test_as_few_moves_as_can_be(self):
        table = Table(("a", "b", "c", "d"), (("p", (0, 1)), ("q", (1, 2)), ("r", (0, 3)), ("s", (0,))))
        found = next_serving(table, (1, 1, 1, 1), (0, 1, 3), (0, 1), (0, 1, 2))
        self.assertEqual((1, 2, 0), found)
        row = (0, 1, 2, 3)
        found = next_serving(table, (2, 1, 1, 1), row, (0, 1, 0), (0, 1, 2, 3))
        self.assertEqual((0, 1, 3, 0), found)
        # with costs of 1 it moves fewer requests than there are kinds
        chain = Table(tuple("abcdefgh"), tuple(zip("pqrstuvw", ((at,) if at == 7 else (at, at + 1) for at in range(8)))))
        row = tuple(range(7)) + (7,)
        found = next_serving(chain, (1,) * 8, row, (1, 2, 3, 4, 5, 6, 7), tuple(range(8)))
        self.assertEqual((0, 1, 2, 3, 4, 5, 6, 7), found)

    def test_next_by_trying(self):
        rng = random.Random(711)
        moved = refused = fixed = 0
        for table, stock, row, movable in cases(300, 712, 3, 4, 5) + crossing_row_cases(250, 718):
            if not row:
                continue
            servings = all_servings(table, stock, row[:-1])
            number = max(map(served, servings))
            serving = rng.choice([value for value in servings if served(value) == number])
            expected = followers_by_rule(table, stock, row, serving, movable)
            found = next_serving(table, stock, row, serving, movable)
            self.assertIn(found, expected)
            moved += found[:-1] != serving
            refused += found[-1] is None
            fixed += len(expected) == 1 and row[-1] not in movable
        self.assertGreater(min(moved, refused, fixed), 10)

    def test_courses_by_trying(self):
        for table, stock, row, movable in cases(120, 713) + crossing_row_cases(60, 719):
            course = course_by_rule(table, stock, row, movable)
            self.assertIn(course, courses_by_rule(table, stock, row, movable))
            self.assertIs(True, is_course(table, stock, row, movable, course))
            moves = sum(len(moved_places(one, other)) for one, other in zip(course, course[1:]))
            self.assertEqual(moves, course_moves(course))

    def test_is_course_by_trying(self):
        many = 0
        for table, stock, row, movable in cases(60, 714, 2, 2, 3):
            parts = [all_servings(table, stock, row[:length]) for length in range(1, len(row) + 1)]
            for value in itertools.product(*parts):
                right = all(can_follow(row, movable, one, other) for one, other in zip(value, value[1:]))
                self.assertIs(right, is_course(table, stock, row, movable, value))
                many += right
        self.assertGreater(many, 50)

    def test_moves(self):
        self.assertEqual(0, course_moves(()))
        self.assertEqual(0, course_moves(((0,),)))
        self.assertEqual(1, course_moves(((0,), (1, 0))))
        self.assertEqual(3, course_moves(((0,), (1, 0), (0, 1, None), (0, 1, None, 1))))
        self.assertEqual(0, course_moves(((None,), (None, 1), (None, 1, 0))))

    def test_all_movable(self):
        """With all types movable it has no regrets, and serves the same number in every sequence."""
        for table, stock, row, _ in cases(120, 715, 3, 4, 5):
            movable = tuple(range(len(table.types)))
            course = course_by_rule(table, stock, row, movable)
            last = course[-1] if course else ()
            self.assertEqual((), regrets(table, stock, row, last))
            number = meaning_of(table)(stock, row)
            for sequence in row_orders(row)[:20]:
                course = course_by_rule(table, stock, sequence, movable)
                self.assertEqual(number, served(course[-1]) if course else 0)

    def test_enough_types(self):
        """If all types are movable that must be, no course has regrets and every sequence serves the same."""
        many = 0
        tables = [table for table in all_tables(2, 3) + all_tables(3, 3)[::9] if crossings_of(table)]
        rng = random.Random(716)
        for table in tables:
            stock = tuple(rng.choice((1, 1, 2)) for _ in table.kinds)
            for movable in subsets(range(len(table.types))):
                if are_enough(table, movable):
                    many += 1
                    row = tuple(rng.randrange(3) for _ in range(4))
                    for course in courses_by_rule(table, stock, row, movable):
                        self.assertEqual((), regrets_by_trying(table, stock, row, course[-1]))
                    numbers = {served(course_by_rule(table, stock, sequence, movable)[-1])
                               for sequence in row_orders(row)}
                    self.assertEqual(1, len(numbers))
        self.assertGreater(many, 50)

    def test_not_enough_types(self):
        """Of two courses of the rows of a crossing that begin with the same serving one has a regret."""
        many = 0
        for table in [table for table in all_tables(2, 3) + all_tables(3, 3)[::9] if crossings_of(table)]:
            for movable in subsets(range(len(table.types))):
                crossing = fixed_crossing(table, movable)
                if crossing is None:
                    continue
                many += 1
                stock, (one, other) = crossing_day(table, crossing)
                for first in all_servings(table, stock, one[:1]):
                    clean = []
                    for row in (one, other):
                        lasts = followers(table, stock, row, first, movable)
                        clean.append(any(not regrets_by_trying(table, stock, row, last) for last in lasts))
                    self.assertFalse(all(clean))
        self.assertGreater(many, 50)

    def test_edges(self):
        self.assertEqual((), course_by_rule(TABLE, (1, 1), (), ()))
        self.assertIs(True, is_course(TABLE, (1, 1), (), (), ()))
        self.assertEqual(((None,), (None, None)), course_by_rule(TABLE, (0, 0), (0, 1), (0, 1, 2)))
        empty = Table(("a",), (("p", ()), ("q", (0,))))
        self.assertEqual(((None,), (None, 0)), course_by_rule(empty, (1,), (0, 1), (0, 1)))
        self.assertEqual(((None,), (None, 0)), course_by_rule(empty, (1,), (0, 1), ()))

    def test_other_values(self):
        case = (TABLE, (1, 1), (0, 1), (0,))
        right = course_by_rule(*case)
        self.assertEqual((1, 0), right[1])
        for value in odd_values() + (list(right), right[:1], right + ((1, 0, None),), ((0,), [1, 0]), ((0,), (1, False)),
                                     ((False,), (1, 0)), ((0,), (None, 0)), ((0,), (1, None, 0)), ((0, 1), (1, 0)),
                                     ((None,), (1, 0)), ((0,), (0, 0)), ((0,), (1,)), ((2,), (1, 0)), ((), (1, 0))):
            self.assertIs(False, is_course(*case, value))
        for item in SINGLES + (Unfriendly(),):
            self.assertFalse(is_course(*case, (item, (1, 0))))
            self.assertFalse(is_course(*case, ((0,), item)))
            self.assertIs(item is None, is_course(*case, ((0,), (1, item))))
        self.assertTrue(is_course(*case, ((0,), (1, 0))))
        self.assertTrue(is_course(*case, ((0,), (1, None))))
        self.assertFalse(is_course(TABLE, (1, 1), (0, 1), (1, 2), ((0,), (1, 0))))
        self.assertFalse(is_course(TABLE, (1, 1), (0, 1), (1, 2), ((0,), (1, None))))

    def test_large(self):
        rng = random.Random(717)
        for _ in range(3):
            table = random_table(rng, 8, 12)
            if not table.types:
                continue
            stock = tuple(rng.choice((0, 20, 50, 100)) for _ in table.kinds)
            row = tuple(rng.randrange(len(table.types)) for _ in range(400))
            course = course_by_rule(table, stock, row, tuple(range(len(table.types))))
            self.assertEqual(most_by_ways(table, stock, row), served(course[-1]))
            self.assertTrue(all(is_serving(table, stock, row[:at + 1], serving) for at, serving in enumerate(course)))
            self.assertTrue(is_course(table, stock, row, tuple(range(len(table.types))), course))
            # without movable types it is the rule of [28]
            course = course_by_rule(table, stock, row, ())
            self.assertEqual(0, course_moves(course))
            self.assertEqual(served(served_by_rule(table, stock, row)) > 0, served(course[-1]) > 0)


if __name__ == "__main__":
    unittest.main()
