"""[63] Days and servings of them."""

import random
import unittest

from helpers import SINGLES, Unfriendly, odd_values
from neverregret.days import coming_places, is_day, is_day_serving, left_on_day, row_there, there_behind
from neverregret.tables import Table

TABLE = Table(("l", "s"), (("any", (0, 1)), ("large", (0,)), ("none", ())))
DAY = (("comes", 0), ("comes", 1), ("leaves", 0), ("comes", 2), ("leaves", 3), ("comes", 1))


class DayTest(unittest.TestCase):
    def test_right(self):
        for day in ((), DAY, (("comes", 2),), (("comes", 0), ("leaves", 0), ("comes", 0), ("leaves", 2))):
            self.assertTrue(is_day(TABLE, (0, 1, 2), day))
        self.assertTrue(is_day(TABLE, (0, 2), DAY))
        self.assertTrue(is_day(TABLE, (), (("comes", 0), ("comes", 1))))

    def test_who_leaves(self):
        self.assertFalse(is_day(TABLE, (0, 1), DAY))
        self.assertFalse(is_day(TABLE, (), (("comes", 0), ("leaves", 0))))
        for place in (1, 2, 0, 5, 6, 400):
            self.assertFalse(is_day(TABLE, (0, 1, 2), DAY[:3] + (("leaves", place),)) and place != 1, place)
        self.assertTrue(is_day(TABLE, (0, 1, 2), DAY[:3] + (("leaves", 1),)))
        self.assertFalse(is_day(TABLE, (0,), (("leaves", 0),)))
        self.assertFalse(is_day(TABLE, (0,), (("leaves", 1), ("comes", 0))))

    def test_lengths(self):
        self.assertTrue(is_day(TABLE, (), (("comes", 0),) * 4000))
        self.assertFalse(is_day(TABLE, (), (("comes", 0),) * 4001))
        turns = tuple(("leaves", at - 1) if at % 2 else ("comes", 1) for at in range(4000))
        self.assertTrue(is_day(TABLE, (1,), turns))
        self.assertFalse(is_day(TABLE, (1,), turns + (("comes", 0),)))

    def test_other_values(self):
        for value in odd_values() + ([("comes", 0)], "comes", ("comes", 0)):
            self.assertFalse(is_day(TABLE, (0, 1, 2), value))
        for item in SINGLES + ((), ("comes",), ("comes", 0, 0), ["comes", 0], ("Comes", 0), ("goes", 0), ("", 0),
                               (0, "comes"), (Unfriendly(), 0), ("comes", Unfriendly())):
            self.assertFalse(is_day(TABLE, (0, 1, 2), (("comes", 0), item)))
        for number in SINGLES + (3, (0,)):
            self.assertFalse(is_day(TABLE, (0, 1, 2), (("comes", 0), ("comes", number))))
            self.assertFalse(is_day(TABLE, (0, 1, 2), (("comes", 0), ("leaves", number))))


class ServingTest(unittest.TestCase):
    def test_right(self):
        for serving in ((1, 0, None, None, None, None), (0, None, None, None, None, 0), (None,) * 6):
            self.assertTrue(is_day_serving(TABLE, (1, 1), DAY, serving))
        self.assertTrue(is_day_serving(TABLE, (0, 0), (), ()))

    def test_wrong(self):
        for serving in ((1, 0, None, None, None), (1, 0, None, None, None, None, None), (1, 0, 0, None, None, None),
                        (1, 1, None, None, None, None), (1, 0, None, 0, None, None), [1, 0, None, None, None, None],
                        (1, 0, None, None, None, 0), (0, 0, None, None, None, None), (1, 0, None, None, 1, None)):
            self.assertFalse(is_day_serving(TABLE, (1, 1), DAY, serving), serving)
        self.assertFalse(is_day_serving(TABLE, (0, 0), DAY, (1, 0, None, None, None, None)))
        # kinds that the types do not accept
        self.assertFalse(is_day_serving(TABLE, (9, 9), DAY, (None, 1, None, None, None, None)))
        self.assertFalse(is_day_serving(TABLE, (9, 9), DAY, (None, None, None, 0, None, None)))

    def test_units_come_back(self):
        day = (("comes", 1), ("leaves", 0), ("comes", 1), ("comes", 1))
        self.assertTrue(is_day_serving(TABLE, (1, 0), day, (0, None, 0, None)))
        self.assertFalse(is_day_serving(TABLE, (1, 0), day, (0, None, 0, 0)))
        # who was refused and leaves changes nothing
        self.assertFalse(is_day_serving(TABLE, (0, 0), day, (None, None, 0, None)))
        self.assertTrue(is_day_serving(TABLE, (2, 0), day, (None, None, 0, 0)))

    def test_other_values(self):
        for value in odd_values():
            self.assertFalse(is_day_serving(TABLE, (1, 1), DAY, value))
        for item in SINGLES[:2] + SINGLES[3:] + (2, -1, (0,)):
            self.assertFalse(is_day_serving(TABLE, (1, 1), (("comes", 0),), (item,)))
            self.assertFalse(is_day_serving(TABLE, (1, 1), (("comes", 0), ("leaves", 0)), (1, item)))


class BehindTest(unittest.TestCase):
    def test_ordinary(self):
        self.assertEqual((0, 1, 3, 5), coming_places(DAY))
        serving = (1, 0, None, None, None, None)
        self.assertEqual((1,), there_behind(DAY, serving))
        self.assertEqual((1,), row_there(DAY, serving))
        self.assertEqual((0, 1), left_on_day((1, 1), DAY, serving))
        self.assertEqual((0, 1), there_behind(DAY[:2], serving[:2]))
        self.assertEqual((0, 1), row_there(DAY[:2], serving[:2]))
        self.assertEqual((3, 4), left_on_day((4, 5), DAY[:2], serving[:2]))

    def test_nothing(self):
        self.assertEqual(((), (), ()), (coming_places(()), there_behind((), ()), row_there((), ())))
        self.assertEqual((4, 5), left_on_day((4, 5), (), ()))

    def test_by_one_event_after_another(self):
        rng = random.Random(13)
        for _ in range(200):
            stock = (rng.randint(0, 2), rng.randint(0, 2))
            day, serving, there, left = [], [], {}, list(stock)
            here = []
            for at in range(rng.randint(0, 12)):
                if here and rng.random() < 0.4:
                    place = here.pop(rng.randrange(len(here)))
                    day.append(("leaves", place))
                    serving.append(None)
                    if place in there:
                        left[there.pop(place)] += 1
                else:
                    request = rng.randrange(3)
                    kinds = [kind for kind in TABLE.types[request][1] if left[kind]] + [None]
                    kind = rng.choice(kinds)
                    day.append(("comes", request))
                    serving.append(kind)
                    here.append(at)
                    if kind is not None:
                        there[at] = kind
                        left[kind] -= 1
            day, serving = tuple(day), tuple(serving)
            self.assertTrue(is_day(TABLE, (0, 1, 2), day))
            self.assertTrue(is_day_serving(TABLE, stock, day, serving))
            self.assertEqual(tuple(sorted(there)), there_behind(day, serving))
            self.assertEqual(tuple(day[at][1] for at in sorted(there)), row_there(day, serving))
            self.assertEqual(tuple(left), left_on_day(stock, day, serving))


if __name__ == "__main__":
    unittest.main()
