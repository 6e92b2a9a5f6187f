"""[75], [76] Houses and deeds."""

import itertools
import random
import unittest

from helpers import Bag, SINGLES, Unfriendly, odd_values, random_tables
from neverregret.houses import (House, guest_row, guest_serving, house_after, house_after_all, is_deed, is_house,
                                whole_stock)
from neverregret.plain import is_serving
from neverregret.stocks import bounds_after
from neverregret.tables import Table, accepted

TABLE = Table(("l", "s"), (("any", (0, 1)), ("large", (0,)), ("none", ())))
HOUSE = House((1, 0), (None, 2, 0), ((0, 0, 1), (3, 1, 0)))
MANY = Table(("a", "b"), (("t", (0, 1)),))


def full_house(guests, units=1):
    """Return a house with so many guests, with units of both kinds left."""
    return House((units, units), (None,), tuple((number, 0, number % 2) for number in range(guests)))


def random_house(rng, table):
    """Return a small house for a table."""
    stock = tuple(rng.randint(0, 2) for _ in table.kinds)
    bounds = tuple(rng.choice((None, 0, 1, 2)) for _ in table.types)
    guests = []
    for number in sorted(rng.sample(range(6), rng.randint(0, 3))):
        takable = [(request, kind) for request in range(len(table.types)) for kind in accepted(table, request)]
        if takable:
            guests.append((number,) + rng.choice(takable))
    return House(stock, bounds, tuple(guests))


def house_by_words(house, deed):
    """Return the house behind a deed of which only the stock could be wrong, told step by step."""
    stock, bounds = list(house.stock), house.bounds
    guests = {number: (request, kind) for number, request, kind in house.guests}
    moves = {"serve": deed[-1], "move": deed[1]}.get(deed[0], ())
    for number, kind in moves:
        stock[guests[number][1]] += 1
    for number, kind in moves:
        stock[kind] -= 1
        guests[number] = (guests[number][0], kind)
    if deed[0] == "serve":
        free = min(number for number in range(401) if number not in guests)
        guests[free] = (deed[1], deed[2])
        stock[deed[2]] -= 1
        bounds = bounds_after(bounds, deed[1])
    elif deed[0] == "refuse":
        bounds = bounds_after(bounds, deed[1])
    elif deed[0] == "leave":
        stock[guests.pop(deed[1])[1]] += 1
    elif deed[0] == "bounds":
        bounds = deed[1]
    return House(tuple(stock), bounds, tuple((number,) + guests[number] for number in sorted(guests)))


class HouseTest(unittest.TestCase):
    def test_attributes_and_equality(self):
        house = House(stock=(1,), bounds=(None,), guests=())
        self.assertEqual(((1,), (None,), ()), (house.stock, house.bounds, house.guests))
        self.assertTrue(HOUSE == House((1, 0), (None, 2, 0), ((0, 0, 1), (3, 1, 0))))
        for other in (House((1, 1), HOUSE.bounds, HOUSE.guests), House(HOUSE.stock, (None, 2, 1), HOUSE.guests),
                      House(HOUSE.stock, HOUSE.bounds, ()), None, 3, HOUSE.guests,
                      Bag(stock=HOUSE.stock, bounds=HOUSE.bounds, guests=HOUSE.guests)):
            self.assertFalse(HOUSE == other)
            self.assertTrue(HOUSE != other)
        self.assertTrue(House(None, "x", [1]) == House(None, "x", [1]))

    def test_told(self):
        self.assertEqual(((2, 1), (0, 1), (1, 0)), (whole_stock(HOUSE), guest_row(HOUSE), guest_serving(HOUSE)))
        empty = House((3, 4), (None, 2, 0), ())
        self.assertEqual(((3, 4), (), ()), (whole_stock(empty), guest_row(empty), guest_serving(empty)))

    def test_right_houses(self):
        for house in (HOUSE, House((0, 0), (0, 0, 0), ()), House((400, 400), (None, 400, 400), ()),
                      House((399, 400), (None,) * 3, ((399, 1, 0),))):
            self.assertTrue(is_house(TABLE, house))
        self.assertTrue(is_house(MANY, full_house(400, 200)))
        self.assertTrue(is_house(Table(("a",), ()), House((1,), (), ())))

    def test_wrong_houses(self):
        for value in odd_values() + (House, ((1, 0), (None, 2, 0), ()), Bag(stock=(1, 0), bounds=(1, 1, 1), guests=())):
            self.assertFalse(is_house(TABLE, value))
        for stock in odd_values() + ((1,), (1, 0, 0), (401, 0), (400, 0), (0, -1), (True, 0), [1, 0], (1, None)):
            self.assertFalse(is_house(TABLE, House(stock, HOUSE.bounds, HOUSE.guests)))
        for bounds in odd_values() + ((), (None, 2), (None, 2, 0, 0), (401, 2, 0), (None, -1, 0), (None, False, 0),
                                      [None, 2, 0], (None, 2, Unfriendly())):
            self.assertFalse(is_house(TABLE, House(HOUSE.stock, bounds, HOUSE.guests)))
        for guests in odd_values() + ([], ((3, 1, 0), (0, 0, 1)), ((0, 0, 1), (0, 1, 0)), ((0, 0, 1), (0, 0, 1))):
            self.assertFalse(is_house(TABLE, House(HOUSE.stock, HOUSE.bounds, guests)))
        for guest in SINGLES + ((), (1, 0), (1, 0, 1, 1), [1, 0, 1], (400, 0, 1), (-1, 0, 1), (1, 3, 0), (1, 0, 2),
                                (1, 1, 1), (1, 2, 0), (True, 0, 1), (1, False, 1), (1, 0, True), (1, None, 1),
                                (1, 0, None), (Unfriendly(), 0, 1), (1, Unfriendly(), 1), (1, 0, Unfriendly())):
            self.assertFalse(is_house(TABLE, House((1, 0), HOUSE.bounds, ((0, 0, 1), guest))))
        self.assertFalse(is_house(MANY, full_house(400, 201)))
        self.assertFalse(is_house(MANY, full_house(401, 0)))


class DeedTest(unittest.TestCase):
    def test_ordinary(self):
        for deed in (("serve", 0, 0, ()), ("serve", 1, 0, ()), ("serve", 0, 1, ((0, 0),)), ("refuse", 0),
                     ("refuse", 1), ("leave", 0), ("leave", 3), ("move", ()), ("move", ((0, 0),)),
                     ("bounds", (None, None, None)), ("bounds", (400, 0, 1))):
            self.assertTrue(is_deed(TABLE, HOUSE, deed), deed)
        self.assertEqual(House((0, 0), (None, 2, 0), ((0, 0, 0), (1, 0, 1), (3, 1, 0))),
                         house_after(TABLE, HOUSE, ("serve", 0, 1, ((0, 0),))))
        self.assertEqual(House((1, 0), (None, 1, 0), HOUSE.guests), house_after(TABLE, HOUSE, ("refuse", 1)))
        self.assertEqual(House((1, 1), (None, 2, 0), ((3, 1, 0),)), house_after(TABLE, HOUSE, ("leave", 0)))
        self.assertEqual(HOUSE, house_after(TABLE, HOUSE, ("move", ())))
        self.assertEqual(House((1, 0), (1, 2, 3), HOUSE.guests), house_after(TABLE, HOUSE, ("bounds", (1, 2, 3))))

    def test_that_cannot_be_done(self):
        for deed in (("serve", 0, 1, ()), ("serve", 1, 1, ()), ("serve", 2, 0, ()), ("refuse", 2), ("leave", 1),
                     ("leave", 400), ("move", ((0, 1),)), ("move", ((3, 1),)), ("move", ((1, 0),)),
                     ("serve", 0, 0, ((0, 0),)), ("serve", 1, 0, ((0, 0),)), ("move", ((0, 0), (0, 0))),
                     ("bounds", (None, 401, None)), ("bounds", (1, 1)), ("serve", 3, 0, ()), ("serve", 0, 2, ())):
            self.assertFalse(is_deed(TABLE, HOUSE, deed), deed)

    def test_moves_at_once(self):
        house = House((0, 0), (None,), ((0, 0, 0), (1, 0, 1)))
        swap = ((0, 1), (1, 0))
        self.assertTrue(is_deed(MANY, house, ("move", swap)))
        self.assertEqual(((0, 0, 1), (1, 0, 0)), house_after(MANY, house, ("move", swap)).guests)
        self.assertFalse(is_deed(MANY, house, ("move", swap[::-1])))
        self.assertFalse(is_deed(MANY, house, ("move", swap[:1])))
        self.assertFalse(is_deed(MANY, house, ("serve", 0, 0, swap)))
        # what the moves free is enough for the serving, but not for a move besides
        house = House((0, 1), (None,), ((0, 0, 0), (1, 0, 0)))
        self.assertTrue(is_deed(MANY, house, ("serve", 0, 0, ((0, 1),))))
        self.assertFalse(is_deed(MANY, house, ("serve", 0, 0, ((0, 1), (1, 1)))))
        self.assertFalse(is_deed(MANY, house, ("serve", 0, 1, ((0, 1),))))

    def test_numbers_of_guests(self):
        house = House((9, 9), (None,), ((0, 0, 0), (1, 0, 0), (3, 0, 0)))
        served = house_after(MANY, house, ("serve", 0, 1, ()))
        self.assertEqual(((0, 0, 0), (1, 0, 0), (2, 0, 1), (3, 0, 0)), served.guests)
        self.assertEqual((4, 0, 1), house_after(MANY, served, ("serve", 0, 1, ())).guests[4])
        self.assertEqual(0, house_after(MANY, House((1, 1), (1,), ((7, 0, 0),)), ("serve", 0, 1, ())).guests[0][0])
        self.assertTrue(is_deed(MANY, full_house(399), ("serve", 0, 0, ())))
        self.assertEqual(399, house_after(MANY, full_house(399), ("serve", 0, 0, ())).guests[399][0])
        self.assertFalse(is_deed(MANY, full_house(400), ("serve", 0, 0, ())))
        self.assertTrue(is_deed(MANY, full_house(400), ("refuse", 0)))
        self.assertTrue(is_deed(MANY, full_house(400), ("leave", 399)))

    def test_other_values(self):
        for value in odd_values() + ((), ("serve",), ("serve", 0, 0), ("serve", 0, 0, (), ()), ["refuse", 0],
                                     ("refuse", 0, 0), ("leave",), ("move", (), ()), ("stay", 0), ("stay", (None, None, None)), ("Refuse", 0),
                                     (0, "refuse"), (Unfriendly(), 0), ("bounds", [None, None, None])):
            self.assertFalse(is_deed(TABLE, HOUSE, value))
        for item in SINGLES:
            for deed in (("serve", item, 0, ()), ("serve", 0, item, ()), ("serve", 0, 0, item), ("refuse", item),
                         ("leave", item), ("move", item), ("bounds", item), ("bounds", (None, item, 500)),
                         ("move", (item,)), ("move", ((item, 0),)), ("move", ((0, item),)),
                         ("serve", 0, 0, (item,)), ("move", ((0, 0), item)), ("move", ([0, 0],))):
                self.assertFalse(is_deed(TABLE, HOUSE, deed))

    def test_by_the_words(self):
        rng = random.Random(90)
        done = 0
        for table in random_tables(150, 91, 3, 3):
            house = random_house(rng, table)
            self.assertTrue(is_house(table, house))
            self.assertTrue(is_serving(table, whole_stock(house), guest_row(house), guest_serving(house)))
            kinds, types = range(len(table.kinds)), range(len(table.types))
            numbers = [number for number, _, _ in house.guests]
            pairs = list(itertools.product(numbers, kinds))
            some_moves = [moves for size in range(3) for moves in itertools.combinations(pairs, size)]
            deeds = [("refuse", request) for request in types] + [("leave", number) for number in range(6)]
            deeds += [("move", moves) for moves in some_moves]
            deeds += [("serve", request, kind, moves) for request in types for kind in kinds for moves in some_moves]
            for deed in deeds:
                self.assertEqual(self.can_be_done(table, house, deed), is_deed(table, house, deed), (deed, house.guests))
                if is_deed(table, house, deed):
                    done += 1
                    behind = house_after(table, house, deed)
                    self.assertEqual(house_by_words(house, deed), behind)
                    self.assertTrue(is_house(table, behind))
        self.assertGreater(done, 500)

    def can_be_done(self, table, house, deed):
        """Return whether a deed with right values can be done, by the words."""
        guests = {number: (request, kind) for number, request, kind in house.guests}
        if deed[0] in ("serve", "refuse") and house.bounds[deed[1]] == 0:
            return False
        if deed[0] == "leave":
            return deed[1] in guests
        if deed[0] == "refuse":
            return True
        moves = deed[-1]
        numbers = [number for number, _ in moves]
        if len(set(numbers)) < len(numbers):
            return False
        for number, kind in moves:
            if kind == guests[number][1] or kind not in accepted(table, guests[number][0]):
                return False
        if deed[0] == "serve" and deed[2] not in accepted(table, deed[1]):
            return False
        return min(house_by_words(house, deed).stock) >= 0

    def test_one_after_another(self):
        deeds = (("serve", 0, 0, ()), ("leave", 0), ("serve", 0, 1, ()), ("bounds", (1, 1, 1)), ("refuse", 2))
        house = HOUSE
        for deed in deeds:
            self.assertTrue(is_deed(TABLE, house, deed), deed)
            house = house_after(TABLE, house, deed)
        self.assertEqual(house, house_after_all(TABLE, HOUSE, deeds))
        self.assertEqual(House((0, 0), (1, 1, 0), ((0, 0, 1), (1, 0, 0), (3, 1, 0))), house)
        self.assertEqual(HOUSE, house_after_all(TABLE, HOUSE, ()))


if __name__ == "__main__":
    unittest.main()
