"""[78] Desks, and what [74] says of cuts."""

import random
import unittest

from helpers import (Unfriendly, crossing_cases, error_of, has_crossing, is_same, meaning_of, odd_values, random_table,
                     random_tables)
from neverregret.answers import answer, is_regret, moving_answer
from neverregret.desk import Desk, start_desk
from neverregret.disk import Disk, cut_cells, pending_places
from neverregret.houses import House, house_after, house_after_all, is_deed, is_house
from neverregret.journal import Journal
from neverregret.printer import show_table
from neverregret.reader import read_table
from neverregret.tables import Table, accepted

TABLE = read_table("any: a b\nlight: a")
WIDE = Table(tuple("abcdefgh"), tuple((name, tuple(range(8))) for name in "klmnopqrstuv"))
LONG = Table(("abcdefgh", "b"), (("lightest", (0, 1)), ("longests", ())))


def cells_now(disk):
    """Return the present cells of a disk."""
    return tuple(disk.look(at) for at in range(len(disk.cells)))


def state(desk):
    """Return all that can be asked of a desk; its table is told by its parts."""
    return desk.table.kinds, desk.table.types, vars(desk.house), desk.deeds(), vars(desk.begun())


def state_on(cells):
    """Return the state of the desk on cells, or the error that it raises."""
    error = error_of(Desk, Disk(cells))
    return state(Desk(Disk(cells))) if error is None else error


def house_weight(table, house):
    """Return what a house weighs."""
    return 16 + 4 * (len(show_table(table)) + len(table.kinds) + len(table.types)) + 8 * len(house.guests)


def deed_weight(table, deed):
    """Return what a deed weighs."""
    moves = deed[3] if deed[0] == "serve" else deed[1] if deed[0] == "move" else ()
    return 16 + 4 * len(moves) + (4 * len(table.types) if deed[0] == "bounds" else 0)


def cells_for(weight, odd=False):
    """Return the least number of cells, even or odd, for which room is promised for so much."""
    return 2 * (weight + 8) + odd


def random_deed(rng, table, house):
    """Return some deed that can be done in a house."""
    deeds = []
    for request in range(len(table.types)):
        deeds.append(("refuse", request))
        deeds.extend(("serve", request, kind, ()) for kind in accepted(table, request))
        if house.bounds[request] != 0 and len(house.guests) < 400:
            deeds.append(moving_answer(table, house, request))
        deeds.extend(("serve", request, kind, ((number, further),)) for number, guest, _ in house.guests[-2:]
                     for further in accepted(table, guest) for kind in accepted(table, request))
    deeds.extend(("leave", number) for number, _, _ in house.guests)
    deeds.append(("bounds", tuple(rng.choice((None, 0, 1, 300, 400)) for _ in table.types)))
    deeds.append(("move", ()))
    deeds.extend(("move", ((number, kind),)) for number, request, _ in house.guests for kind in accepted(table, request))
    numbers = [(number, request) for number, request, _ in house.guests]
    if len(numbers) > 1:
        (one, first), (other, second) = sorted(rng.sample(numbers, 2))
        deeds.extend(("move", ((one, kind), (other, further))) for kind in accepted(table, first)
                     for further in accepted(table, second))
    return rng.choice([deed for deed in deeds if is_deed(table, house, deed)])


class DeskTest(unittest.TestCase):
    def check_kept(self, desk, disk, table, begun, deeds):
        """Check that a desk, and any desk on the same cells, has these deeds since it began with a house."""
        house = house_after_all(table, begun, deeds)
        for kept in (desk, Desk(disk), Desk(Disk(cells_now(disk)))):
            self.assertTrue(kept.table == table and kept.house == house and kept.begun() == begun)
            self.assertTrue(is_same(tuple(deeds), kept.deeds()))
            self.assertTrue(is_same((house.stock, house.bounds, house.guests),
                                    (kept.house.stock, kept.house.bounds, kept.house.guests)))

    def test_examples(self):
        disk = Disk((0,) * 600)
        desk = start_desk(disk, TABLE, (1, 1), (None, None))
        self.assertIsInstance(desk, Desk)
        self.assertTrue(is_same(("serve", 0, 1, ()), desk.come(0)))
        self.assertTrue(is_same(("move", ((0, 0),)), desk.do(("move", ((0, 0),)))))
        self.assertTrue(is_same(("serve", 1, 0, ((0, 1),)), desk.come_moving(1)))
        self.assertEqual(((0, 0, 1), (1, 1, 0)), Desk(Disk(cells_now(disk))).house.guests)
        self.check_kept(desk, disk, TABLE, House((1, 1), (None, None), ()),
                        [("serve", 0, 1, ()), ("move", ((0, 0),)), ("serve", 1, 0, ((0, 1),))])

    def test_attributes(self):
        disk = Disk(cells=(0,) * 300)
        desk = start_desk(disk=disk, table=TABLE, stock=(400, 0), bounds=(0, 400))
        self.assertEqual((True, True), (desk.table == TABLE, desk.house == House((400, 0), (0, 400), ())))
        self.assertEqual(((), True), (desk.deeds(), desk.begun() == House((400, 0), (0, 400), ())))
        self.assertIs(disk, desk.disk)
        self.assertIs(disk, Desk(disk=disk).disk)
        desk.do(deed=("refuse", 1))
        desk.come(request=1)
        desk.come_moving(request=1)
        self.assertEqual(3, len(desk.deeds()))

    def test_start_in_the_place_of_another_desk(self):
        disk = Disk((0,) * 600)
        first = start_desk(disk, TABLE, (1, 1), (None, None))
        first.come(0)
        desk = start_desk(disk, LONG, (3, 0), (7, None))
        self.check_kept(desk, disk, LONG, House((3, 0), (7, None), ()), [])
        Journal(disk).renew(((1, 2, 3),))
        desk = start_desk(disk, TABLE, (0, 2), (1, None))
        self.check_kept(desk, disk, TABLE, House((0, 2), (1, None), ()), [])

    def test_all_deeds(self):
        rng = random.Random(780)
        words = set()
        for table in random_tables(30, 781, 4, 4) + [WIDE, LONG]:
            disk = Disk((0,) * 6000)
            stock = tuple(rng.choice((0, 1, 2, 400)) for _ in table.kinds)
            bounds = tuple(rng.choice((None, None, 300, 400, 2)) for _ in table.types)
            desk = start_desk(disk, table, stock, bounds)
            begun, deeds = desk.house, []
            for _ in range(14):
                if rng.random() < 0.12:
                    self.assertIsNone(desk.pack())
                    begun, deeds = desk.house, []
                deed = random_deed(rng, table, desk.house)
                self.assertTrue(is_same(deed, desk.do(deed)))
                deeds.append(deed)
                words.add(deed[0] + ("+" if deed[-1] and deed[0] in ("serve", "move") else ""))
                self.check_kept(desk, disk, table, begun, deeds)
        self.assertEqual({"serve", "serve+", "refuse", "leave", "move", "move+", "bounds"}, words)

    def test_come(self):
        rng = random.Random(782)
        for table, stock, bounds in crossing_cases(25, 783):
            disk = Disk((0,) * 3000)
            desk = start_desk(disk, table, stock, bounds)
            for _ in range(8):
                request = rng.randrange(len(table.types))
                for call, told in ((desk.come, answer), (desk.come_moving, moving_answer)):
                    house, deeds = desk.house, desk.deeds()
                    if house.bounds[request] == 0:
                        events = disk.events()
                        self.assertEqual(("Refused", "bound"), error_of(call, request))
                        self.assertEqual((events, deeds, True), (disk.events(), desk.deeds(), desk.house == house))
                    else:
                        deed = call(request)
                        self.assertEqual(told(table, house, request), deed)
                        self.assertEqual(deeds + (deed,), desk.deeds())
                        self.assertTrue(house_after(table, house, deed) == desk.house)
                if desk.house.guests and rng.random() < 0.5:
                    desk.do(("leave", rng.choice(desk.house.guests)[0]))

    def test_400_guests(self):
        table = Table(("a", "b"), (("t", (0, 1)), ("u", (0,))))
        disk = Disk((0,) * 20000)
        desk = start_desk(disk, table, (300, 101), (None, 1))
        for number in range(400):
            if number % 50 == 0:
                desk.pack()
            self.assertEqual("serve", desk.come(0)[0])
        self.assertEqual(400, len(desk.house.guests))
        for call in (desk.come, desk.come_moving):
            self.assertEqual(("Refused", "guests"), error_of(call, 1))
        desk.do(("refuse", 1))
        for call in (desk.come, desk.come_moving):
            self.assertEqual(("Refused", "bound"), error_of(call, 1))
        # the greatest number of a guest, and all guests, are kept
        desk.do(("leave", 255))
        desk.do(("leave", 256))
        desk.do(("leave", 399))
        desk.pack()
        self.check_kept(desk, disk, table, desk.house, [])
        self.assertEqual(397, len(desk.begun().guests))
        self.assertEqual(398, desk.house.guests[-1][0])

    def test_do_other_values(self):
        disk = Disk((0,) * 600)
        desk = start_desk(disk, TABLE, (1, 1), (1, 0))
        desk.come(0)
        kept = desk.house.guests[0][::2]
        other = (0, 1 - kept[1])
        before, events = state(desk), disk.events()
        for value in odd_values() + (("serve", 0, 0, ()), ("refuse", 0), ("refuse", 1), ("leave", 1), ("leave", False),
                                     ("leave", 0, 0), ["leave", 0], ("leaves", 0), ("move", (kept,)), ("move", [other]),
                                     ("move", (other, other)), ("bounds", (None,)), ("bounds", (401, None)),
                                     ("bounds", [None, None]), ("come", 0), (Unfriendly(), 0), ("move", Unfriendly()),
                                     ("refuse", Unfriendly()), ("bounds", (True, None))):
            self.assertEqual(("Refused", "deed"), error_of(desk.do, value))
        self.assertEqual(before, state(desk))
        self.assertEqual(events, disk.events())

    def test_no_desk(self):
        for size in (1, 16, 600, 20000):
            disk = Disk((0,) * size)
            self.assertEqual(("Broken", "desk"), error_of(Desk, disk))
            self.assertEqual((), disk.events())
        for records in ((), ((),), ((1, 2, 3),), ((0,) * 40,), ((255,) * 40,), ((), (), ()), ((6,),), ((6, 0),), ((6, 0, 3),)):
            disk = Disk((0,) * 600)
            Journal(disk).renew(records)
            self.assertEqual(("Broken", "desk"), error_of(Desk, disk))
        rng = random.Random(784)
        for _ in range(200):
            disk = Disk((0,) * 600)
            Journal(disk).renew(tuple(tuple(rng.randrange(rng.choice((8, 256))) for _ in range(rng.randint(0, 30)))
                                      for _ in range(rng.randint(1, 3))))
            self.assertEqual(("Broken", "desk"), error_of(Desk, disk))
        self.assertEqual(("Broken", "journal"), error_of(Desk, Disk((0, 1, 255, 255, 0, 0, 0))))
        self.assertEqual(("Broken", "journal"), error_of(start_desk, Disk((0, 1, 255, 255, 0, 0, 0)), TABLE, (1, 1), (1, 1)))

    def test_journals_that_are_almost_that_of_a_desk(self):
        """Records left out, put twice, cut short, made longer or changed make another desk or none, and no other error."""
        rng = random.Random(785)
        for table in (TABLE, LONG):
            disk = Disk((0,) * 900)
            desk = start_desk(disk, table, (2, 2), (5, None))
            for deed in (("serve", 0, 1, ()), ("refuse", 0), ("move", ((0, 0),)), ("bounds", (5, 300)), ("leave", 0)):
                desk.do(deed)
            records = Journal(disk).records()
            self.assertTrue(len(records) > 1)
            changed = [records[1:], records[:1] * 2 + records[1:], records + records[:1], records[::-1]]
            self.assertTrue(all(self.is_no_desk(part) for part in changed))
            for at, record in enumerate(records):
                for part in (record[:-1], record + (0,), record[1:], (), record + record):
                    self.assertTrue(self.is_no_desk(records[:at] + (part,) + records[at + 1:]), (at, part))
                for _ in range(60):
                    place = rng.randrange(len(record))
                    part = record[:place] + (rng.randrange(256),) + record[place + 1:]
                    self.is_no_desk(records[:at] + (part,) + records[at + 1:])
            # a guest leaves that is not there, or twice
            self.assertTrue(self.is_no_desk(records + records[-1:]))
            self.assertTrue(self.is_no_desk(records[:1] + records[-1:]))
            # a house with guests
            for deed in (("serve", 0, 0, ()), ("serve", 0, 1, ())):
                desk.do(deed)
            desk.pack()
            record = Journal(disk).records()[0]
            for part in (record[:-1], record + (0,), record[1:], record + record, record[:-4] + record[-4:] * 2):
                self.assertTrue(self.is_no_desk((part,)))
            for place in range(len(record)):
                for octet in list(range(40)) + [255]:
                    self.is_no_desk((record[:place] + (octet,) + record[place + 1:],))

    def is_no_desk(self, records):
        """Return whether records are those of no desk; a desk on them must be one whose house is right."""
        disk = Disk((0,) * 3000)
        Journal(disk).renew(records)
        error = error_of(Desk, disk)
        if error is not None:
            self.assertEqual(("Broken", "desk"), error)
            return True
        desk = Desk(disk)
        for house in (desk.begun(), desk.house):
            self.assertEqual((len(desk.table.kinds), len(desk.table.types)), (len(house.stock), len(house.bounds)))
            # whatever the numbers of units are, the guests are such as can be there
            alone = House((0,) * len(house.stock), (None,) * len(house.bounds), house.guests)
            self.assertTrue(is_house(desk.table, alone))
        return False


class RoomTest(unittest.TestCase):
    def test_room_that_is_promised_for_a_start(self):
        for table in (TABLE, WIDE, LONG, Table(("a",), ()), Table(("a",), (("p", ()),))):
            stock, bounds = (400,) * len(table.kinds), (400,) * len(table.types)
            weight = house_weight(table, House(stock, bounds, ()))
            for odd in (False, True):
                disk = Disk((0,) * cells_for(weight, odd))
                for _ in range(3):
                    desk = start_desk(disk, table, stock, bounds)
                    desk.pack()
                    self.assertTrue(Desk(Disk(cells_now(disk))).house == House(stock, bounds, ()))

    def test_room_that_is_promised_for_deeds(self):
        rng = random.Random(786)
        for table in random_tables(20, 787, 4, 4) + [WIDE, LONG]:
            stock = tuple(rng.choice((1, 2, 5)) for _ in table.kinds)
            bounds = tuple(rng.choice((None, 9, 400)) for _ in table.types)
            house = House(stock, bounds, ())
            begun, deeds = house, []
            for _ in range(12):
                deeds.append(random_deed(rng, table, house))
                house = house_after(table, house, deeds[-1])
            weight = house_weight(table, begun) + sum(deed_weight(table, deed) for deed in deeds)
            packed = house_weight(table, house)
            disk = Disk((0,) * cells_for(max(weight, packed), rng.random() < 0.5))
            start_desk(disk, table, stock, bounds)
            for turn in range(2):
                desk = start_desk(disk, table, stock, bounds)
                for deed in deeds:
                    desk.do(deed)
                self.assertEqual(tuple(deeds), Desk(Disk(cells_now(disk))).deeds())
                desk.pack()
                self.assertTrue(Desk(disk).begun() == house and Desk(disk).house == house)
                self.assertEqual((), Desk(disk).deeds())

    def test_room_for_houses_with_many_guests(self):
        table = Table(("a",), (("t", (0,)),))
        bounds = (None,)
        weight = house_weight(table, House((400,), bounds, ())) + 8 * 400
        disk = Disk((0,) * cells_for(weight))
        desk = start_desk(disk, table, (400,), bounds)
        while len(desk.house.guests) < 400:
            for _ in range(100):
                desk.come(0)
            desk.pack()
        self.assertTrue(Desk(Disk(cells_now(disk))).house == desk.house)
        self.assertEqual((0,), desk.house.stock)
        # a house with moves of all its guests at once
        wide = Table(("a", "b"), (("t", (0, 1)),))
        weight = house_weight(wide, House((60, 60), bounds, ())) + 61 * 16 + 60 * 4
        disk = Disk((0,) * cells_for(weight))
        desk = start_desk(disk, wide, (60, 60), bounds)
        for _ in range(60):
            desk.do(("serve", 0, 0, ()))
        desk.do(("move", tuple((number, 1) for number in range(60))))
        self.assertEqual((60, 0), Desk(Disk(cells_now(disk))).house.stock)

    def test_no_room(self):
        for size in (1, 2, 30, 60):
            disk = Disk((0,) * size)
            self.assertEqual(("Refused", "room"), error_of(start_desk, disk, WIDE, (1,) * 8, (1,) * 12))
            self.assertEqual((), disk.events())
            self.assertEqual(("Broken", "desk"), error_of(Desk, disk))
        disk = Disk((0,) * cells_for(house_weight(TABLE, House((300, 300), (None, None), ())) + 32))
        desk = start_desk(disk, TABLE, (300, 300), (None, None))
        many = 0
        while error_of(desk.come, 0) is None:
            many += 1
        self.assertGreaterEqual(many, 2)
        before, events = state(desk), disk.events()
        serving = ("serve", 0, 0, ())
        for call in (lambda: desk.come(0), lambda: desk.come_moving(1), lambda: desk.do(serving),
                     lambda: desk.do(("bounds", (0, 0)))):
            self.assertEqual(("Refused", "room"), error_of(call))
        self.assertEqual((before, events), (state(desk), disk.events()))
        self.assertEqual(before, state(Desk(Disk(cells_now(disk)))))
        self.assertEqual(many, len(desk.deeds()))
        # what is no deed, and what can be answered by nobody, is refused ahead of the room
        self.assertEqual(("Refused", "deed"), error_of(desk.do, ("leave", 300)))
        if error_of(desk.pack) is None:
            self.assertEqual(many, len(desk.house.guests))
            self.assertEqual((), desk.deeds())

    def test_pack_without_room(self):
        table = Table(("a",), (("t", (0,)),))
        disk = Disk((0,) * cells_for(house_weight(table, House((50,), (None,), ())) + 80 * 16))
        desk = start_desk(disk, table, (50,), (None,))
        for _ in range(40):
            desk.come(0)
            desk.do(("leave", 0))
        for _ in range(50):
            if error_of(desk.come, 0) == ("Refused", "room"):
                break
        before = state(desk)
        error = error_of(desk.pack)
        self.assertIn(error, (None, ("Refused", "room")))
        if error is not None:
            self.assertEqual(before, state(desk))


class CutTest(unittest.TestCase):
    def octets(self, rng, before, now, pending):
        """Return old, new and other octets that a cut can leave at the pending places."""
        olds = tuple(before[place] for place in pending)
        news = tuple(now[place] for place in pending)
        found = [olds, news, (0,) * len(pending), (255,) * len(pending)]
        for _ in range(3):
            found.append(tuple(rng.choice((old, new, rng.randrange(256))) for old, new in zip(olds, news)))
        if len(pending) == 1:
            found.extend((octet,) for octet in rng.sample(range(256), 24))
        return found

    def cuts(self, rng, cells, events):
        """Return the number of the last event and the cells for cuts at every event of a call."""
        found = []
        for end in range(len(events) + 1):
            part = events[:end]
            pending = pending_places(part)
            latest = dict(event for event in part if event is not None)
            now = cut_cells(cells, part, tuple(latest[place] for place in pending))
            found.extend((end, cut_cells(cells, part, octets)) for octets in self.octets(rng, cells, now, pending))
        return found

    def check_call(self, rng, cells, call):
        """Make a call on a desk on cells, cut it everywhere, and return some cells that a cut left."""
        before = state_on(cells)
        disk = Disk(cells)
        desk = call(disk)
        behind = state(desk)
        cuts = self.cuts(rng, cells, disk.events())
        for end, left in cuts:
            found = state_on(left)
            self.assertIn(found, (before, behind))
            if end == len(disk.events()):
                self.assertEqual(behind, found)
            if end == 0:
                self.assertEqual(before, found)
        return rng.choice(cuts)[1]

    def test_cuts_at_every_event(self):
        rng = random.Random(788)
        for table in (TABLE, LONG, Table(("a", "b", "c"), (("p", (0, 1)), ("q", (1, 2)), ("r", (0,))))):
            cells = (0,) * 700
            stock = (1,) + tuple(rng.choice((1, 2, 400)) for _ in table.kinds[1:])
            bounds = tuple(rng.choice((None, 5, 400)) for _ in table.types)
            started = lambda disk: start_desk(disk, table, stock, bounds)
            while error_of(Desk, Disk(cells)) is not None:
                cells = self.check_call(rng, cells, started)
            for _ in range(9):
                cells = self.check_call(rng, cells, self.some_call(rng, Desk(Disk(cells))))
            # a start in the place of a desk leaves this one or the new one
            cells = self.check_call(rng, cells, started)
            self.assertIsNone(error_of(Desk, Disk(cells)))

    def some_call(self, rng, desk):
        """Return a function that makes some call on the desk of a disk and returns the desk."""
        word = rng.choice(("come", "moving", "do", "do", "pack"))
        requests = [request for request, bound in enumerate(desk.house.bounds) if bound != 0]
        deed = random_deed(rng, desk.table, desk.house)
        request = rng.choice(requests) if requests else None

        def call(disk):
            present = Desk(disk)
            if word == "pack" or (word != "do" and request is None):
                present.pack()
            elif word == "do":
                present.do(deed)
            elif word == "come":
                present.come(request)
            else:
                present.come_moving(request)
            return present
        return call

    def test_cut_and_begun_again(self):
        """A desk that is cut and begun again, whatever the cuts, goes on as one that never was."""
        rng = random.Random(789)
        for table, stock, bounds in crossing_cases(12, 790):
            whole = start_desk(Disk((0,) * 2000), table, stock, bounds)
            disk = Disk((0,) * 2000)
            start_desk(disk, table, stock, bounds)
            cells = cells_now(disk)
            for _ in range(8):
                deed = random_deed(rng, table, whole.house)
                whole.do(deed)
                while Desk(Disk(cells)).deeds() != whole.deeds():
                    disk = Disk(cells)
                    Desk(disk).do(deed)
                    cells = rng.choice(self.cuts(rng, cells, disk.events()))[1]
                self.assertEqual(state(whole), state_on(cells))

    def test_with_just_the_promised_room(self):
        rng = random.Random(791)
        deeds = (("serve", 0, 1, ()), ("serve", 0, 0, ()), ("refuse", 1))
        weight = house_weight(TABLE, House((1, 1), (None, None), ())) + 48
        cells = (0,) * cells_for(weight)
        cells = self.check_call(rng, cells, lambda disk: start_desk(disk, TABLE, (1, 1), (None, None)))
        while error_of(Desk, Disk(cells)) is not None:
            cells = self.check_call(rng, cells, lambda disk: start_desk(disk, TABLE, (1, 1), (None, None)))
        for deed in deeds:
            while deed not in Desk(Disk(cells)).deeds():
                def call(disk, deed=deed):
                    desk = Desk(disk)
                    desk.do(deed)
                    return desk
                cells = self.check_call(rng, cells, call)
        self.assertEqual(deeds, Desk(Disk(cells)).deeds())

    def test_reading_makes_no_events(self):
        disk = Disk((0,) * 600)
        desk = start_desk(disk, TABLE, (1, 1), (None, None))
        desk.come(0)
        events = disk.events()
        again = Desk(disk)
        again.deeds()
        again.begun()
        error_of(again.do, None)
        self.assertEqual(events, disk.events())
        self.assertEqual((), pending_places(events))


class RegretTest(unittest.TestCase):
    def test_forests_never_regret(self):
        """If no kinds cross, no refusal by `come` is a regret, though the disk is cut and bounds fall."""
        rng = random.Random(792)
        refused = 0
        tables = [table for table in random_tables(150, 793, 4, 4) if not has_crossing(table) and table.types][:45]
        for table in tables:
            stock = tuple(rng.choice((0, 1, 1, 2)) for _ in table.kinds)
            bounds = tuple(rng.choice((None, None, 3, 2)) for _ in table.types)
            disk = Disk((0,) * 3000)
            start_desk(disk, table, stock, bounds)
            cells = cells_now(disk)
            row = ()
            most_of = meaning_of(table)
            for _ in range(9):
                disk = Disk(cells)
                desk = Desk(disk)
                request = rng.randrange(len(table.types))
                house = desk.house
                if house.bounds[request] == 0:
                    continue
                if rng.random() < 0.15:
                    # lesser bounds
                    desk.do(("bounds", tuple(2 if bound is None else max(0, bound - rng.randint(0, 1))
                                             for bound in house.bounds)))
                elif rng.random() < 0.1:
                    desk.do(("refuse", request))
                elif desk.come(request)[0] == "refuse":
                    refused += 1
                    self.assertFalse(is_regret(table, house, request))
                    # no better than those who are there
                    there = tuple(guest[1] for guest in house.guests)
                    self.assertLess(most_of(stock, there + (request,)), len(there) + 1)
                else:
                    row += (request,)
                cells = cells_now(disk)
                if rng.random() < 0.3:
                    Desk(disk).pack()
                    cells = cells_now(disk)
        self.assertGreater(refused, 60)

    def test_moving_never_regrets(self):
        rng = random.Random(794)
        refused = 0
        for table, stock, bounds in crossing_cases(40, 795):
            desk = start_desk(Disk((0,) * 5000), table, stock, (None,) * len(bounds))
            for _ in range(12):
                request = rng.randrange(len(table.types))
                house = desk.house
                if desk.come_moving(request)[0] == "refuse":
                    refused += 1
                    self.assertFalse(is_regret(table, house, request))
                if desk.house.guests and rng.random() < 0.3:
                    desk.do(("leave", rng.choice(desk.house.guests)[0]))
        self.assertGreater(refused, 60)

    def test_large(self):
        rng = random.Random(796)
        table = max([random_table(rng, 8, 12) for _ in range(5)], key=lambda table: len(table.types))
        disk = Disk((0,) * 20000)
        desk = start_desk(disk, table, (50,) * len(table.kinds), (None,) * len(table.types))
        for _ in range(300):
            desk.come_moving(rng.randrange(len(table.types)))
        self.assertEqual(state(desk), state_on(cells_now(disk)))
        desk.pack()
        self.assertEqual(state(desk), state_on(cells_now(disk)))


if __name__ == "__main__":
    unittest.main()
