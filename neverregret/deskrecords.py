"""Records of a desk's journal: one of a table and a house, then one for each deed.

Each begins with an octet that tells what it is. Numbers that may be above 255 take two octets.
"""

from neverregret.errors import InvalidText
from neverregret.houses import House, are_guests
from neverregret.printer import show_table
from neverregret.reader import read_table

HOUSE_MARK = 6
DEED_MARKS = {"serve": 1, "refuse": 2, "leave": 3, "move": 4, "bounds": 5}
SIGNS = "abcdefghijklmnopqrstuvwxyz: \n"
NO_BOUND = 65535


def number_octets(numbers):
    """Return the list of two octets for each number, or for `None`."""
    octets = []
    for number in numbers:
        told = NO_BOUND if number is None else number
        octets.extend([told // 256, told % 256])
    return octets


def numbers_told(octets):
    """Return the tuple of the numbers that pairs of octets tell."""
    return tuple([256 * octets[at] + octets[at + 1] for at in range(0, len(octets), 2)])


def bounds_told(octets):
    """Return the bounds that pairs of octets tell."""
    return tuple([None if number == NO_BOUND else number for number in numbers_told(octets)])


def house_record(table, house):
    """Return the record of a table and a house."""
    text = show_table(table)
    record = [HOUSE_MARK] + number_octets((len(text),)) + [SIGNS.index(sign) for sign in text]
    record.extend(number_octets(house.stock) + number_octets(house.bounds))
    for number, request, kind in house.guests:
        record.extend(number_octets((number,)) + [request, kind])
    return tuple(record)


def table_and_house(record):
    """Return the pair of the table and the house that a record tells, `None` if it tells none."""
    if len(record) < 3 or record[0] != HOUSE_MARK:
        return None
    behind = 3 + numbers_told(record[1:3])[0]
    table = table_told(record[3:behind])
    if table is None:
        return None
    middle = behind + 2 * len(table.kinds)
    end = middle + 2 * len(table.types)
    if len(record) < end or (len(record) - end) % 4 != 0:
        return None
    guests = []
    for at in range(end, len(record), 4):
        guests.append(numbers_told(record[at:at + 2]) + record[at + 2:at + 4])
    house = House(numbers_told(record[behind:middle]), bounds_told(record[middle:end]), tuple(guests))
    # the text of a table can be written in other ways, but no desk does
    is_told = are_guests(table, house.guests) and house_record(table, house) == record
    return (table, house) if is_told else None


def table_told(octets):
    """Return the table that octets tell by its text, `None` if they tell none."""
    if any([octet >= len(SIGNS) for octet in octets]):
        return None
    text = "".join([SIGNS[octet] for octet in octets])
    try:
        return read_table(text)
    except InvalidText:
        return None


def deed_record(deed):
    """Return the record of a deed."""
    word = deed[0]
    record = [DEED_MARKS[word]]
    if word == "serve":
        record.extend([deed[1], deed[2]] + move_octets(deed[3]))
    elif word == "refuse":
        record.append(deed[1])
    elif word == "leave":
        record.extend(number_octets((deed[1],)))
    elif word == "move":
        record.extend(move_octets(deed[1]))
    else:
        record.extend(number_octets(deed[1]))
    return tuple(record)


def move_octets(moves):
    """Return the list of three octets for each move."""
    octets = []
    for number, kind in moves:
        octets.extend(number_octets((number,)) + [kind])
    return octets


def moves_told(octets):
    """Return the moves that octets tell."""
    return tuple([numbers_told(octets[at:at + 2]) + (octets[at + 2],) for at in range(0, len(octets), 3)])


def deed_told(record):
    """Return what a record tells as a deed, `None` if it tells none; whether it can be done is not looked at."""
    mark = record[0] if record else 0
    octets = record[1:]
    if mark == DEED_MARKS["serve"] and len(octets) >= 2 and len(octets) % 3 == 2:
        return "serve", octets[0], octets[1], moves_told(octets[2:])
    if mark == DEED_MARKS["refuse"] and len(octets) == 1:
        return "refuse", octets[0]
    if mark == DEED_MARKS["leave"] and len(octets) == 2:
        return "leave", numbers_told(octets)[0]
    if mark == DEED_MARKS["move"] and len(octets) % 3 == 0:
        return "move", moves_told(octets)
    if mark == DEED_MARKS["bounds"] and len(octets) % 2 == 0:
        return "bounds", bounds_told(octets)
    return None
