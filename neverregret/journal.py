"""A journal of records on a disk, which may be cut anywhere.

The first cell selects, by whether its octet is even or odd, one of two banks of equal size. A bank holds a
chain of records: each is a mark that is not 0, two octets of its length, and its octets. A 0 where a mark is
looked for, or the end of the bank, ends the chain.

A cut can leave any octets at all places put since the last flush. So what is in use is never put over, but for
one single cell at the end of each call: the mark behind the chain, or the selector. Whatever octet a cut
leaves there means either what was before, or what comes then, and all else was made last before.
"""

from neverregret.errors import Broken, Refused

HEAD = 3


class Journal:
    """The records that lie on a disk."""

    def __init__(self, disk):
        self.disk = disk
        self.bank = disk.look(0) % 2
        self.end = chain_end(disk, bank_begin(disk, self.bank), bank_end(disk, self.bank))

    def records(self):
        """Return the tuple of all records."""
        found = []
        at = bank_begin(self.disk, self.bank)
        while at < self.end:
            behind = behind_link(self.disk, at)
            found.append(tuple([self.disk.look(place) for place in range(at + HEAD, behind)]))
            at = behind
        return tuple(found)

    def write(self, record):
        """Add a record behind all others."""
        chain = link_of(record)
        behind = self.end + len(chain)
        stop = bank_end(self.disk, self.bank)
        if behind > stop:
            raise Refused("room")
        put_chain(self.disk, self.end + 1, chain[1:], stop)
        self.disk.flush()
        self.disk.put(self.end, chain[0])
        self.disk.flush()
        self.end = behind

    def renew(self, records):
        """Put these records in the place of all."""
        chain = []
        for record in records:
            chain.extend(link_of(record))
        bank = 1 - self.bank
        begin = bank_begin(self.disk, bank)
        stop = bank_end(self.disk, bank)
        if begin + len(chain) > stop:
            raise Refused("room")
        put_chain(self.disk, begin, chain, stop)
        self.disk.flush()
        self.disk.put(0, bank)
        self.disk.flush()
        self.bank = bank
        self.end = begin + len(chain)


def bank_begin(disk, bank):
    """Return the first place of a bank."""
    return 1 + bank * ((len(disk.cells) - 1) // 2)


def bank_end(disk, bank):
    """Return the place behind a bank."""
    return bank_begin(disk, bank + 1)


def behind_link(disk, at):
    """Return the place behind the record whose mark is at a place."""
    return at + HEAD + 256 * disk.look(at + 1) + disk.look(at + 2)


def chain_end(disk, begin, stop):
    """Return the place behind the chain of records that begins at a place, before the end of its bank."""
    at = begin
    while at < stop and disk.look(at) != 0:
        if at + HEAD > stop or behind_link(disk, at) > stop:
            raise Broken("journal")
        at = behind_link(disk, at)
    return at


def link_of(record):
    """Return the octets of a record in a chain. No longer one has room, so two octets of length are enough."""
    return [1, len(record) // 256, len(record) % 256] + list(record)


def put_chain(disk, begin, octets, stop):
    """Put octets from a place on, and the 0 that ends the chain behind them if the bank has a place for it."""
    for at, octet in enumerate(octets):
        disk.put(begin + at, octet)
    if begin + len(octets) < stop:
        disk.put(begin + len(octets), 0)
