"""The document's definitions written once more, naively, to test the program against them."""

import unittest
from itertools import permutations, product

from fairsplit.heaps import in_heaps
from fairsplit.notes import shown
from fairsplit.rooms import in_rooms
from fairsplit.tables import Table
from fairsplit.worths import envies, fair, gains

MOST = 1000000000000

# What is no number at all, for bids and for goods.
NO_NUMBERS = (True, False, "1", "", None, [], [1], (), (1,), 1.0)


class Case(unittest.TestCase):
    def refuses(self, kind, asked, *told):
        """Look whether just this kind of refusal is told: assertRaises alone would take one below it, too."""
        with self.assertRaises(kind) as caught:
            asked(*told)
        self.assertIs(caught.exception.__class__, kind)


def plain_gain(bids, heaps, sums, person, other):
    worth = 0
    for good in heaps[other]:
        worth = worth + bids[person][good]
    return worth * len(bids) - sums[other]


def plain_envies(bids, heaps, sums):
    people = range(len(bids))
    return [
        (person, other)
        for person, other in product(people, people)
        if plain_gain(bids, heaps, sums, person, other) > plain_gain(bids, heaps, sums, person, person)
    ]


def all_bids(people, goods, amounts):
    """All bids of so many people for so many goods that are made of these amounts."""
    rows = [list(row) for row in product(amounts, repeat=goods)]
    return [[list(row) for row in bids] for bids in product(rows, repeat=people)]


def fitting(bids):
    """Heaps and sums of the right numbers, whatever the bids are."""
    return [[] for _ in bids], [0 for _ in bids]


def takers():
    """What takes bids, each as a function of the bids alone, with and without a fitting deal."""
    return {
        "gains": lambda bids: gains(bids, *fitting(bids)),
        "envies": lambda bids: envies(bids, *fitting(bids)),
        "fair": lambda bids: fair(bids, *fitting(bids)),
        "in_heaps": in_heaps,
        "in_rooms": in_rooms,
        "shown": shown,
        "gains without a deal": lambda bids: gains(bids, [["x"]] * 12, []),
        "envies without a deal": lambda bids: envies(bids, [["x"]] * 12, []),
        "fair without a deal": lambda bids: fair(bids, [["x"]] * 12, []),
    }


def plain_together(bids, heaps):
    """What all heaps are worth together, each to its own person, in units."""
    return sum(row[good] for row, heap in zip(bids, heaps) for good in heap)


def most_in_rooms(bids):
    """What heaps of one good at most are worth together at the most, by trying all ways."""
    goods = len(bids[0])
    places = list(range(goods)) + [None] * len(bids)
    return max(
        sum(row[place] for row, place in zip(bids, way) if place is not None)
        for way in permutations(places, len(bids))
    )


def mixed_bids(people, goods, bound, start=1):
    """Bids below the bound that look as if by chance, and are the same each time."""
    bids, last = [], start
    for _ in range(people):
        row = []
        for _ in range(goods):
            last = (last * 6364136223846793005 + 1442695040888963407) % 2**64
            row.append((last >> 20) % bound)
        bids.append(row)
    return bids


def table_of(rows, goods=0):
    """A table at which these rows stand, or so many goods where there is no row."""
    table = Table()
    for _ in range(len(rows[0]) if rows else goods):
        table.put([])
    for row in rows:
        table.come(row)
    return table


def plain_number(thing, many):
    return thing.__class__ is int and thing in range(many)


def plain_bad(line):
    return [thing for thing in line if not plain_number(thing, MOST + 1)]


class PlainTable:
    """A table as a list of the deeds that stand, which are done anew each time."""

    def __init__(self):
        self.deeds = []

    def state(self):
        rows, goods = [], 0
        for name, *told in self.deeds:
            if name == "come":
                rows.append(list(told[0]))
            elif name == "leave":
                del rows[told[0]]
            elif name == "put":
                goods += 1
                for row, amount in zip(rows, told[0]):
                    row.append(amount)
            elif name == "take":
                goods -= 1
                for row in rows:
                    del row[told[0]]
            else:
                person, good, amount = told
                rows[person][good] = amount
        return rows, goods

    def due(self, name, *told):
        """The name of the refusal that is due, or None."""
        rows, goods = self.state()
        line, standing, most = {"come": (goods, len(rows), 9), "put": (len(rows), goods, 40)}.get(name, (0, 0, 1))
        if name in ("come", "put"):
            if standing == most:
                return "TooMany"
            if len(told[0]) != line:
                return "Uneven"
            return "BadBid" if plain_bad(told[0]) else None
        if name in ("leave", "bid") and not plain_number(told[0], len(rows)):
            return "NoPerson"
        if name in ("take", "bid") and not plain_number(told[-2 if name == "bid" else 0], goods):
            return "NoGood"
        return "BadBid" if name == "bid" and plain_bad([told[2]]) else None

    def do(self, name, *told):
        """Do a deed, or tell its refusal; of back, what it tells."""
        if name == "back":
            return bool(self.deeds) and bool(self.deeds.pop())
        refusal = self.due(name, *told)
        if refusal is None:
            self.deeds.append((name, *told))
        return refusal
