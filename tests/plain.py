"""The document's definitions written once more, naively, to test the program against them."""

from itertools import product

from fairsplit.heaps import in_heaps
from fairsplit.worths import envies, fair, gains

MOST = 1000000000000

# What is no number at all, for bids and for goods.
NO_NUMBERS = (True, False, "1", "", None, [], [1], (), (1,), 1.0)


def plain_gain(bids, heaps, sums, person, other):
    worth = 0
    for good in heaps[other]:
        worth = worth + bids[person][good]
    return worth * len(bids) - sums[other]


def plain_envies(bids, heaps, sums):
    people = range(len(bids))
    return [
        (person, other)
        for person, other in product(people, people)
        if plain_gain(bids, heaps, sums, person, other) > plain_gain(bids, heaps, sums, person, person)
    ]


def all_bids(people, goods, amounts):
    """All bids of so many people for so many goods that are made of these amounts."""
    rows = [list(row) for row in product(amounts, repeat=goods)]
    return [[list(row) for row in bids] for bids in product(rows, repeat=people)]


def fitting(bids):
    """Heaps and sums of the right numbers, whatever the bids are."""
    return [[] for _ in bids], [0 for _ in bids]


def takers():
    """What takes bids, each as a function of the bids alone, with and without a fitting deal."""
    return {
        "gains": lambda bids: gains(bids, *fitting(bids)),
        "envies": lambda bids: envies(bids, *fitting(bids)),
        "fair": lambda bids: fair(bids, *fitting(bids)),
        "in_heaps": in_heaps,
        "gains without a deal": lambda bids: gains(bids, [["x"]] * 12, []),
        "envies without a deal": lambda bids: envies(bids, [["x"]] * 12, []),
        "fair without a deal": lambda bids: fair(bids, [["x"]] * 12, []),
    }
