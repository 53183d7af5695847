"""Deals in which people may get any number of goods."""

from fairsplit.checks import check_bids
from fairsplit.worths import worth


def in_heaps(bids):
    """Divide the goods in heaps: a pair of the heaps and the sums."""
    check_bids(bids)
    heaps = given(bids)
    worths = [worth(row, heap) for row, heap in zip(bids, heaps)]
    together = sum(worths)
    # In shares, what comes back to each person is just what all heaps are worth in units.
    sums = [own * len(bids) - together for own in worths]
    return (heaps, sums)


def given(bids):
    """Give each good to the person who bids most for it, and list the heaps."""
    heaps = [[] for row in bids]
    for good in range(len(bids[0])):
        heaps[first_of_most(bids, good)].append(good)
    return heaps


def first_of_most(bids, good):
    """Tell the first person of those who bid most for the good."""
    column = [row[good] for row in bids]
    return column.index(max(column))
