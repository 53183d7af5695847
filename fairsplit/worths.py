"""What heaps are worth, what people gain by a deal, and whether it is fair."""

from fairsplit.checks import check_bids, is_place
from fairsplit.errors import NoDeal


def worth(row, heap):
    """Tell what the heap is worth to the person whose bids the row holds."""
    # Nothing is refused here: what is no good has no bid that could be added.
    return sum([row[good] for good in heap if is_place(good, len(row))])


def gains(bids, heaps, sums):
    """Tell what each person gains, in shares, by their own heap and sum."""
    check_deal(bids, heaps, sums)
    return [gain_by(bids, heaps, sums, person, person) for person in range(len(bids))]


def envies(bids, heaps, sums):
    """Tell all pairs of a person and another one with whom they would change."""
    check_deal(bids, heaps, sums)
    return changes(bids, heaps, sums)


def fair(bids, heaps, sums):
    """Tell whether the heaps and sums are a fair deal."""
    check_bids(bids)
    if not fits(bids, heaps, sums):
        return False
    if not all_given(heaps, len(bids[0])):
        return False
    return sum(sums) == 0 and len(changes(bids, heaps, sums)) == 0


def check_deal(bids, heaps, sums):
    """Refuse what are no bids, and then heaps and sums that don't fit them."""
    check_bids(bids)
    if not fits(bids, heaps, sums):
        raise NoDeal("the heaps and sums don't fit the people and the goods")


def fits(bids, heaps, sums):
    """Tell whether each person has a heap and a sum, and only goods stand in the heaps."""
    if len(heaps) != len(bids) or len(sums) != len(bids):
        return False
    goods = len(bids[0])
    return all([is_place(thing, goods) for heap in heaps for thing in heap])


def all_given(heaps, goods):
    """Tell whether each of so many goods stands in just one heap, once."""
    return sorted([good for heap in heaps for good in heap]) == list(range(goods))


def gain_by(bids, heaps, sums, person, other):
    """Tell what the person would gain by the other one's heap and sum."""
    return worth(bids[person], heaps[other]) * len(bids) - sums[other]


def changes(bids, heaps, sums):
    """List the pairs of a person and another one by whose heap and sum they gain more."""
    found = []
    for person in range(len(bids)):
        own = gain_by(bids, heaps, sums, person, person)
        for other in range(len(bids)):
            if gain_by(bids, heaps, sums, person, other) > own:
                found.append((person, other))
    return found
