"""Deals in which each person gets one good or none."""

from fairsplit.checks import check_bids
from fairsplit.errors import TooMany


def in_rooms(bids):
    """Divide the goods in rooms: a pair of the heaps and the sums."""
    check_bids(bids)
    people = len(bids)
    goods = len(bids[0])
    if goods > people:
        raise TooMany("there are more goods than people")
    # Empty rooms, for which everybody bids nought, stand behind the goods: so each person takes just one room.
    rows = [row + [0] * (people - goods) for row in bids]
    rooms = best_rooms(rows)
    paid = prices(rows, rooms)
    heaps = [[room] if room < goods else [] for room in rooms]
    # In shares, what comes back to each person is just what all pay together in units.
    sums = [price * people - sum(paid) for price in paid]
    return (heaps, sums)


def best_rooms(rows):
    """List for each person a room, all different, so that these are worth most together."""
    # To each set of rooms that the people so far may take stands the best way only: these are few, the ways many.
    # A set is a number whose bits are the rooms.
    best = {0: (0, [])}
    for row in rows:
        best = with_one_more(best, row)
    every_room = (1 << len(rows)) - 1
    _, rooms = best[every_room]
    return rooms


def with_one_more(best, row):
    """Tell the best way to each set of rooms when a person with that row takes one more."""
    found = {}
    for taken, (together, rooms) in best.items():
        for room in range(len(row)):
            if taken & (1 << room) == 0:
                more = taken | (1 << room)
                amount = together + row[room]
                if more not in found or amount > found[more][0]:
                    found[more] = (amount, rooms + [room])
    return found


def prices(rows, rooms):
    """Tell what each person pays for their room, in units, so that nobody would change."""
    paid = [0 for row in rows]
    # A rise is passed on from person to person. It never comes back to whom it began with, since no other way is
    # worth more: so there are no more rounds to go than people.
    for _ in range(len(rows)):
        for person in range(len(rows)):
            for other in range(len(rows)):
                dearer = rows[person][rooms[other]] - rows[person][rooms[person]]
                paid[other] = max(paid[other], paid[person] + dearer)
    return paid
