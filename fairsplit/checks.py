"""What bids, people and goods must be."""

from fairsplit.errors import BadBid, NoPeople, TooMany, Uneven

MOST_PEOPLE = 9
MOST_GOODS = 40
GREATEST_BID = 1000000000000


def is_number(thing):
    """Tell whether the thing is a whole number."""
    # Python counts True and False among the whole numbers, the document doesn't.
    return isinstance(thing, int) and not isinstance(thing, bool)


def is_bid(thing):
    """Tell whether the thing may stand as a bid."""
    return is_number(thing) and 0 <= thing <= GREATEST_BID


def is_place(thing, many):
    """Tell whether the thing is the number of one of so many, counted from nought."""
    return is_number(thing) and 0 <= thing < many


def check_line(line, many):
    """Refuse a line of bids (a row or a column) that has not so many bids, or a bad one."""
    if len(line) != many:
        raise Uneven("there are more or fewer bids than there must be")
    for bid in line:
        if not is_bid(bid):
            raise BadBid("a bid is a whole number from 0 to 1000000000000")


def check_bids(bids):
    """Refuse what are no bids."""
    if len(bids) == 0:
        raise NoPeople("there is no row of bids")
    if len(bids) > MOST_PEOPLE:
        raise TooMany("there are more than 9 people")
    many = len(bids[0])
    if many > MOST_GOODS:
        raise TooMany("there are more than 40 goods")
    for row in bids:
        check_line(row, many)
