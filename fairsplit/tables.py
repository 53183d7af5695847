"""A table: bids that change by deeds, which can be taken back."""

from fairsplit.checks import MOST_GOODS, MOST_PEOPLE, check_line, is_bid, is_place
from fairsplit.errors import BadBid, NoGood, NoPerson, TooMany
from fairsplit.heaps import in_heaps
from fairsplit.rooms import in_rooms


class Table:
    """People and goods that come and go, with the bids as they stand."""

    def __init__(self):
        self._rows = []
        # Goods may stand where nobody is, and then no row tells how many.
        self._goods = 0
        self._before = []

    def come(self, row):
        """Let one person more come, with that row of bids."""
        if len(self._rows) >= MOST_PEOPLE:
            raise TooMany("there are 9 people already")
        check_line(row, self._goods)
        self._change(self._rows + [list(row)], self._goods)

    def leave(self, person):
        """Let the person go, with their row."""
        self._check_person(person)
        self._change(self._rows[:person] + self._rows[person + 1:], self._goods)

    def put(self, column):
        """Put one good more, with one bid by each person."""
        if self._goods >= MOST_GOODS:
            raise TooMany("there are 40 goods already")
        check_line(column, len(self._rows))
        self._change([row + [amount] for row, amount in zip(self._rows, column)], self._goods + 1)

    def take(self, good):
        """Take the good away, from all rows."""
        self._check_good(good)
        self._change([row[:good] + row[good + 1:] for row in self._rows], self._goods - 1)

    def bid(self, person, good, amount):
        """Let the person's bid for the good be the amount from now on."""
        self._check_person(person)
        self._check_good(good)
        if not is_bid(amount):
            raise BadBid("a bid is a whole number from 0 to 1000000000000")
        row = list(self._rows[person])
        row[good] = amount
        self._change(self._rows[:person] + [row] + self._rows[person + 1:], self._goods)

    def back(self):
        """Take the last deed back; tell whether there was one."""
        if len(self._before) == 0:
            return False
        self._rows, self._goods = self._before.pop()
        return True

    def rows(self):
        """Tell the bids as they stand."""
        return [list(row) for row in self._rows]

    def in_heaps(self):
        """Divide the goods in heaps, by the bids as they stand."""
        return in_heaps(self._rows)

    def in_rooms(self):
        """Divide the goods in rooms, by the bids as they stand."""
        return in_rooms(self._rows)

    def _change(self, rows, goods):
        """Do a deed: keep what stands, and let these stand from now on."""
        # What is kept may have rows in common with what stands, so a deed makes new lists and changes none.
        self._before.append((self._rows, self._goods))
        self._rows = rows
        self._goods = goods

    def _check_person(self, person):
        """Refuse what is no person's number."""
        if not is_place(person, len(self._rows)):
            raise NoPerson("it is not the number of a person")

    def _check_good(self, good):
        """Refuse what is no good's number."""
        if not is_place(good, self._goods):
            raise NoGood("it is not the number of a good")
