"""Noughts and ones: rows of them tell whether a net sorts."""

from postnet.errors import TooWide
from postnet.posts import check_net, passed

MOST_LANES_TRIED = 12


def as_bits(row, mark):
    """A one for each number of the row that is the mark or more, else a nought."""
    return [1 if number >= mark else 0 for number in row]


def is_rising(row):
    """True where no number of the row is greater than the next one, else False."""
    for lane in range(len(row) - 1):
        if row[lane] > row[lane + 1]:
            return False
    return True


def check_trial(width, posts):
    """Refuse with BadPost what is no net, then with TooWide one that has too many rows to try."""
    check_net(width, posts)
    if width > MOST_LANES_TRIED:
        raise TooWide(f"all rows are tried for {MOST_LANES_TRIED} lanes at most")


# The first lane's figure is the greatest, so all rows that begin with a
# nought come ahead of all that begin with a one.
def bit_rows(width):
    """All rows of noughts and ones of a width, in the order of the binary numbers that they are."""
    rows = [[]]
    for lane in range(width):
        rows = [[0] + row for row in rows] + [[1] + row for row in rows]
    return rows


def first_unsorted(width, posts):
    """The first row of noughts and ones that the net doesn't sort; None where there is none."""
    check_trial(width, posts)
    for row in bit_rows(width):
        if not is_rising(passed(posts, row)):
            return row
    return None


def sorts(width, posts):
    """True where the net sorts every row, else False."""
    return first_unsorted(width, posts) is None
