"""Thinning: which posts of a net ever act."""

from postnet.bits import bit_rows, check_trial
from postnet.posts import pass_post


def rows_acting(width, posts):
    """For each post the first row of noughts and ones at which it acts; None where there is none."""
    check_trial(width, posts)
    first_rows = [None] * len(posts)
    for row in bit_rows(width):
        lanes = list(row)
        for number, post in enumerate(posts):
            if pass_post(post[0], post[1], lanes) and first_rows[number] is None:
                # A copy, as several posts may first act at the same row.
                first_rows[number] = list(row)
    return first_rows


def thinned(width, posts):
    """The posts that act at some row, in their order."""
    return [post for post, row in zip(posts, rows_acting(width, posts)) if row is not None]


def is_lean(width, posts):
    """True where each post acts at some row, else False."""
    return None not in rows_acting(width, posts)
