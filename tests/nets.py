"""What several test files share: known nets, and nets drawn from a seed."""

import itertools
import random

WIDTH_4 = [(0, 1), (2, 3), (0, 2), (1, 3), (1, 2)]
HUNDRED_FIGURES = 10 ** 99


def neighbours(first, last):
    """Posts between neighbours that put the lanes from first to last in order."""
    return [(lane, lane + 1) for end in range(last, first, -1) for lane in range(first, end)]


def some_nets(seed, count, most_lanes=6, most_posts=15):
    """Widths with posts, the same for the same seed, and the source to draw rows from."""
    chance = random.Random(seed)
    for _ in range(count):
        width = chance.randint(1, most_lanes)
        pairs = list(itertools.combinations(range(width), 2))
        posts = [chance.choice(pairs) for _ in range(chance.randint(0, most_posts))] if pairs else []
        yield width, posts, chance


def rows_on_lanes(width):
    """For each lane a number whose bit k is what row k of point 9 has there: all rows at once."""
    return [
        sum(1 << row for row in range(1 << width) if row >> (width - 1 - lane) & 1)
        for lane in range(width)
    ]


def acting_rows(width, posts):
    """For each post a number whose bit k tells whether the post acts at row k; and the lanes behind all."""
    lanes = rows_on_lanes(width)
    acting = []
    for low, high in posts:
        acting.append(lanes[low] & ~lanes[high])
        lanes[low], lanes[high] = lanes[low] & lanes[high], lanes[low] | lanes[high]
    return acting, lanes
