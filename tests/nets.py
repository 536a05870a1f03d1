"""What several test files share: known nets, and nets drawn from a seed."""

import itertools
import random

WIDTH_4 = [(0, 1), (2, 3), (0, 2), (1, 3), (1, 2)]
HUNDRED_FIGURES = 10 ** 99


def some_nets(seed, count, most_lanes=6, most_posts=15):
    """Widths with posts, the same for the same seed, and the source to draw rows from."""
    chance = random.Random(seed)
    for _ in range(count):
        width = chance.randint(1, most_lanes)
        pairs = list(itertools.combinations(range(width), 2))
        posts = [chance.choice(pairs) for _ in range(chance.randint(0, most_posts))] if pairs else []
        yield width, posts, chance
