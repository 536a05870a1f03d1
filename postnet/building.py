"""Building: nets that sort, for any width."""

from postnet.posts import check_net


def merging(first, count, step):
    """The posts that merge every step-th of a count of lanes from the first one on."""
    if 2 * step >= count:
        return [(first, first + step)]
    even = merging(first, count, 2 * step)
    odd = merging(first + step, count, 2 * step)
    between = [(lane, lane + step) for lane in range(first + step, first + count - step, 2 * step)]
    return even + odd + between


def by_halves(first, count):
    """The posts that sort a count of lanes, a power of two, from the first one on."""
    if count == 1:
        return []
    half = count // 2
    return by_halves(first, half) + by_halves(first + half, half) + merging(first, count, 1)


def built(width):
    """The posts of the net that is built by halves."""
    check_net(width, [])
    count = 1
    while count < width:
        count = 2 * count
    return [(low, high) for low, high in by_halves(0, count) if high < width]


def plain(width):
    """The posts of the plain net, which has neighbours alone."""
    check_net(width, [])
    posts = []
    for last in range(width - 1, 0, -1):
        posts.extend([(lane, lane + 1) for lane in range(last)])
    return posts
