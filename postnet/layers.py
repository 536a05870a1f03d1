"""Layers: posts that can work at once."""

from postnet.posts import check_net


# A dict of the lanes with posts alone: a net that was read from lines may
# have far more lanes than could be listed.
def layer_numbers(posts):
    """The number of each post's layer, counted from nought."""
    layer_behind = {}
    numbers = []
    for low, high in posts:
        number = max(layer_behind.get(low, 0), layer_behind.get(high, 0))
        layer_behind[low] = number + 1
        layer_behind[high] = number + 1
        numbers.append(number)
    return numbers


def layers(width, posts):
    """The posts of each layer, in the order of Python's tuples."""
    check_net(width, posts)
    found = []
    for post, number in zip(posts, layer_numbers(posts)):
        if number == len(found):
            found.append([])
        found[number].append(post)
    return [sorted(layer) for layer in found]


def share_lane(post, other):
    """True where two posts stand on a lane together, else False."""
    return post[0] in other or post[1] in other


# From the last layer down: a post is in its layer because an earlier post
# of the layer ahead shares a lane with it, so there is always a next one.
def chain(width, posts):
    """The numbers, rising, of one post of each layer, each on a lane together with the next one."""
    check_net(width, posts)
    numbers = layer_numbers(posts)
    wanted = max(numbers, default=-1)
    falling = []
    for number in range(len(posts) - 1, -1, -1):
        if numbers[number] == wanted and (falling == [] or share_lane(posts[number], posts[falling[-1]])):
            falling.append(number)
            wanted = wanted - 1
    return list(reversed(falling))
