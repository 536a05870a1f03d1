"""Lanes and posts: how a row passes a net, and the mirror of a net."""

from postnet.errors import BadPost, BadRow


# The refusals name a post by where it stands: its own numbers may be too
# long for Python to write out, which would raise another error.
def check_net(width, posts):
    """Refuse with BadPost what is no net."""
    if width < 1:
        raise BadPost("a net has one lane at least")
    for number, post in enumerate(posts):
        if not 0 <= post[0] < post[1] < width:
            raise BadPost(f"post {number} does not lead from a lane to a later lane")


def check_row(width, posts, row):
    """Refuse with BadPost what is no net, then with BadRow what is no row for it."""
    check_net(width, posts)
    if len(row) != width:
        raise BadRow("a row has one number for each lane")


def pass_post(low, high, lanes):
    """Let the numbers on the lanes pass a post, in place; True where it acts, else False."""
    if lanes[low] <= lanes[high]:
        return False
    greater = lanes[low]
    lanes[low] = lanes[high]
    lanes[high] = greater
    return True


# Apart from run, so that trying many rows checks their net only once.
def passed(posts, row):
    """The row behind all posts, for a net and a row that are checked already."""
    lanes = list(row)
    for low, high in posts:
        pass_post(low, high, lanes)
    return lanes


def run(width, posts, row):
    """The row behind all posts."""
    check_row(width, posts, row)
    return passed(posts, row)


def walked(width, posts, row):
    """The row behind each post, and the numbers of the posts that act."""
    check_row(width, posts, row)
    lanes = list(row)
    rows = []
    acting = []
    for number, post in enumerate(posts):
        if pass_post(post[0], post[1], lanes):
            acting.append(number)
        rows.append(list(lanes))
    return (rows, acting)


def mirrored(width, posts):
    """The posts of the net's mirror."""
    check_net(width, posts)
    return [(width - 1 - high, width - 1 - low) for low, high in posts]
