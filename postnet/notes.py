"""Lines: a net written as texts, and read from them."""

from postnet.errors import BadPost, NoNet
from postnet.layers import layers
from postnet.posts import check_net

FIGURES = "0123456789"


# Figure by figure, here and in number_of: a width may be any number, but
# Python's own way between numbers and texts refuses some thousand figures.
def figures_of(number):
    """The text of a number that is nought or more."""
    figures = []
    while number > 9:
        figures.append(FIGURES[number % 10])
        number = number // 10
    figures.append(FIGURES[number])
    return "".join(reversed(figures))


def number_of(text):
    """The number that is written as this text. Refuses with NoNet what figures_of doesn't write."""
    if text == "" or (text[0] == "0" and text != "0"):
        raise NoNet("a number has figures, the first of which is no nought but for nought itself")
    number = 0
    for sign in text:
        # Not isdigit, which takes figures of other scripts too.
        if sign not in FIGURES:
            raise NoNet("a number has figures alone")
        number = 10 * number + int(sign)
    return number


def post_of(text):
    """The two numbers of a post. Refuses with NoNet what isn't written as a post."""
    lanes = text.split(":")
    if len(lanes) != 2:
        raise NoNet("a post is two lanes with a colon between")
    return (number_of(lanes[0]), number_of(lanes[1]))


def line_of(layer):
    """The posts of a layer as one line."""
    return " ".join([figures_of(low) + ":" + figures_of(high) for low, high in layer])


# The layers come first, as they refuse what is no net.
def shown(width, posts):
    """The lines of a net: its width, then its layers."""
    found = layers(width, posts)
    return [figures_of(width)] + [line_of(layer) for layer in found]


def read(lines):
    """The width and the posts that the lines tell. Refuses with NoNet what tells no net."""
    if len(lines) == 0:
        raise NoNet("the width is missing")
    width = number_of(lines[0])
    posts = []
    for line in lines[1:]:
        posts.extend([post_of(text) for text in line.split(" ")])
    try:
        check_net(width, posts)
    except BadPost as e:
        raise NoNet("the lines tell a width below one or a post that is none") from e
    return (width, posts)
