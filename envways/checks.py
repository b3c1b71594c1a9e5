"""Checks of the numbers and the ways that are handed in."""

from envways.errors import BadMost, BadWay

MOST_BEGUN = 60
WAYS = ("flat", "tied", "shared")


def is_whole(worth, low, high):
    """Whether it is a whole number from low to high."""
    # True and False are integers to Python, but no numbers here.
    if isinstance(worth, bool) or not isinstance(worth, int):
        return False
    return low <= worth <= high


def need_most(most):
    """BadMost, unless it tells how many activations may begin."""
    if not is_whole(most, 0, MOST_BEGUN):
        raise BadMost(f"most is a whole number from 0 to {MOST_BEGUN}")


def need_way(way):
    """BadWay, unless it is one of the three ways."""
    if way not in WAYS:
        raise BadWay("a way is flat, tied or shared")
