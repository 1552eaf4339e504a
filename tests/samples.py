"""Webs and numbers that several test files share."""

import random

BIG = 10 ** 70 - 1

ONE = (1, [])
PATH = (3, [(0, 1), (1, 2)])
DOUBLE = (2, [(0, 1), (0, 1), (0, 1)])
TRIANGLE = (3, [(0, 1), (0, 2), (1, 2)])
KITE = (4, [(0, 1), (0, 1), (0, 2), (1, 2), (2, 3), (2, 3)])
RING = (8, [(k, (k + 1) % 8) for k in range(8)])
FULL = (8, [(k, (k + 1) % 8) for k in range(8)] + [(k, (k + 3) % 8) for k in range(8)])

ALL = [ONE, PATH, DOUBLE, TRIANGLE, KITE, RING, FULL]


def ends_across(ties, house):
    """The houses at the other ends of a house's ties, each as often as there are ties."""
    return [b for a, b in ties if a == house] + [a for a, b in ties if b == house]


def is_joined(houses, ties):
    """Whether one piece is left when the pieces at both ends of each tie are made one."""
    piece = list(range(houses))
    for one, other in ties:
        gone, kept = piece[one], piece[other]
        piece = [kept if mark == gone else mark for mark in piece]
    return len(set(piece)) == 1


def draw(seed, many, reach):
    """The same numbers for the same seed, so that a failing test fails each time."""
    source = random.Random(seed)
    return [source.randint(-reach, reach) for place in range(many)]
