"""Webs, numbers and ways of asking that several test files share."""

import contextlib
import itertools
import random
import signal
import unittest

BIG = 10 ** 70 - 1

ONE = (1, [])
PATH = (3, [(0, 1), (1, 2)])
DOUBLE = (2, [(0, 1), (0, 1), (0, 1)])
TRIANGLE = (3, [(0, 1), (0, 2), (1, 2)])
SQUARE = (4, [(0, 1), (1, 2), (2, 3), (0, 3)])
WHOLE_FOUR = (4, list(itertools.combinations(range(4), 2)))
KITE = (4, [(0, 1), (0, 1), (0, 2), (1, 2), (2, 3), (2, 3)])
RING = (8, [(k, (k + 1) % 8) for k in range(8)])
LONG = (8, [(k, k + 1) for k in range(7)])
HEAVY = (8, [(k, k + 1) for k in range(7)] + [(6, 7)] * 9)
FULL = (8, [(k, (k + 1) % 8) for k in range(8)] + [(k, (k + 3) % 8) for k in range(8)])

ALL = [ONE, PATH, DOUBLE, TRIANGLE, KITE, RING, FULL]


def ring_number(shape):
    return len(shape[1]) - shape[0] + 1


def ends_across(ties, house):
    """The houses at the other ends of a house's ties, each as often as there are ties."""
    return [b for a, b in ties if a == house] + [a for a, b in ties if b == house]


def is_joined(houses, ties):
    """Whether one piece is left when the pieces at both ends of each tie are made one."""
    piece = list(range(houses))
    for one, other in ties:
        gone, kept = piece[one], piece[other]
        piece = [kept if mark == gone else mark for mark in piece]
    return len(set(piece)) == 1


def draw(seed, many, reach):
    """The same numbers for the same seed, so that a failing test fails each time."""
    source = random.Random(seed)
    return [source.randint(-reach, reach) for place in range(many)]


def with_sum_of(standing, sample):
    """The standing, with house 0 changed so that its sum is that of the sample."""
    return [standing[0] + sum(sample) - sum(standing)] + standing[1:]


def with_sum(standing, total):
    return with_sum_of(standing, [total])


def wrong_lengths(houses):
    return [[0] * k for k in range(houses + 3) if k != houses] + [[BIG] * (houses + 20)]


def wrong_orders(houses):
    """Lists that are not all houses, each once: of other lengths, with a house twice, with no house."""
    right = list(range(houses))
    told = [right[1:], right[:-1], right + [0], right + [houses], right + right, right + [-1]]
    told += [right[:-1] + [wrong] for wrong in (houses, -1, -houses, BIG, -BIG)]
    told += [right[1:] + [wrong] for wrong in right[1:] + [houses]]
    return told


def behind_by_point_seven(houses, ties, standing, script):
    """The standing behind a script, house by house in the document's words."""
    told = []
    for house in range(houses):
        across = ends_across(ties, house)
        told.append(standing[house] - len(across) * script[house] + sum(script[end] for end in across))
    return told


def queue_by_point_twelve(houses, ties, standing, house):
    """The queue in the document's words: each time all that may join are looked for, and the least one joins."""
    told = [house]
    while True:
        may_join = []
        for other in range(houses):
            inside = [end for end in ends_across(ties, other) if end in told]
            if other not in told and standing[other] < len(inside):
                may_join.append(other)
        if not may_join:
            return told
        told.append(min(may_join))


def groups_without(houses, house):
    rest = [other for other in range(houses) if other != house]
    for many in range(1, houses):
        for group in itertools.combinations(rest, many):
            yield list(group)


def bound_by_point_seventeen(houses, ties, order):
    """For each house its ties to houses ahead of it in the order, less one."""
    told = []
    for house in range(houses):
        ahead = order[:order.index(house)]
        told.append(len([end for end in ends_across(ties, house) if end in ahead]) - 1)
    return told


def all_of_sum(houses, total):
    """All lists of numbers from nought on of that sum."""
    if houses == 1:
        return [[total]] if total >= 0 else []
    return [[first] + rest for first in range(total + 1) for rest in all_of_sum(houses - 1, total - first)]


@contextlib.contextmanager
def at_once(seconds=60):
    """Fails where what is done within takes long, as lending coin by coin does with great numbers."""
    def late(number, frame):
        raise AssertionError("this takes too long")

    before = signal.signal(signal.SIGALRM, late)
    signal.alarm(seconds)
    try:
        yield
    finally:
        signal.alarm(0)
        signal.signal(signal.SIGALRM, before)


class PromptTest(unittest.TestCase):
    """Tests of answers that are to come at once: one that would not end fails."""

    def setUp(self):
        self.enterContext(at_once())
