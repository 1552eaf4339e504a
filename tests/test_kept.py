"""Point 2: nothing handed in is changed or kept, and what is told is the asker's own."""

import copy
import unittest

from owinghall.bounds import bound, bounds, middle, room
from owinghall.clearing import clears, holds, is_cleared, paper
from owinghall.errors import OwingError
from owinghall.lendings import coins, lent, less
from owinghall.plains import plain
from owinghall.queues import is_plain, outside, queue
from owinghall.ranks import rank
from owinghall.tables import adjoint, det, small_table
from owinghall.webs import between, degree, made, rings
from owinghall.weighing import alike, kinds, shows
from tests.samples import ALL, BIG, KITE, PromptTest


def asked(question, handed):
    try:
        return question(*handed)
    except OwingError as refusal:
        return type(refusal)


def lists_in(thing):
    """Each list in a thing, itself among them, also within lists and tuples."""
    if not isinstance(thing, (list, tuple)):
        return []
    told = [thing] if isinstance(thing, list) else []
    for part in thing:
        told += lists_in(part)
    return told


def spoil(thing):
    for held in lists_in(thing):
        held.append(5)
        held[0] = 77


def stage_two(web, standing, script):
    """The questions of tables, weighing and queues about one web."""
    houses = web[0]
    last = houses - 1
    table = [[k * standing[0] + i for k in range(houses)] for i in range(houses)]
    moved = [standing[0] + 1] + standing[1:-1] + [standing[-1] - 1]
    few = [k % 2 for k in range(houses)]
    return [
        (small_table, [web]),
        (kinds, [web]),
        (det, [table]),
        (det, [[]]),
        (adjoint, [table]),
        (adjoint, [[]]),
        (adjoint, [[[7]]]),
        (alike, [web, standing, script]),
        (alike, [web, standing, standing]),
        (alike, [web, standing, lent(web, standing, script)]),
        (alike, [web, standing, moved]),
        (alike, [web, standing[1:], script]),
        (alike, [web, standing, script + [0]]),
        (shows, [web, standing, script, ("sums",)]),
        (shows, [web, standing, lent(web, standing, script), ("lent", script)]),
        (shows, [web, standing, script, ("lent", script + [1])]),
        (shows, [web, standing, moved, ("weighed", 3, [1] * houses)]),
        (shows, [web, standing, moved, ("weighed", 0, script)]),
        (shows, [web, standing, [], ("lent", script)]),
        (queue, [web, few, last]),
        (queue, [web, standing, 0]),
        (queue, [web, few, houses]),
        (outside, [web, few, last]),
        (outside, [web, standing, 0]),
        (outside, [web, standing + [0], 0]),
        (is_plain, [web, few, last]),
        (is_plain, [web, few, -1]),
    ]


def stage_three(web, standing, script):
    """The questions of plains, clearing, bounds and ranks about one web."""
    houses = web[0]
    last = houses - 1
    plain_one = [0] * last + [-3]
    owing = [-number for number in standing]
    order = [(house + 1) % houses for house in range(houses)]
    return [
        (plain, [web, standing, last]),
        (plain, [web, owing, 0]),
        (plain, [web, plain_one, last]),
        (plain, [web, standing, houses]),
        (plain, [web, standing[1:], 0]),
        (paper, [web, standing]),
        (paper, [web, owing]),
        (paper, [web, plain_one]),
        (paper, [web, standing + [0]]),
        (is_cleared, [web, standing]),
        (is_cleared, [web, []]),
        (clears, [web, standing, script]),
        (clears, [web, standing, script[1:]]),
        (clears, [web, standing[1:], script]),
        (holds, [web, owing, script, order]),
        (holds, [web, standing, script, order]),
        (holds, [web, owing, script, order + [0]]),
        (holds, [web, owing[1:], script, order]),
        (bound, [web, order]),
        (bound, [web, order[1:]]),
        (middle, [web]),
        (bounds, [web]),
        (room, [web, standing]),
        (room, [web, owing]),
        (room, [web, plain_one]),
        (room, [web, []]),
        (rank, [web, standing]),
        (rank, [web, owing]),
        (rank, [web, [1] + [0] * last]),
        (rank, [web, standing[1:]]),
    ]


def questions():
    """Each question with what is handed in, ordinary and refused."""
    told = []
    for houses, ties in ALL:
        web = made(houses, ties)
        standing = [BIG - k for k in range(houses)]
        script = [3 - k for k in range(houses)]
        turned = [(b, a) for a, b in reversed(ties)]
        told += [
            (made, [houses, turned]),
            (made, [houses + 1, turned]),
            (made, [houses, turned + [(0, 0)]]),
            (between, [web, 0, houses - 1]),
            (between, [web, 0, houses]),
            (degree, [web, houses - 1]),
            (degree, [web, houses]),
            (rings, [web]),
            (lent, [web, standing, script]),
            (lent, [web, standing, [0] * houses]),
            (lent, [web, standing, script + [0]]),
            (lent, [web, standing[1:], script]),
            (coins, [standing]),
            (less, [standing, script]),
            (less, [standing, [0] * houses]),
            (less, [standing, []]),
        ]
        told += stage_two(web, standing, script) + stage_three(web, standing, script)
    # Copies, so that no two questions share a list that a test changes.
    return [(question, copy.deepcopy(handed)) for question, handed in told]


class KeptTest(PromptTest):
    def test_what_is_handed_in_is_the_same_afterwards(self):
        for question, handed in questions():
            before = copy.deepcopy(handed)
            asked(question, handed)
            self.assertEqual(handed, before)
            self.assertEqual([type(thing) for thing in handed], [type(thing) for thing in before])

    def test_the_same_question_has_the_same_answer(self):
        first = [asked(question, handed) for question, handed in questions()]
        for question, handed in reversed(questions()):
            asked(question, handed)
        self.assertEqual([asked(question, handed) for question, handed in questions()], first)

    def test_a_told_list_is_the_askers_own(self):
        for question, handed in questions():
            told = asked(question, handed)
            before, due = copy.deepcopy(handed), copy.deepcopy(told)
            spoil(told)
            self.assertEqual(handed, before)
            self.assertEqual(asked(question, handed), due)

    def test_no_two_lists_of_what_is_told_are_one(self):
        for question, handed in questions():
            told = lists_in(asked(question, handed)) + lists_in(asked(question, handed))
            self.assertEqual(len({id(thing) for thing in told}), len(told))
            self.assertFalse({id(thing) for thing in told} & {id(thing) for thing in lists_in(handed)})

    def test_what_was_told_stays_when_what_was_handed_in_changes(self):
        for question, handed in questions():
            told = asked(question, handed)
            due = copy.deepcopy(told)
            spoil(handed)
            self.assertEqual(told, due)

    def test_one_list_at_both_places(self):
        web = made(*KITE)
        both = [4, -1, 0, 2]
        self.assertEqual(lent(web, both, both), lent(web, [4, -1, 0, 2], [4, -1, 0, 2]))
        self.assertEqual(less(both, both), [0, 0, 0, 0])
        self.assertEqual(alike(web, both, both), ("lent", [0, 0, 0, 0]))
        self.assertIs(shows(web, both, both, ("lent", both)), False)
        self.assertEqual(both, [4, -1, 0, 2])

    def test_one_list_as_standing_script_and_order(self):
        web = made(*KITE)
        both = [3, 0, 2, 1]
        self.assertIs(clears(web, both, both), clears(web, [3, 0, 2, 1], [3, 0, 2, 1]))
        self.assertIs(holds(web, both, both, both), holds(web, [3, 0, 2, 1], [3, 0, 2, 1], [3, 0, 2, 1]))
        self.assertEqual(both, [3, 0, 2, 1])

    def test_a_web_holds_no_list_that_was_handed_in(self):
        ties = [(1, 0), (1, 2)]
        web = made(3, ties)
        ties[0] = (2, 0)
        ties.append((0, 2))
        self.assertEqual(web, (3, ((0, 1), (1, 2))))
        self.assertEqual(hash(web), hash((3, ((0, 1), (1, 2)))))


if __name__ == "__main__":
    unittest.main()
