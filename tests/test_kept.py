"""Point 2: nothing handed in is changed or kept, and what is told is the asker's own."""

import copy
import unittest

from owinghall.errors import OwingError
from owinghall.lendings import coins, lent, less
from owinghall.webs import between, degree, made, rings
from tests.samples import ALL, BIG, KITE


def asked(question, handed):
    try:
        return question(*handed)
    except OwingError as refusal:
        return type(refusal)


def questions():
    """Each question with what is handed in, ordinary and refused."""
    told = []
    for houses, ties in ALL:
        web = made(houses, ties)
        standing = [BIG - k for k in range(houses)]
        script = [3 - k for k in range(houses)]
        turned = [(b, a) for a, b in reversed(ties)]
        told += [
            (made, [houses, turned]),
            (made, [houses + 1, turned]),
            (made, [houses, turned + [(0, 0)]]),
            (between, [web, 0, houses - 1]),
            (between, [web, 0, houses]),
            (degree, [web, houses - 1]),
            (degree, [web, houses]),
            (rings, [web]),
            (lent, [web, standing, script]),
            (lent, [web, standing, [0] * houses]),
            (lent, [web, standing, script + [0]]),
            (lent, [web, standing[1:], script]),
            (coins, [standing]),
            (less, [standing, script]),
            (less, [standing, [0] * houses]),
            (less, [standing, []]),
        ]
    # Copies, so that no two questions share a list that a test changes.
    return [(question, copy.deepcopy(handed)) for question, handed in told]


class KeptTest(unittest.TestCase):
    def test_what_is_handed_in_is_the_same_afterwards(self):
        for question, handed in questions():
            before = copy.deepcopy(handed)
            asked(question, handed)
            self.assertEqual(handed, before)
            self.assertEqual([type(thing) for thing in handed], [type(thing) for thing in before])

    def test_the_same_question_has_the_same_answer(self):
        first = [asked(question, handed) for question, handed in questions()]
        for question, handed in reversed(questions()):
            asked(question, handed)
        self.assertEqual([asked(question, handed) for question, handed in questions()], first)

    def test_a_told_list_is_the_askers_own(self):
        for question, handed in questions():
            told = asked(question, handed)
            if not isinstance(told, list):
                continue
            before, due = copy.deepcopy(handed), copy.deepcopy(told)
            self.assertFalse([thing for thing in handed if thing is told])
            told[0] += 1
            told.append(5)
            self.assertEqual(handed, before)
            self.assertEqual(asked(question, handed), due)

    def test_what_was_told_stays_when_what_was_handed_in_changes(self):
        for question, handed in questions():
            told = asked(question, handed)
            due = copy.deepcopy(told)
            for thing in handed:
                if isinstance(thing, list):
                    thing.append(0)
                    thing[0] = 77
            self.assertEqual(told, due)

    def test_one_list_at_both_places(self):
        web = made(*KITE)
        both = [4, -1, 0, 2]
        self.assertEqual(lent(web, both, both), lent(web, [4, -1, 0, 2], [4, -1, 0, 2]))
        self.assertEqual(less(both, both), [0, 0, 0, 0])
        self.assertEqual(both, [4, -1, 0, 2])

    def test_a_web_holds_no_list_that_was_handed_in(self):
        ties = [(1, 0), (1, 2)]
        web = made(3, ties)
        ties[0] = (2, 0)
        ties.append((0, 2))
        self.assertEqual(web, (3, ((0, 1), (1, 2))))
        self.assertEqual(hash(web), hash((3, ((0, 1), (1, 2)))))


if __name__ == "__main__":
    unittest.main()
