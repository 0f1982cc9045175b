"""Parts made for the tests, and checks that the tests of several modules share."""

import copy
import unittest

SIX = ("ann", "bob", "cat", "dan", "eve", "fay")
LARGEST = 10**400 - 1
NUMBERS_OUT = (0, -1, -2, -60, 10**60, -(10**60))


def told(fraction):
    return (fraction.numerator, fraction.denominator)


def grant_step(holders):
    return (1, 1, (1, 1), holders)


def granted_part(holders):
    return ((1, 1), holders, (grant_step(holders),))


def touched_part(number, share, holders, earlier=()):
    """A part with a trail of the grant, of the earlier steps and of one step of deed 9 of its own."""
    return (share, holders, (grant_step(SIX),) + tuple(earlier) + ((9, number, share, holders),))


LONG = ((3, 1, (5, 6), ("ann", "bob", "cat", "dan", "eve")), (4, 2, (1, 6), ("fay",)), (7, 2, (1, 6), ("ann", "eve")))


def mixed_parts():
    """Lone and joint parts and parts of the crown; none of them is of gus, hal or ida."""
    return [
        touched_part(1, (1, 4), ("ann", "bob", "cat")),
        touched_part(2, (1, 8), ("ann",)),
        touched_part(3, (3, 16), ("ann", "dan"), LONG),
        touched_part(4, (1, 16), ("CROWN",)),
        touched_part(5, (1, 12), ("bob",), LONG),
        touched_part(6, (1, 24), SIX),
        touched_part(7, (1, 4), ("CROWN",), LONG),
    ]


def like_parts(count, holders):
    return [touched_part(number, (1, 60), holders) for number in range(1, count + 1)]


class PartsTest(unittest.TestCase):
    def check_share(self, share):
        self.assertIs(type(share), tuple)
        self.assertEqual([type(number) for number in share], [int, int])

    def check_holders(self, holders):
        self.assertIs(type(holders), tuple)
        self.assertEqual({type(name) for name in holders}, {str})
        self.assertEqual(list(holders), sorted(holders))

    def check_part(self, part):
        self.assertIs(type(part), tuple)
        self.assertEqual(len(part), 3)
        self.check_share(part[0])
        self.check_holders(part[1])
        self.assertIs(type(part[2]), tuple)
        for step in part[2]:
            self.assertIs(type(step), tuple)
            self.assertEqual([type(value) for value in step], [int, int, tuple, tuple])
            self.check_share(step[2])
            self.check_holders(step[3])

    def check_behind(self, deed_done, parts, awaited):
        """Does the deed on the parts as a list and as a tuple; both must give the awaited list, a new one."""
        for handed in (list(parts), tuple(parts)):
            ahead = copy.deepcopy(handed)
            answer = deed_done(handed)
            self.assertIs(type(answer), list)
            self.assertIsNot(answer, handed)
            self.assertEqual(answer, awaited)
            for part in answer:
                self.check_part(part)
            self.assertEqual(handed, ahead)
            answer.append("another")
            answer[0] = "something else"
            self.assertEqual(handed, ahead)

    def check_refused(self, deed_done, parts, refusal):
        for handed in (list(parts), tuple(parts)):
            ahead = copy.deepcopy(handed)
            with self.assertRaises(refusal):
                deed_done(handed)
            self.assertEqual(handed, ahead)
