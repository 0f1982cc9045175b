"""Parts made for the tests, and checks that the tests of several modules share."""

import copy
import unittest

SIX = ("ann", "bob", "cat", "dan", "eve", "fay")
LARGEST = 10**400 - 1
NUMBERS_OUT = (0, -1, -2, -60, 10**60, -(10**60))
ALPHABET = "abcdefghijklmnopqrstuvwxyz"


def many_names(count):
    return ["n" + ALPHABET[k // 26] + ALPHABET[k % 26] for k in range(count)]


def told(fraction):
    return (fraction.numerator, fraction.denominator)


def grant_step(holders):
    return (1, 1, (1, 1), holders)


def granted_part(holders):
    return ((1, 1), holders, (grant_step(holders),))


def touched_part(number, share, holders, earlier=()):
    """A part with a trail of the grant, of the earlier steps and of one step of deed 9 of its own."""
    return (share, holders, (grant_step(SIX),) + tuple(earlier) + ((9, number, share, holders),))


LONG = ((3, 1, (5, 6), ("ann", "bob", "cat", "dan", "eve")), (4, 2, (1, 6), ("fay",)), (7, 2, (1, 6), ("ann", "eve")))


def mixed_parts():
    """Lone and joint parts and parts of the crown; none of them is of gus, hal or ida."""
    return [
        touched_part(1, (1, 4), ("ann", "bob", "cat")),
        touched_part(2, (1, 8), ("ann",)),
        touched_part(3, (3, 16), ("ann", "dan"), LONG),
        touched_part(4, (1, 16), ("CROWN",)),
        touched_part(5, (1, 12), ("bob",), LONG),
        touched_part(6, (1, 24), SIX),
        touched_part(7, (1, 4), ("CROWN",), LONG),
    ]


def like_parts(count, holders):
    return [touched_part(number, (1, 60), holders) for number in range(1, count + 1)]


class PartsTest(unittest.TestCase):
    def check_share(self, share):
        self.assertIs(type(share), tuple)
        self.assertEqual([type(number) for number in share], [int, int])

    def check_holders(self, holders):
        self.assertIs(type(holders), tuple)
        self.assertEqual({type(name) for name in holders}, {str})
        self.assertEqual(list(holders), sorted(holders))

    def check_part(self, part):
        self.assertIs(type(part), tuple)
        self.assertEqual(len(part), 3)
        self.check_share(part[0])
        self.check_holders(part[1])
        self.assertIs(type(part[2]), tuple)
        for step in part[2]:
            self.assertIs(type(step), tuple)
            self.assertEqual([type(value) for value in step], [int, int, tuple, tuple])
            self.check_share(step[2])
            self.check_holders(step[3])

    def check_behind(self, deed_done, parts, awaited):
        """Does the deed on the parts as a list and as a tuple; both must give the awaited list, a new one."""
        for handed in (list(parts), tuple(parts)):
            ahead = copy.deepcopy(handed)
            answer = deed_done(handed)
            self.assertIs(type(answer), list)
            self.assertIsNot(answer, handed)
            self.assertEqual(answer, awaited)
            for part in answer:
                self.check_part(part)
            self.assertEqual(handed, ahead)
            answer.append("another")
            answer[0] = "something else"
            self.assertEqual(handed, ahead)

    def check_refused(self, deed_done, parts, refusal):
        for handed in (list(parts), tuple(parts)):
            ahead = copy.deepcopy(handed)
            with self.assertRaises(refusal):
                deed_done(handed)
            self.assertEqual(handed, ahead)


# Nobody of the registers below has such a name.
NAMES_OUT = ("zzz", "an", "anna", "Ann", "ANN", "", " ", "~", "ann ", "a" * 20, "~" * 20, "ann bob", "1")
# abe and zed are those who are dead where somebody is: one ahead of all others, one behind.
NAMES = ("abe",) + SIX + ("gus", "hal", "zed")
TRIO = SIX[:3]
# A deed of each kind, told as deeds() tells them: a joint part falls, a part comes to the crown.
STORY = (
    ("grant", TRIO),
    ("sever", "bob", 1),
    ("follow", "ann", "dan"),
    ("hand", "bob", 2, 5, ("dan", "eve")),
    ("follow", "bob", "gus"),
    ("die", ("ann", "cat")),
    ("hand", "dan", 1, 20, ("fay",)),
)


def everything(land, names=NAMES):
    """All that a register tells: two that tell the same of this tell the same of everything asked here."""
    living = land.living()
    return {
        "parts": land.parts(),
        "deeds": land.deeds(),
        "living": living,
        "followers": [land.follower(name) for name in names],
        "held": [land.held(name) for name in names + ("CROWN",)],
        "stake": [land.stake(name) for name in names + ("CROWN",)],
        "stakes": land.stakes(),
        "came by": [land.came_by(number) for number in range(1, len(land.parts()) + 1)],
        "if died": [land.if_died(row) for row in ([], living[:1], living[-2:], living[5::-1])],
        "best order": [land.best_order(name, living[:3]) for name in living],
    }


def with_dead(land):
    """Lets abe and zed die, who hold nothing."""
    land.die(["zed", "abe"])
    return land


def in_many_parts(land):
    """Grants to ann alone and goes on to 60 parts by 60 deeds: part 2 is of ann and bob, the others of ann."""
    land.grant(["ann"])
    land.hand("ann", 1, 1, ["bob", "ann"])
    for number in range(3, 61):
        land.hand("ann", 1, 1, ["ann"])
    return land


def by_many_deeds(land):
    """Goes on to 200 standing deeds that touch no part."""
    while len(land.deeds()) < 200:
        land.follow("ann", "bob")
    return land
