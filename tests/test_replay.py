import copy
import random
import unittest
from fractions import Fraction

from jointhold.errors import BadGroup, BadNames, BadPiece, Dead, GrantedBefore, JointholdError, NoPart, NotGranted
from jointhold.errors import NotHeld, TooManyDeeds, TooManyParts, Unknown
from jointhold.ledger import Register
from jointhold.replay import replayed
from tests.made import NAMES, SIX, STORY, by_many_deeds, everything, in_many_parts, many_names, with_dead


def random_deed(chance, land):
    """Some deed, told as deeds() tells it; it may be one that is refused."""
    living = land.living() or list(NAMES)

    def some(most):
        return tuple(sorted(chance.sample(living, min(len(living), chance.randint(1, most)))))

    kind = chance.choice(("sever", "hand", "hand", "follow", "follow", "die"))
    # Mostly one who holds the part, so that most severings and handings on are done.
    number = chance.randint(1, len(land.parts()))
    name = chance.choice(land.parts()[number - 1][1])
    if kind == "sever":
        return (kind, name, number)
    if kind == "hand":
        return (kind, name, number, chance.choice((1, 7, 10, 19, 20, 21)), some(6))
    if kind == "follow":
        return (kind, chance.choice(living), chance.choice(NAMES))
    return (kind, some(2) if chance.random() < 0.9 else some(4))


def do(land, deed):
    return getattr(land, deed[0])(*deed[1:])


class ReplayedTest(unittest.TestCase):
    def check_same(self, land, names=NAMES):
        deeds = land.deeds()
        for handed in (list(deeds), tuple(deeds)):
            for row in (list(names), tuple(names)[::-1]):
                ahead = copy.deepcopy((row, handed))
                other = replayed(row, handed)
                self.assertIsInstance(other, Register)
                self.assertEqual((row, handed), ahead)
                self.assertEqual(everything(other, tuple(names)), everything(land, tuple(names)))

    def test_no_deeds_at_all(self):
        self.check_same(Register(NAMES))
        self.assertEqual(replayed(["bob", "ann"], []).living(), ["ann", "bob"])
        self.assertEqual(replayed(("ann",), ()).grant(["ann"]), 1)

    def test_a_grant_alone(self):
        for count in range(1, 7):
            land = Register(NAMES)
            land.grant(SIX[:count])
            self.check_same(land)

    def test_each_kind_of_deed(self):
        land = Register(NAMES)
        for number, deed in enumerate(STORY, start=1):
            self.assertEqual(do(land, deed), number)
            self.assertEqual(land.deeds(), list(STORY[:number]))
            self.check_same(land)

    def test_what_was_taken_back_is_not_done_anew(self):
        land = replayed(NAMES, STORY)
        for _ in range(3):
            land.back()
            self.check_same(land)
        land.die(["bob"])
        self.check_same(land)

    def test_the_new_one_goes_on_by_itself(self):
        land = replayed(NAMES, STORY)
        ahead = everything(land)
        deeds = land.deeds()
        other = replayed(NAMES, deeds)
        self.assertEqual(other.die(["bob", "dan"]), 8)
        self.assertEqual(other.back(), ("die", ("bob", "dan")))
        other.back()
        self.assertEqual(everything(land), ahead)
        self.assertEqual(deeds, list(STORY))
        deeds.clear()
        self.assertEqual(other.deeds(), list(STORY[:6]))
        self.assertIsNot(replayed(NAMES, STORY), replayed(NAMES, STORY))

    def test_taking_back_in_the_new_one(self):
        land = replayed(NAMES, STORY)
        for deed in STORY[::-1]:
            self.assertEqual(land.back(), deed)
        self.assertEqual(everything(land), everything(Register(NAMES)))

    def test_sixty_parts_and_two_hundred_deeds(self):
        self.check_same(by_many_deeds(with_dead(in_many_parts(Register(NAMES)))))

    def test_thirty_persons(self):
        names = many_names(30)
        land = Register(names)
        land.grant(names[24:])
        land.follow(names[24], names[0])
        land.die(names[2:])
        self.check_same(land, names)

    def check_deed_of_chance(self, land, deed, taken_back):
        ahead = everything(land)
        try:
            number = do(land, deed)
        except JointholdError:
            self.assertEqual(everything(land), ahead)
            return
        self.assertEqual(number, len(ahead["deeds"]) + 1)
        self.assertEqual(land.deeds(), ahead["deeds"] + [deed])
        if taken_back:
            self.assertEqual(land.back(), deed)
            self.assertEqual(everything(land), ahead)

    def test_where_chance_does_the_deeds(self):
        chance = random.Random(13)
        for _ in range(25):
            land = Register(NAMES)
            land.grant(chance.sample(NAMES, chance.randint(1, 6)))
            for _ in range(40):
                self.check_deed_of_chance(land, random_deed(chance, land), chance.random() < 0.3)
            self.assertEqual(sum(Fraction(*part[0]) for part in land.parts()), 1)
            self.assertEqual(sum(Fraction(*entry[1]) for entry in land.stakes()), 1)
            self.check_same(land)


class RefusedTest(unittest.TestCase):
    def check_refused(self, names, deeds, refusal):
        for handed in (list(deeds), tuple(deeds)):
            ahead = copy.deepcopy((names, handed))
            with self.assertRaises(refusal) as caught:
                replayed(names, handed)
            self.assertIs(type(caught.exception), refusal)
            self.assertEqual((names, handed), ahead)

    def test_bad_names(self):
        for names in ([], many_names(31), ["ann", "ann"], ["Ann"], [""], ["a" * 13]):
            self.check_refused(names, [], BadNames)
            self.check_refused(names, STORY, BadNames)
            self.check_refused(names, [("grant", ())], BadNames)

    def test_bad_groups(self):
        for group in ((), ("ann", "ann"), SIX + ("gus",)):
            self.check_refused(NAMES, [("grant", group)], BadGroup)
            self.check_refused(NAMES, STORY + (("hand", "fay", 1, 5, group),), BadGroup)
        self.check_refused(NAMES, STORY + (("die", ()),), BadGroup)
        self.check_refused(NAMES, STORY + (("die", ("bob", "bob")),), BadGroup)

    def test_unknown_and_dead(self):
        for name, refusal in (("zzz", Unknown), ("CROWN", Unknown), ("ann", Dead)):
            for deed in (("sever", name, 1), ("hand", name, 1, 5, ("bob",)), ("hand", "fay", 1, 5, (name,)),
                         ("follow", name, "bob"), ("follow", "bob", name), ("die", (name,)), ("grant", (name,))):
                self.check_refused(NAMES, STORY + (deed,), refusal)

    def test_names_that_the_new_register_has_not(self):
        self.check_refused(["ann", "bob", "dan"], STORY, Unknown)

    def test_grants(self):
        self.check_refused(NAMES, STORY[1:], NotGranted)
        self.check_refused(NAMES, STORY + STORY[:1], Dead)
        self.check_refused(NAMES, STORY[:2] + STORY[:1], GrantedBefore)
        for deed in (("follow", "ann", "bob"), ("die", ("ann",)), ("hand", "ann", 1, 5, ("bob",))):
            self.check_refused(NAMES, [deed], NotGranted)

    def test_parts_and_pieces(self):
        self.check_refused(NAMES, STORY + (("sever", "bob", 5),), NoPart)
        self.check_refused(NAMES, STORY + (("hand", "bob", 0, 5, ("bob",)),), NoPart)
        self.check_refused(NAMES, STORY + (("sever", "bob", 2),), NotHeld)
        self.check_refused(NAMES, STORY + (("hand", "dan", 3, 5, ("bob",)),), NotHeld)
        self.check_refused(NAMES, STORY + (("hand", "bob", 2, 0, ("bob",)),), BadPiece)
        self.check_refused(NAMES, STORY + (("hand", "bob", 2, 21, ("bob",)),), BadPiece)

    def test_too_many_parts(self):
        deeds = in_many_parts(Register(NAMES)).deeds()
        for deed in (("sever", "ann", 2), ("hand", "ann", 1, 5, ("ann",)), ("die", ("ann", "bob"))):
            self.check_refused(NAMES, deeds + [deed], TooManyParts)

    def test_too_many_deeds(self):
        land = Register(NAMES)
        land.grant(["ann", "bob"])
        deeds = by_many_deeds(land).deeds()
        self.assertEqual(len(replayed(NAMES, deeds).deeds()), 200)
        for deed in (("sever", "ann", 1), ("follow", "ann", "ann"), ("die", ("ann",))):
            self.check_refused(NAMES, deeds + [deed], TooManyDeeds)

    def test_a_refused_deed_in_the_midst(self):
        self.check_refused(NAMES, STORY[:3] + (("sever", "ann", 9),) + STORY[3:], NoPart)


if __name__ == "__main__":
    unittest.main()
