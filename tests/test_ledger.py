import unittest
from fractions import Fraction

from jointhold.errors import NothingDone
from jointhold.ledger import DEEDS_MOST, Register
from tests.made import NAMES, SIX, STORY, TRIO, PartsTest
from tests.made import by_many_deeds, everything, grant_step, in_many_parts, many_names, with_dead


def granted(*names):
    land = Register(NAMES)
    land.grant(names)
    return land


def storied():
    """A register with the deeds of STORY, where groups were handed in in other orders."""
    land = granted("cat", "ann", "bob")
    land.sever("bob", 1)
    land.follow("ann", "dan")
    land.hand("bob", 2, 5, ["eve", "dan"])
    land.follow("bob", "gus")
    land.die(["cat", "ann"])
    land.hand("dan", 1, 20, ["fay"])
    return land


class ConstantsTest(unittest.TestCase):
    def test_constants(self):
        self.assertEqual(DEEDS_MOST, 200)
        self.assertIs(type(DEEDS_MOST), int)


class DeedsTest(PartsTest):
    def test_the_example_of_point_five(self):
        land = granted("ann", "bob", "cat")
        land.sever("bob", 1)
        grant = (1, 1, (1, 1), TRIO)
        self.assertEqual(land.parts(), [
            ((2, 3), ("ann", "cat"), (grant, (2, 1, (2, 3), ("ann", "cat")))),
            ((1, 3), ("bob",), (grant, (2, 2, (1, 3), ("bob",)))),
        ])

    def test_grant(self):
        for count in range(1, 7):
            for row in (SIX[:count], SIX[:count][::-1], list(SIX[1:count]) + ["ann"]):
                land = Register(NAMES)
                number = land.grant(row)
                self.assertEqual(number, 1)
                self.assertIs(type(number), int)
                self.assertEqual(land.parts(), [((1, 1), SIX[:count], (grant_step(SIX[:count]),))])
                self.assertEqual(land.deeds(), [("grant", SIX[:count])])
                self.check_part(land.parts()[0])

    def test_sever(self):
        land = granted("cat", "ann", "bob")
        self.assertEqual(land.sever("ann", 1), 2)
        self.assertEqual(land.sever("cat", 1), 3)
        self.assertEqual(land.deeds()[1:], [("sever", "ann", 1), ("sever", "cat", 1)])
        grant = grant_step(TRIO)
        second = (2, 1, (2, 3), ("bob", "cat"))
        self.assertEqual(land.parts(), [
            ((1, 3), ("bob",), (grant, second, (3, 1, (1, 3), ("bob",)))),
            ((1, 3), ("ann",), (grant, (2, 2, (1, 3), ("ann",)))),
            ((1, 3), ("cat",), (grant, second, (3, 3, (1, 3), ("cat",)))),
        ])

    def test_hand(self):
        land = granted("ann")
        self.assertEqual(land.hand("ann", 1, 5, ["cat", "bob"]), 2)
        self.assertEqual(land.hand("ann", 1, 20, ("hal", "ann", "gus")), 3)
        self.assertEqual(land.deeds()[1:], [
            ("hand", "ann", 1, 5, ("bob", "cat")),
            ("hand", "ann", 1, 20, ("ann", "gus", "hal")),
        ])
        grant = grant_step(("ann",))
        three = ("ann", "gus", "hal")
        self.assertEqual(land.parts(), [
            ((3, 4), three, (grant, (2, 1, (3, 4), ("ann",)), (3, 1, (3, 4), three))),
            ((1, 4), ("bob", "cat"), (grant, (2, 2, (1, 4), ("bob", "cat")))),
        ])

    def test_hand_to_six_and_to_oneself(self):
        land = granted("ann")
        land.hand("ann", 1, 1, SIX[::-1])
        land.hand("ann", 1, 19, ["ann"])
        self.assertEqual([part[:2] for part in land.parts()], [
            ((19, 400), ("ann",)), ((1, 20), SIX), ((361, 400), ("ann",)),
        ])

    def test_follow(self):
        land = granted("ann", "bob")
        ahead = land.parts()
        self.assertEqual(land.follow("ann", "cat"), 2)
        self.assertEqual(land.follow("bob", "cat"), 3)
        self.assertEqual(land.follow("cat", "cat"), 4)
        self.assertEqual([land.follower(name) for name in ("ann", "bob", "cat", "dan")], ["cat", "cat", "cat", None])
        self.assertEqual(land.follow("ann", "dan"), 5)
        self.assertEqual(land.follow("ann", "dan"), 6)
        self.assertEqual(land.follower("ann"), "dan")
        self.assertEqual(land.parts(), ahead)
        self.assertEqual(land.deeds()[1:], [
            ("follow", "ann", "cat"), ("follow", "bob", "cat"), ("follow", "cat", "cat"),
            ("follow", "ann", "dan"), ("follow", "ann", "dan"),
        ])

    def test_the_later_naming_counts_at_a_death(self):
        land = granted("ann")
        land.follow("ann", "bob")
        land.follow("ann", "cat")
        land.die(["ann"])
        self.assertEqual(land.held("cat"), [1])
        self.assertEqual(land.held("bob"), [])

    def test_a_naming_behind_the_death_counts_no_more(self):
        land = granted("ann")
        land.die(["ann"])
        land.follow("bob", "cat")
        self.assertEqual(land.held("CROWN"), [1])

    def test_die(self):
        land = granted("ann", "bob", "cat")
        land.follow("ann", "bob")
        land.follow("bob", "gus")
        self.assertEqual(land.die(["cat", "ann", "bob"]), 4)
        self.assertEqual(land.deeds()[3], ("die", TRIO))
        grant = grant_step(TRIO)
        self.assertEqual(land.parts(), [
            ((1, 3), ("gus",), (grant, (4, 1, (1, 3), ("gus",)))),
            ((1, 3), ("gus",), (grant, (4, 2, (1, 3), ("gus",)))),
            ((1, 3), ("CROWN",), (grant, (4, 3, (1, 3), ("CROWN",)))),
        ])
        self.assertEqual(land.living(), ["abe", "dan", "eve", "fay", "gus", "hal", "zed"])

    def test_those_dead_already_are_no_heirs(self):
        land = granted("ann")
        land.follow("ann", "bob")
        land.follow("bob", "cat")
        land.follow("cat", "dan")
        land.die(["bob"])
        land.die(["cat"])
        land.die(["ann"])
        self.assertEqual(land.held("dan"), [1])

    def test_all_thirty_die_at_once(self):
        names = many_names(30)
        land = Register(names[::-1])
        land.grant(names[:6])
        for k in range(29):
            land.follow(names[k], names[k + 1])
        self.assertEqual(land.die(names[::-1]), 31)
        self.assertEqual(land.living(), [])
        self.assertEqual([part[:2] for part in land.parts()], [((1, 6), ("CROWN",))] * 6)
        self.assertEqual(land.deeds()[-1], ("die", tuple(names)))
        self.assertEqual(land.stakes(), [("CROWN", (1, 1))])

    def test_what_is_named_is_kept_when_they_die(self):
        land = granted("ann")
        land.follow("bob", "cat")
        land.follow("cat", "dan")
        land.die(["cat"])
        self.assertEqual((land.follower("bob"), land.follower("cat")), ("cat", "dan"))
        land.die(["bob", "dan"])
        self.assertEqual((land.follower("bob"), land.follower("cat")), ("cat", "dan"))
        land.back()
        land.back()
        land.back()
        self.assertEqual((land.follower("bob"), land.follower("cat")), ("cat", None))
        land.back()
        self.assertEqual((land.follower("bob"), land.follower("cat")), (None, None))

    def test_an_earlier_naming_comes_back(self):
        land = granted("ann")
        land.follow("ann", "bob")
        land.follow("ann", "cat")
        land.back()
        self.assertEqual(land.follower("ann"), "bob")
        land.die(["ann"])
        self.assertEqual(land.held("bob"), [1])

    def test_a_story(self):
        land = storied()
        self.assertEqual(land.deeds(), list(STORY))
        grant = grant_step(TRIO)
        pair = (2, 1, (2, 3), ("ann", "cat"))
        third = (2, 2, (1, 3), ("bob",))
        self.assertEqual(land.parts(), [
            ((1, 3), ("fay",), (grant, pair, (6, 1, (1, 3), ("dan",)), (7, 1, (1, 3), ("fay",)))),
            ((1, 4), ("bob",), (grant, third, (4, 2, (1, 4), ("bob",)))),
            ((1, 12), ("dan", "eve"), (grant, third, (4, 3, (1, 12), ("dan", "eve")))),
            ((1, 3), ("CROWN",), (grant, pair, (6, 4, (1, 3), ("CROWN",)))),
        ])
        for part in land.parts():
            self.check_part(part)

    def test_two_hundred_deeds(self):
        land = granted("ann")
        for number in range(2, 201):
            self.assertEqual(land.hand("ann", 1, 20, ["ann"]), number)
        self.assertEqual(len(land.deeds()), 200)
        self.assertEqual(len(land.parts()[0][2]), 200)
        self.assertEqual(land.parts()[0][2][-1], (200, 1, (1, 1), ("ann",)))
        self.assertEqual(len(land.came_by(1)), 200)

    def test_the_least_share(self):
        land = granted("ann")
        for _ in range(59):
            land.hand("ann", len(land.parts()), 1, ["ann"])
        self.assertEqual(land.parts()[59][0], (1, 20**59))
        self.assertEqual(land.stake("ann"), (1, 1))
        self.assertEqual(sum(Fraction(*part[0]) for part in land.parts()), 1)


class BackTest(PartsTest):
    def test_each_deed_is_taken_back_to_just_what_was(self):
        land = storied()
        deeds = land.deeds()
        for count in range(len(deeds), 0, -1):
            self.assertEqual(land.deeds(), deeds[:count])
            ahead = Register(NAMES)
            for deed in deeds[:count - 1]:
                getattr(ahead, deed[0])(*deed[1:])
            self.assertEqual(land.back(), deeds[count - 1])
            self.assertEqual(everything(land), everything(ahead))
        self.assertEqual(everything(land), everything(Register(NAMES)))

    def test_kinds_of_what_is_given_back(self):
        land = storied()
        while land.deeds():
            last = land.deeds()[-1]
            deed = land.back()
            self.assertIs(type(deed), tuple)
            self.assertEqual(deed, last)
            self.assertEqual([type(value) for value in deed], [type(value) for value in last])

    def test_nothing_done(self):
        land = Register(NAMES)
        with self.assertRaises(NothingDone):
            land.back()
        land.grant(["ann"])
        self.assertEqual(land.back(), ("grant", ("ann",)))
        for _ in range(3):
            with self.assertRaises(NothingDone):
                land.back()
        self.assertEqual(everything(land), everything(Register(NAMES)))

    def test_a_grant_behind_no_deed(self):
        land = storied()
        for _ in range(7):
            land.back()
        self.assertEqual(land.grant(["gus", "ann"]), 1)
        self.assertEqual(everything(land), everything(granted("ann", "gus")))
        self.assertEqual(land.sever("gus", 1), 2)

    def test_numbers_go_on_from_what_stands(self):
        land = granted("ann", "bob")
        self.assertEqual(land.sever("ann", 1), 2)
        land.back()
        self.assertEqual(land.follow("ann", "bob"), 2)
        self.assertEqual(land.sever("ann", 1), 3)
        self.assertEqual(land.parts()[1][2][-1], (3, 2, (1, 2), ("ann",)))

    def test_the_dead_live_again(self):
        land = with_dead(granted("ann", "bob"))
        land.die(["ann"])
        self.assertEqual(land.living(), ["bob", "cat", "dan", "eve", "fay", "gus", "hal"])
        land.back()
        self.assertEqual(land.living(), ["ann", "bob", "cat", "dan", "eve", "fay", "gus", "hal"])
        self.assertEqual(land.sever("ann", 1), 3)
        land.back()
        land.back()
        self.assertEqual(land.living(), list(NAMES))
        self.assertEqual(land.follow("abe", "zed"), 2)

    def test_behind_two_hundred_deeds_there_is_room_again(self):
        land = by_many_deeds(granted("ann"))
        self.assertEqual(land.back(), ("follow", "ann", "bob"))
        self.assertEqual(land.die(["ann"]), 200)

    def test_behind_sixty_parts_there_is_room_again(self):
        land = in_many_parts(Register(NAMES))
        land.back()
        self.assertEqual(len(land.parts()), 59)
        self.assertEqual(land.sever("bob", 2), 60)
        self.assertEqual(len(land.parts()), 60)


class QuestionsTest(PartsTest):
    def test_where_no_deed_stands(self):
        land = Register(["dan", "ann", "cat", "bob"])
        self.assertEqual(land.parts(), [])
        self.assertEqual(land.deeds(), [])
        self.assertEqual(land.living(), ["ann", "bob", "cat", "dan"])
        self.assertIsNone(land.follower("ann"))
        self.assertEqual((land.held("ann"), land.held("CROWN")), ([], []))
        self.assertEqual((land.stake("ann"), land.stake("CROWN")), ((0, 1), (0, 1)))
        self.assertEqual(land.stakes(), [])
        self.assertEqual((land.if_died([]), land.if_died(["bob", "ann"])), ([], []))
        self.assertEqual(land.best_order("ann", []), ((), (0, 1)))
        self.assertEqual(land.best_order("ann", ["dan", "bob", "cat"]), (("bob", "cat", "dan"), (0, 1)))
        self.assertEqual(land.best_order("bob", ("dan", "bob")), (("bob", "dan"), (0, 1)))

    def test_living(self):
        land = granted("ann", "bob")
        self.assertEqual(land.living(), list(NAMES))
        land.die(["gus", "ann"])
        self.assertEqual(land.living(), ["abe", "bob", "cat", "dan", "eve", "fay", "hal", "zed"])
        self.assertEqual(Register(["b", "az", "a", "ab"]).living(), ["a", "ab", "az", "b"])

    def test_held(self):
        land = storied()
        for name, numbers in (("bob", [2]), ("dan", [3]), ("eve", [3]), ("fay", [1]), ("CROWN", [4]), ("ann", []),
                              ("cat", []), ("gus", [])):
            self.assertEqual(land.held(name), numbers)
        self.assertEqual(in_many_parts(Register(NAMES)).held("ann"), list(range(1, 61)))
        self.assertEqual(in_many_parts(Register(NAMES)).held("bob"), [2])

    def test_stake(self):
        land = storied()
        for name, share in (("bob", (1, 4)), ("dan", (1, 24)), ("eve", (1, 24)), ("fay", (1, 3)), ("CROWN", (1, 3)),
                            ("ann", (0, 1)), ("cat", (0, 1)), ("gus", (0, 1))):
            self.check_share(land.stake(name))
            self.assertEqual(land.stake(name), share)

    def test_stake_of_lone_and_joint_parts(self):
        land = granted("ann")
        land.hand("ann", 1, 12, ["ann", "bob", "cat"])
        self.assertEqual(land.stake("ann"), (3, 5))
        self.assertEqual(land.stake("bob"), (1, 5))

    def test_stakes(self):
        land = storied()
        stakes = land.stakes()
        self.assertEqual(stakes, [
            ("bob", (1, 4)), ("dan", (1, 24)), ("eve", (1, 24)), ("fay", (1, 3)), ("CROWN", (1, 3)),
        ])
        self.assertIs(type(stakes), list)
        for entry in stakes:
            self.assertIs(type(entry), tuple)
            self.check_share(entry[1])
        self.assertEqual(granted("zed", "abe").stakes(), [("abe", (1, 2)), ("zed", (1, 2))])
        land = granted("ann")
        land.die(["ann"])
        self.assertEqual(land.stakes(), [("CROWN", (1, 1))])

    def test_a_person_called_crown_is_not_the_crown(self):
        land = Register(["crown", "ann"])
        land.grant(["crown", "ann"])
        land.sever("ann", 1)
        land.die(["ann"])
        self.assertEqual(land.stakes(), [("crown", (1, 2)), ("CROWN", (1, 2))])
        self.assertEqual((land.held("crown"), land.held("CROWN")), ([1], [2]))

    def test_of_the_dead(self):
        land = storied()
        self.assertEqual(land.follower("ann"), "dan")
        self.assertIsNone(land.follower("cat"))
        self.assertEqual(land.held("ann"), [])
        self.assertEqual(land.stake("ann"), (0, 1))

    def test_came_by(self):
        land = storied()
        deeds = land.deeds()
        for number, steps in ((1, (1, 2, 6, 7)), (2, (1, 2, 4)), (3, (1, 2, 4)), (4, (1, 2, 6))):
            told = land.came_by(number)
            self.assertIs(type(told), list)
            self.assertEqual(told, [deeds[step - 1] for step in steps])
        self.assertEqual(granted("ann").came_by(1), [("grant", ("ann",))])

    def test_came_by_behind_severing_a_handed_part(self):
        land = granted("ann")
        land.hand("ann", 1, 10, ["cat", "bob"])
        land.follow("ann", "bob")
        land.sever("cat", 2)
        grant, hand, sever = ("grant", ("ann",)), ("hand", "ann", 1, 10, ("bob", "cat")), ("sever", "cat", 2)
        self.assertEqual(land.came_by(1), [grant, hand])
        self.assertEqual(land.came_by(2), [grant, hand, sever])
        self.assertEqual(land.came_by(3), [grant, hand, sever])
        land.die(["bob"])
        self.assertEqual(land.came_by(2), [grant, hand, sever, ("die", ("bob",))])
        land.back()
        land.back()
        self.assertEqual(land.came_by(2), [grant, hand])

    def test_if_died(self):
        land = granted("ann", "bob", "cat")
        land.sever("bob", 1)
        land.follow("bob", "ann")
        land.follow("ann", "gus")
        ahead = everything(land)
        for row, awaited in (
            ([], [("ann", "cat"), ("bob",)]),
            (["bob"], [("ann", "cat"), ("ann",)]),
            (["bob", "ann"], [("cat",), ("gus",)]),
            (["ann", "bob"], [("cat",), ("gus",)]),
            (["cat", "ann"], [("gus",), ("bob",)]),
            (["ann", "cat"], [("CROWN",), ("bob",)]),
            (["ann", "cat", "bob", "dan", "eve", "gus"], [("CROWN",), ("CROWN",)]),
        ):
            for handed in (list(row), tuple(row)):
                told = land.if_died(handed)
                self.assertIs(type(told), list)
                self.assertEqual(told, list(zip([(2, 3), (1, 3)], awaited)))
                self.assertEqual(list(handed), row)
        self.assertEqual(everything(land), ahead)

    def test_if_died_reckons_with_the_dead(self):
        land = granted("zed")
        land.follow("zed", "ann")
        land.follow("ann", "bob")
        land.die(["ann"])
        self.assertEqual(land.if_died(["zed"]), [((1, 1), ("bob",))])

    def test_best_order(self):
        land = granted("ann", "bob", "cat")
        land.follow("ann", "gus")
        ahead = everything(land)
        for people in (["ann", "bob", "cat"], ["cat", "bob", "ann"], ("bob", "ann", "cat")):
            kept = list(people)
            told = land.best_order("gus", people)
            self.assertEqual(told, (("bob", "cat", "ann"), (1, 1)))
            self.assertIs(type(told), tuple)
            self.assertIs(type(told[0]), tuple)
            self.assertEqual(list(people), kept)
        self.assertEqual(land.best_order("bob", ["cat", "ann"]), (("ann", "cat"), (1, 1)))
        self.assertEqual(land.best_order("bob", ["cat"]), (("cat",), (1, 2)))
        self.assertEqual(land.best_order("bob", ["cat", "ann", "bob"]), (("ann", "bob", "cat"), (0, 1)))
        self.assertEqual(land.best_order("bob", []), ((), (1, 3)))
        self.assertEqual(land.best_order("gus", SIX[::-1]), (("bob", "cat", "ann", "dan", "eve", "fay"), (1, 1)))
        self.assertEqual(everything(land), ahead)

    def test_best_order_reckons_with_the_dead(self):
        land = granted("bob", "cat")
        land.follow("bob", "zed")
        land.follow("zed", "gus")
        self.assertEqual(land.best_order("gus", ["bob", "cat"]), (("bob", "cat"), (0, 1)))
        land.die(["zed"])
        self.assertEqual(land.best_order("gus", ["bob", "cat"]), (("cat", "bob"), (1, 1)))

    def test_no_question_changes_anything(self):
        land = storied()
        ahead = everything(land)
        for _ in range(3):
            self.assertEqual(everything(land), ahead)
        self.assertEqual(land.die(["dan"]), 8)


class OwnTest(PartsTest):
    """What is handed in and told is the caller's own; what is kept is the register's."""

    def test_lists_that_are_told_are_the_callers_own(self):
        land = storied()
        ahead = everything(land)
        for told in (land.parts(), land.deeds(), land.came_by(1), land.living(), land.held("bob"), land.stakes(),
                     land.if_died([]), land.if_died(["bob"])):
            told.reverse()
            told.append("another")
            told[0] = "something else"
            self.assertEqual(everything(land), ahead)
            told.clear()
            self.assertEqual(everything(land), ahead)
        for number in (8, 9):
            self.assertEqual(land.follow("bob", "gus"), number)
        self.assertEqual(land.back(), ("follow", "bob", "gus"))
        self.assertEqual(land.back(), ("follow", "bob", "gus"))
        self.assertEqual(everything(land), ahead)

    def test_lists_told_ahead_of_a_deed_stay(self):
        land = granted("ann", "bob")
        told = [land.parts(), land.deeds(), land.living(), land.stakes(), land.held("ann"), land.came_by(1)]
        kept = [list(row) for row in told]
        land.sever("ann", 1)
        land.die(["ann"])
        land.back()
        land.back()
        land.back()
        self.assertEqual(told, kept)

    def test_lists_that_are_handed_in_stay_and_may_be_changed_later(self):
        names = list(NAMES[::-1])
        land = Register(names)
        self.assertEqual(names, list(NAMES[::-1]))
        names.clear()
        self.assertEqual(land.living(), list(NAMES))
        receivers = ["dan", "cat"]
        holders = ["bob", "ann"]
        gone = ["eve", "dan"]
        land.grant(holders)
        land.sever("ann", 1)
        land.hand("ann", 2, 10, receivers)
        land.die(gone)
        self.assertEqual((holders, receivers, gone), (["bob", "ann"], ["dan", "cat"], ["eve", "dan"]))
        ahead = everything(land)
        for row in (holders, receivers, gone):
            row.append("fay")
            row[0] = "gus"
        self.assertEqual(everything(land), ahead)
        self.assertEqual(land.deeds(), [
            ("grant", ("ann", "bob")), ("sever", "ann", 1), ("hand", "ann", 2, 10, ("cat", "dan")),
            ("die", ("dan", "eve")),
        ])

    def test_tuples_in_the_place_of_lists(self):
        land, other = Register(NAMES), Register(list(NAMES))
        for one, kind in ((land, tuple), (other, list)):
            one.grant(kind(["bob", "ann"]))
            one.sever("bob", 1)
            one.hand("bob", 2, 3, kind(["dan", "cat"]))
            one.die(kind(["cat", "ann"]))
        self.assertEqual(everything(land), everything(other))
        self.assertEqual(land.if_died(("bob", "dan")), other.if_died(["bob", "dan"]))
        self.assertEqual(land.best_order("eve", ("dan", "bob")), other.best_order("eve", ["dan", "bob"]))

    def test_two_registers_share_nothing(self):
        names = list(NAMES)
        one, other = Register(names), Register(names)
        one.grant(["ann", "bob"])
        self.assertEqual(everything(other), everything(Register(NAMES)))
        other.grant(["ann", "bob"])
        ahead = everything(other)
        one.follow("ann", "cat")
        one.sever("ann", 1)
        one.die(["bob", "dan"])
        self.assertEqual(everything(other), ahead)
        kept = everything(one)
        other.back()
        with self.assertRaises(NothingDone):
            other.back()
        self.assertEqual(everything(one), kept)
        self.assertEqual(Register(names).living(), list(NAMES))


if __name__ == "__main__":
    unittest.main()
