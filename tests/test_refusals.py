import copy
import unittest

from jointhold.errors import BadGroup, BadNames, BadPiece, Dead, GrantedBefore, NoPart, NotGranted, NotHeld
from jointhold.errors import TooManyDeeds, TooManyParts, Unknown
from jointhold.ledger import Register
from tests.made import NAMES, NAMES_OUT, NUMBERS_OUT, SIX
from tests.made import by_many_deeds, everything, in_many_parts, many_names, with_dead

# As the crown is no person, its text is no name either where a person is to be named.
UNKNOWN = NAMES_OUT + ("CROWN",)
SEVEN = SIX + ("gus",)
FORTY = tuple(many_names(40))


def fresh():
    return Register(NAMES)


def standing():
    """Part 1 is of ann and bob, part 2 of cat alone; abe and zed are dead."""
    land = fresh()
    land.grant(["ann", "bob", "cat"])
    land.sever("cat", 1)
    return with_dead(land)


def full_of_parts():
    return with_dead(in_many_parts(fresh()))


def full_of_deeds():
    return by_many_deeds(standing())


def full_of_both():
    return by_many_deeds(full_of_parts())


class RefusalTest(unittest.TestCase):
    def check_refused(self, land, refusal, *rows):
        """Each row is a method's name and what is handed to it."""
        ahead = everything(land)
        for method, *handed in rows:
            with self.subTest(method=method, handed=handed):
                for values in (handed, [tuple(value) if isinstance(value, list) else value for value in handed]):
                    kept = copy.deepcopy(values)
                    with self.assertRaises(refusal) as caught:
                        getattr(land, method)(*values)
                    self.assertIs(type(caught.exception), refusal)
                    self.assertEqual(values, kept)
        self.assertEqual(everything(land), ahead)


class BadNamesTest(unittest.TestCase):
    def check_bad(self, names):
        for handed in (list(names), tuple(names)):
            with self.subTest(names=handed):
                kept = copy.deepcopy(handed)
                with self.assertRaises(BadNames):
                    Register(handed)
                self.assertEqual(handed, kept)

    def test_too_few_and_too_many(self):
        for count in (0, 31, 32, 40):
            self.check_bad(FORTY[:count])

    def test_names_of_no_sign_and_of_thirteen(self):
        for name in ("", "a" * 13, "a" * 20):
            self.check_bad([name])
            self.check_bad(["ann", name, "bob"])

    def test_other_signs(self):
        for name in ("Ann", "anN", "a n", " ", "ann ", " ann", "a1", "1", "~", "a-b", "a_b", "CROWN", "`", "{", "a.b"):
            self.check_bad([name])
            self.check_bad(["ann", "bob", name])

    def test_a_name_twice(self):
        self.check_bad(["ann", "ann"])
        self.check_bad(["ann", "bob", "ann"])
        self.check_bad(FORTY[:29] + FORTY[:1])

    def test_thirty_names_in_any_order_are_not_refused(self):
        rising = list(FORTY[:30])
        for names in (rising, rising[::-1], rising[11:] + rising[:11], tuple(rising[1::2] + rising[::2])):
            self.assertEqual(Register(names).living(), rising)

    def test_one_name_and_twelve_signs_are_not_refused(self):
        self.assertEqual(Register(["a"]).living(), ["a"])
        self.assertEqual(Register(["abcdefghijkl", "zzzzzzzzzzzz"]).living(), ["abcdefghijkl", "zzzzzzzzzzzz"])


class BadGroupTest(RefusalTest):
    def test_too_few(self):
        for land in (fresh(), standing(), full_of_both()):
            self.check_refused(land, BadGroup, ("grant", []), ("hand", "cat", 2, 5, []), ("die", []))

    def test_too_many(self):
        for land in (fresh(), standing(), full_of_both()):
            for names in (list(SEVEN), list(FORTY[:31]), list(FORTY)):
                self.check_refused(
                    land, BadGroup,
                    ("grant", names), ("hand", "cat", 2, 5, names), ("if_died", names), ("best_order", "ann", names),
                )
            self.check_refused(land, BadGroup, ("die", list(FORTY[:31])), ("die", list(FORTY)))

    def test_one_name_twice(self):
        for land in (fresh(), standing(), full_of_both()):
            for names in (["ann", "ann"], ["ann", "bob", "ann"], ["zzz", "bob", "zzz"], ["CROWN", "CROWN"]):
                self.check_refused(
                    land, BadGroup,
                    ("grant", names), ("hand", "cat", 2, 5, names), ("die", names), ("if_died", names),
                    ("best_order", "ann", names),
                )

    def test_groups_of_the_most_are_not_refused(self):
        land = fresh()
        self.assertEqual(land.grant(SIX), 1)
        self.assertEqual(len(land.if_died(SIX)), 1)
        self.assertEqual(land.best_order("gus", SIX), (SIX, (0, 1)))
        self.assertEqual(land.if_died([]), [((1, 1), SIX)])
        self.assertEqual(land.best_order("ann", []), ((), (1, 6)))
        self.assertEqual(land.die(NAMES), 2)

    def test_ahead_of_all_else(self):
        twice = ["zed", "zzz", "zed"]
        self.check_refused(fresh(), BadGroup, ("hand", "zzz", 9, 0, []), ("die", ["zzz", "zzz"]))
        for land in (standing(), full_of_parts(), full_of_deeds(), full_of_both()):
            self.check_refused(
                land, BadGroup,
                ("grant", twice), ("grant", []), ("die", twice), ("die", list(FORTY[:31])),
                ("hand", "zzz", 1, 5, twice), ("hand", "abe", 99, 0, []), ("hand", "ann", 99, 0, list(SEVEN)),
                ("if_died", twice), ("if_died", list(FORTY[:7])),
                ("best_order", "zzz", twice), ("best_order", "abe", list(FORTY[:7])),
            )


class UnknownTest(RefusalTest):
    def test_of_each_deed_and_question(self):
        for land in (fresh(), standing()):
            for name in UNKNOWN:
                self.check_refused(
                    land, Unknown,
                    ("grant", [name]), ("grant", ["ann", name]), ("sever", name, 1), ("hand", name, 2, 5, ["ann"]),
                    ("hand", "cat", 2, 5, [name]), ("hand", "cat", 2, 5, ["ann", name]), ("follow", name, "ann"),
                    ("follow", "ann", name), ("die", [name]), ("die", ["ann", name]), ("follower", name),
                    ("if_died", [name]), ("if_died", ["ann", name]), ("best_order", name, []),
                    ("best_order", name, ["ann"]), ("best_order", "ann", [name]), ("best_order", "ann", ["bob", name]),
                )

    def test_of_questions_that_the_crown_may_be_asked_of(self):
        for land in (fresh(), standing()):
            for name in NAMES_OUT:
                self.check_refused(land, Unknown, ("held", name), ("stake", name))
            self.assertEqual((land.held("CROWN"), land.stake("CROWN")), ([], (0, 1)))

    def test_ahead_of_dead_whoever_is_named_first(self):
        self.check_refused(
            standing(), Unknown,
            ("grant", ["abe", "zzz"]), ("grant", ["zzz", "abe"]), ("grant", ["zed", "aaa"]),
            ("grant", ["abe", "aa", "zed"]),
            ("hand", "abe", 2, 5, ["zzz"]), ("hand", "zzz", 2, 5, ["abe"]), ("hand", "cat", 2, 5, ["abe", "zzz"]),
            ("hand", "cat", 2, 5, ["zed", "aaa"]), ("follow", "abe", "zzz"), ("follow", "zzz", "abe"),
            ("follow", "abe", "CROWN"), ("die", ["abe", "zzz"]), ("die", ["zed", "aaa"]),
            ("if_died", ["abe", "zzz"]), ("if_died", ["zed", "aaa"]), ("best_order", "abe", ["zzz"]),
            ("best_order", "zzz", ["abe"]), ("best_order", "ann", ["abe", "zzz"]),
            ("best_order", "ann", ["zed", "aaa"]),
        )

    def test_ahead_of_what_the_deeds_refuse(self):
        self.check_refused(
            fresh(), Unknown,
            ("sever", "zzz", 1), ("sever", "zzz", 0), ("hand", "zzz", 9, 0, ["ann"]), ("hand", "ann", 9, 0, ["zzz"]),
            ("follow", "ann", "zzz"), ("follow", "CROWN", "ann"), ("die", ["zzz"]),
        )
        for land in (standing(), full_of_parts(), full_of_deeds(), full_of_both()):
            self.check_refused(
                land, Unknown,
                ("grant", ["zzz"]), ("sever", "zzz", 99), ("sever", "zzz", 1), ("sever", "zzz", 2),
                ("hand", "zzz", 99, 0, ["ann"]), ("hand", "ann", 99, 0, ["zzz"]), ("hand", "ann", 1, 0, ["zzz"]),
                ("hand", "ann", 1, 5, ["zzz"]), ("follow", "ann", "zzz"), ("die", ["ann", "bob", "zzz"]),
            )


class DeadTest(RefusalTest):
    def test_of_each_deed_and_question(self):
        for name in ("abe", "zed"):
            self.check_refused(
                standing(), Dead,
                ("grant", [name]), ("grant", ["ann", name]), ("sever", name, 1), ("hand", name, 2, 5, ["ann"]),
                ("hand", "cat", 2, 5, [name]), ("hand", "cat", 2, 20, ["ann", name]), ("follow", name, "ann"),
                ("follow", "ann", name), ("follow", name, name), ("die", [name]), ("die", ["ann", name]),
                ("if_died", [name]), ("if_died", ["ann", name]), ("best_order", name, []),
                ("best_order", name, ["ann"]), ("best_order", "ann", [name]), ("best_order", "ann", ["bob", name]),
                ("best_order", name, [name]),
            )

    def test_one_who_held_a_part(self):
        land = standing()
        land.die(["bob"])
        self.check_refused(land, Dead, ("sever", "bob", 1), ("hand", "bob", 1, 5, ["ann"]), ("if_died", ["bob"]))
        land.back()
        self.assertEqual(land.sever("bob", 1), 4)

    def test_those_who_die_once_do_not_die_again(self):
        land = standing()
        self.assertEqual(land.die(["ann"]), 4)
        self.check_refused(land, Dead, ("die", ["ann"]), ("die", ["bob", "ann"]))
        self.assertEqual(land.die(["bob"]), 5)

    def test_ahead_of_what_the_deeds_refuse(self):
        for land in (standing(), full_of_parts(), full_of_deeds(), full_of_both()):
            self.check_refused(
                land, Dead,
                ("grant", ["abe"]), ("grant", ["ann", "zed"]), ("sever", "abe", 99), ("sever", "zed", 1),
                ("sever", "zed", 2), ("hand", "abe", 99, 0, ["ann"]), ("hand", "ann", 99, 0, ["zed"]),
                ("hand", "ann", 1, 0, ["zed"]), ("hand", "ann", 1, 5, ["zed"]), ("follow", "ann", "zed"),
                ("die", ["ann", "bob", "zed"]),
            )


class GrantTest(RefusalTest):
    def test_deeds_ahead_of_the_grant(self):
        land = fresh()
        self.check_refused(
            land, NotGranted,
            ("sever", "ann", 1), ("sever", "ann", 0), ("hand", "ann", 1, 5, ["bob"]), ("hand", "ann", 0, 5, ["ann"]),
            ("hand", "ann", 1, 0, ["bob"]), ("hand", "ann", 99, 21, ["bob"]), ("follow", "ann", "bob"),
            ("follow", "ann", "ann"), ("die", ["ann"]), ("die", list(NAMES)),
        )
        land.grant(["ann"])
        land.back()
        self.check_refused(
            land, NotGranted,
            ("sever", "ann", 1), ("hand", "ann", 1, 5, ["bob"]), ("follow", "ann", "bob"), ("die", ["ann"]),
        )
        self.assertEqual(land.grant(["bob"]), 1)

    def test_a_second_grant(self):
        for land in (standing(), full_of_parts(), full_of_deeds(), full_of_both()):
            self.check_refused(land, GrantedBefore, ("grant", ["ann"]), ("grant", list(SIX)), ("grant", ["hal", "ann"]))

    def test_a_second_grant_straight_behind_the_first(self):
        land = fresh()
        land.grant(["ann"])
        self.check_refused(land, GrantedBefore, ("grant", ["ann"]), ("grant", ["bob"]))

    def test_questions_are_not_refused_ahead_of_the_grant(self):
        land = fresh()
        self.assertEqual(land.if_died(["ann"]), [])
        self.assertEqual(land.best_order("ann", ["bob"]), (("bob",), (0, 1)))


class PartRefusalTest(RefusalTest):
    def test_no_part(self):
        for land in (standing(), full_of_parts(), full_of_deeds(), full_of_both()):
            for number in NUMBERS_OUT + (61, len(land.parts()) + 1):
                self.check_refused(
                    land, NoPart,
                    ("sever", "ann", number), ("sever", "hal", number), ("hand", "cat", number, 5, ["ann"]),
                    ("hand", "cat", number, 20, ["ann"]), ("hand", "hal", number, 0, ["ann"]), ("came_by", number),
                )

    def test_no_part_is_come_by_where_no_deed_stands(self):
        self.check_refused(fresh(), NoPart, ("came_by", 1), ("came_by", 0), ("came_by", -1), ("came_by", 10**60))

    def test_not_held(self):
        for land in (standing(), full_of_deeds()):
            self.check_refused(
                land, NotHeld,
                ("sever", "cat", 1), ("sever", "cat", 2), ("sever", "ann", 2), ("sever", "hal", 1),
                ("hand", "ann", 1, 5, ["ann"]), ("hand", "cat", 1, 5, ["ann"]), ("hand", "ann", 2, 20, ["ann"]),
                ("hand", "hal", 2, 0, ["ann"]), ("hand", "ann", 1, 21, ["bob"]),
            )
        for land in (full_of_parts(), full_of_both()):
            self.check_refused(
                land, NotHeld,
                ("sever", "ann", 1), ("sever", "cat", 2), ("sever", "bob", 60), ("hand", "ann", 2, 5, ["ann"]),
                ("hand", "bob", 60, 0, ["ann"]), ("hand", "bob", 1, 20, ["ann"]),
            )

    def test_a_part_of_the_crown(self):
        land = standing()
        land.die(["cat"])
        self.assertEqual(land.held("CROWN"), [2])
        self.check_refused(land, NotHeld, ("sever", "ann", 2), ("hand", "ann", 2, 5, ["ann"]))
        self.check_refused(land, Unknown, ("sever", "CROWN", 2), ("hand", "CROWN", 2, 5, ["ann"]))

    def test_bad_piece(self):
        for twentieths in (0, -1, -20, 21, 22, 10**60, -(10**60)):
            for land in (standing(), full_of_deeds()):
                self.check_refused(land, BadPiece, ("hand", "cat", 2, twentieths, ["ann"]))
            for land in (full_of_parts(), full_of_both()):
                self.check_refused(land, BadPiece, ("hand", "ann", 1, twentieths, ["ann", "bob"]))


class TooManyTest(RefusalTest):
    def test_too_many_parts(self):
        for land in (full_of_parts(), full_of_both()):
            self.assertEqual(len(land.parts()), 60)
            self.check_refused(
                land, TooManyParts,
                ("sever", "ann", 2), ("sever", "bob", 2), ("hand", "ann", 1, 5, ["bob"]),
                ("hand", "ann", 60, 19, ["ann"]), ("die", ["ann", "bob"]), ("die", ["cat", "bob", "ann"]),
            )

    def test_what_makes_no_new_part_is_not_refused(self):
        land = full_of_parts()
        self.assertEqual(land.hand("ann", 60, 20, ["cat", "dan"]), 62)
        self.assertEqual(land.die(["bob"]), 63)
        self.assertEqual(land.die(["ann"]), 64)
        self.assertEqual(len(land.parts()), 60)
        self.check_refused(land, TooManyParts, ("sever", "cat", 60), ("die", ["dan", "cat"]))

    def test_too_many_deeds(self):
        land = full_of_deeds()
        self.assertEqual(len(land.deeds()), 200)
        self.check_refused(
            land, TooManyDeeds,
            ("sever", "ann", 1), ("hand", "cat", 2, 5, ["ann"]), ("hand", "cat", 2, 20, ["ann"]),
            ("follow", "ann", "bob"), ("follow", "cat", "cat"), ("die", ["ann"]), ("die", ["ann", "bob"]),
        )
        self.check_refused(
            full_of_both(), TooManyDeeds,
            ("hand", "ann", 1, 20, ["bob"]), ("follow", "ann", "bob"), ("die", ["bob"]), ("die", ["ann"]),
        )

    def test_the_two_hundredth_deed_is_not_refused(self):
        for deed in (("sever", "ann", 1), ("hand", "cat", 2, 5, ["ann"]), ("follow", "ann", "bob"), ("die", ["ann"])):
            land = full_of_deeds()
            land.back()
            self.assertEqual(getattr(land, deed[0])(*deed[1:]), 200)
            self.check_refused(land, TooManyDeeds, ("follow", "bob", "bob"))

    def test_questions_are_answered_behind_two_hundred_deeds(self):
        land = full_of_both()
        self.assertEqual(len(land.if_died(["ann", "bob"])), 60)
        self.assertEqual(land.best_order("bob", ["ann"]), (("ann",), (1, 1)))


class NumberTest(RefusalTest):
    def test_a_refused_deed_takes_no_number(self):
        land = fresh()
        self.check_refused(land, NotGranted, ("follow", "ann", "bob"))
        self.assertEqual(land.grant(["ann", "bob"]), 1)
        self.check_refused(land, GrantedBefore, ("grant", ["ann"]))
        self.check_refused(land, NoPart, ("sever", "ann", 2))
        self.check_refused(land, NotHeld, ("hand", "ann", 1, 5, ["bob"]))
        self.check_refused(land, Unknown, ("follow", "ann", "zzz"))
        self.check_refused(land, BadGroup, ("die", []))
        self.assertEqual(land.sever("ann", 1), 2)
        self.check_refused(land, BadPiece, ("hand", "ann", 2, 21, ["bob"]))
        self.assertEqual(land.follow("ann", "bob"), 3)
        self.assertEqual(len(land.deeds()), 3)
        self.assertEqual(land.back(), ("follow", "ann", "bob"))


if __name__ == "__main__":
    unittest.main()
