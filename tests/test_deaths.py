import copy
import unittest
from fractions import Fraction

from jointhold.deaths import parts_after
from jointhold.errors import TooManyParts
from jointhold.parts import first_part
from tests.made import LARGEST, SIX, PartsTest
from tests.made import grant_step, granted_part, like_parts, many_names, mixed_parts, told, touched_part

# Everybody of SIX is followed by somebody else who lives.
UNLIKE = {"ann": "gus", "bob": "hal", "cat": "ida", "dan": "joe", "eve": "kim", "fay": "lea"}


def rows_of(names):
    """The names in some orders, each as a list and as a tuple."""
    rising = sorted(names)
    rows = [rising, rising[::-1], rising[1:] + rising[:1], rising[1::2] + rising[::2]]
    return rows + [tuple(row) for row in rows]


class DeathsTest(PartsTest):
    def check_after(self, parts, gone, follows, dead, deed, awaited):
        for row in rows_of(gone):
            for dead_handed in (list(dead), tuple(dead)):
                ahead = copy.deepcopy((row, follows, dead_handed))
                self.check_behind(lambda handed: parts_after(handed, row, follows, dead_handed, deed), parts, awaited)
                self.assertEqual((row, follows, dead_handed), ahead)

    def check_too_many(self, parts, gone, follows=UNLIKE, dead=()):
        for row in rows_of(gone):
            for dead_handed in (list(dead), tuple(dead)):
                ahead = copy.deepcopy((row, follows, dead_handed))
                self.check_refused(
                    lambda handed: parts_after(handed, row, follows, dead_handed, 10), parts, TooManyParts
                )
                self.assertEqual((row, follows, dead_handed), ahead)

    def check_fallen(self, part, heirs, follows, dead=(), deed=10):
        """All holders of a part that stands alone die; reckons what is awaited of point 11's own words."""
        share, holders, trail = part
        piece = told(Fraction(*share) / len(holders))
        awaited = [
            (piece, (heir,), trail + ((deed, number, piece, (heir,)),)) for number, heir in enumerate(heirs, start=1)
        ]
        self.check_after([part], holders, follows, dead, deed, awaited)


class HoldersLeftTest(DeathsTest):
    def test_one_of_several_holders(self):
        grant = grant_step(("ann", "bob", "cat"))
        for gone, left in (("ann", ("bob", "cat")), ("bob", ("ann", "cat")), ("cat", ("ann", "bob"))):
            self.check_after([granted_part(("ann", "bob", "cat"))], [gone], UNLIKE, [], 2, [
                ((1, 1), left, (grant, (2, 1, (1, 1), left))),
            ])

    def test_one_of_two_holders_leaves_a_lone_part(self):
        grant = grant_step(("ann", "bob"))
        self.check_after([granted_part(("ann", "bob"))], ["ann"], UNLIKE, [], 200, [
            ((1, 1), ("bob",), (grant, (200, 1, (1, 1), ("bob",)))),
        ])

    def test_all_but_one(self):
        grant = grant_step(SIX)
        for name in SIX:
            gone = [other for other in SIX if other != name]
            self.check_after([granted_part(SIX)], gone, UNLIKE, [], 2, [
                ((1, 1), (name,), (grant, (2, 1, (1, 1), (name,)))),
            ])

    def test_the_share_stays_as_it_is(self):
        part = touched_part(1, (3, 7), ("ann", "bob", "cat"))
        self.check_after([part], ["ann", "cat"], {}, [], 10, [
            ((3, 7), ("bob",), part[2] + ((10, 1, (3, 7), ("bob",)),)),
        ])

    def test_no_heir_comes_in_where_a_holder_is_left(self):
        part = touched_part(1, (1, 2), ("ann", "bob"))
        self.check_after([part], ["ann"], {"ann": "cat"}, [], 10, [
            ((1, 2), ("bob",), part[2] + ((10, 1, (1, 2), ("bob",)),)),
        ])


class FallenTest(DeathsTest):
    def test_the_one_holder(self):
        grant = grant_step(("ann",))
        self.check_after([granted_part(("ann",))], ["ann"], {"ann": "bob"}, [], 2, [
            ((1, 1), ("bob",), (grant, (2, 1, (1, 1), ("bob",)))),
        ])
        self.check_after([granted_part(("ann",))], ["ann"], {}, [], 2, [
            ((1, 1), ("CROWN",), (grant, (2, 1, (1, 1), ("CROWN",)))),
        ])

    def test_both_of_two_holders(self):
        grant = grant_step(("ann", "bob"))
        self.check_after([granted_part(("ann", "bob"))], ["ann", "bob"], {"ann": "dan", "bob": "cat"}, [], 2, [
            ((1, 2), ("dan",), (grant, (2, 1, (1, 2), ("dan",)))),
            ((1, 2), ("cat",), (grant, (2, 2, (1, 2), ("cat",)))),
        ])

    def test_all_of_six_holders_with_unlike_heirs(self):
        self.check_fallen(granted_part(SIX), ["gus", "hal", "ida", "joe", "kim", "lea"], UNLIKE)
        backwards = dict(zip(SIX, ["lea", "kim", "joe", "ida", "hal", "gus"]))
        self.check_fallen(granted_part(SIX), ["lea", "kim", "joe", "ida", "hal", "gus"], backwards)

    def test_like_heirs_are_not_put_together(self):
        self.check_fallen(touched_part(1, (1, 2), ("ann", "bob")), ["gus", "gus"], {"ann": "gus", "bob": "gus"})
        self.check_fallen(granted_part(SIX), ["gus"] * 6, {name: "gus" for name in SIX})

    def test_an_heir_who_has_a_like_part_already(self):
        parts = [touched_part(1, (1, 4), ("gus",)), touched_part(2, (1, 4), ("ann",))]
        self.check_after(parts, ["ann"], {"ann": "gus"}, [], 10, [
            parts[0],
            ((1, 4), ("gus",), parts[1][2] + ((10, 2, (1, 4), ("gus",)),)),
        ])

    def test_the_crown_as_heir_of_some(self):
        self.check_fallen(touched_part(1, (1, 2), ("ann", "bob")), ["CROWN", "gus"], {"bob": "gus"})
        self.check_fallen(touched_part(1, (1, 2), ("ann", "bob")), ["gus", "CROWN"], {"ann": "gus"})
        self.check_fallen(
            granted_part(SIX), ["CROWN", "gus", "CROWN", "gus", "ida", "CROWN"],
            {"bob": "gus", "dan": "gus", "eve": "ida", "fay": "fay"},
        )

    def test_the_crown_as_heir_of_all(self):
        self.check_fallen(touched_part(1, (1, 2), ("ann", "bob")), ["CROWN"] * 2, {})
        self.check_fallen(granted_part(SIX), ["CROWN"] * 6, {})
        self.check_fallen(granted_part(SIX), ["CROWN"] * 6, dict(zip(SIX, SIX[1:] + SIX[:1])))

    def test_each_count_of_holders_and_a_share_in_lowest_terms(self):
        for count in range(1, 7):
            heirs = [UNLIKE[name] for name in SIX[:count]]
            self.check_fallen(touched_part(1, (6, 7), SIX[:count]), heirs, UNLIKE)
            self.check_fallen(touched_part(1, (60, 61), SIX[:count]), heirs, UNLIKE)

    def test_numbers_of_four_hundred_digits(self):
        for share in ((LARGEST - 1, LARGEST), (1, LARGEST), (LARGEST, 1)):
            self.check_fallen(touched_part(1, share, ("ann", "bob", "cat")), ["gus", "hal", "ida"], UNLIKE)

    def test_trails_are_taken_over_as_they_are(self):
        for trail in ((), ((5, 3, (1, 9), ("gus",)), (4, 1, (7, 2), ("hal", "ida")))):
            self.check_fallen(((1, 2), ("ann", "bob"), trail), ["gus", "hal"], UNLIKE)
            self.check_after([((1, 2), ("ann", "bob"), trail)], ["ann"], UNLIKE, [], 10, [
                ((1, 2), ("bob",), trail + ((10, 1, (1, 2), ("bob",)),)),
            ])


class HeirsTest(DeathsTest):
    """Who is the heir where several die together."""

    def test_the_way_goes_through_others_who_die_together(self):
        parts = [touched_part(1, (1, 2), ("ann",))]
        follows = {"ann": "bob", "bob": "cat", "cat": "dan"}
        for gone, heir in ((["ann"], "bob"), (["ann", "bob"], "cat"), (["ann", "bob", "cat"], "dan"),
                           (["ann", "cat"], "bob"), (["ann", "bob", "cat", "dan"], "CROWN")):
            self.check_after(parts, gone, follows, [], 10, [
                ((1, 2), (heir,), parts[0][2] + ((10, 1, (1, 2), (heir,)),)),
            ])

    def test_those_of_one_part_who_follow_one_another(self):
        self.check_fallen(touched_part(1, (1, 2), ("ann", "bob")), ["gus", "gus"], {"ann": "bob", "bob": "gus"})
        self.check_fallen(touched_part(1, (1, 2), ("ann", "bob")), ["gus", "gus"], {"bob": "ann", "ann": "gus"})
        self.check_fallen(touched_part(1, (1, 2), ("ann", "bob")), ["CROWN", "CROWN"], {"ann": "bob", "bob": "ann"})

    def test_the_way_goes_through_those_dead_already_too(self):
        follows = {"ann": "xan", "xan": "bob", "bob": "yve", "yve": "gus"}
        self.check_fallen(touched_part(1, (1, 2), ("ann", "bob")), ["gus", "gus"], follows, ["yve", "xan"])

    def test_a_way_that_comes_round_through_the_dead_and_those_who_die(self):
        follows = {"ann": "xan", "xan": "bob", "bob": "ann"}
        self.check_fallen(touched_part(1, (1, 2), ("ann", "bob")), ["CROWN", "CROWN"], follows, ["xan"])
        self.check_fallen(touched_part(1, (1, 2), ("ann", "bob")), ["xan", "xan"], follows)

    def test_one_who_dies_holding_nothing_is_no_heir(self):
        parts = [touched_part(1, (1, 2), ("ann",)), touched_part(2, (1, 2), ("bob", "cat"))]
        self.check_after(parts, ["ann", "dan"], {"ann": "dan", "dan": "cat"}, [], 10, [
            ((1, 2), ("cat",), parts[0][2] + ((10, 1, (1, 2), ("cat",)),)),
            parts[1],
        ])


class SeveralPartsTest(DeathsTest):
    def test_two_parts_fall_and_the_new_ones_of_the_lower_number_come_first(self):
        parts = [
            touched_part(1, (1, 2), ("cat", "dan")),
            touched_part(2, (1, 6), ("gus",)),
            touched_part(3, (1, 3), ("ann", "bob", "cat")),
        ]
        first, third = parts[0][2], parts[2][2]
        self.check_after(parts, ["ann", "bob", "cat", "dan"], UNLIKE, [], 10, [
            ((1, 4), ("ida",), first + ((10, 1, (1, 4), ("ida",)),)),
            parts[1],
            ((1, 9), ("gus",), third + ((10, 3, (1, 9), ("gus",)),)),
            ((1, 4), ("joe",), first + ((10, 4, (1, 4), ("joe",)),)),
            ((1, 9), ("hal",), third + ((10, 5, (1, 9), ("hal",)),)),
            ((1, 9), ("ida",), third + ((10, 6, (1, 9), ("ida",)),)),
        ])

    def test_one_part_falls_and_of_another_a_holder_is_left(self):
        parts = [touched_part(1, (2, 3), ("ann", "bob", "gus")), touched_part(2, (1, 3), ("ann", "bob"))]
        first, second = parts[0][2], parts[1][2]
        self.check_after(parts, ["ann", "bob"], UNLIKE, [], 10, [
            ((2, 3), ("gus",), first + ((10, 1, (2, 3), ("gus",)),)),
            ((1, 6), ("gus",), second + ((10, 2, (1, 6), ("gus",)),)),
            ((1, 6), ("hal",), second + ((10, 3, (1, 6), ("hal",)),)),
        ])

    def test_parts_with_longer_trails_among_others(self):
        parts = mixed_parts()
        self.assertEqual([len(part[2]) for part in parts], [2, 2, 5, 2, 5, 2, 5])

        def step(number, share, holders):
            return parts[number - 1][2] + ((10, number, share, holders),)

        rest = ("bob", "cat", "eve", "fay")
        self.check_after(parts, ["ann", "dan"], {"ann": "gus", "dan": "bob"}, [], 10, [
            ((1, 4), ("bob", "cat"), step(1, (1, 4), ("bob", "cat"))),
            ((1, 8), ("gus",), step(2, (1, 8), ("gus",))),
            ((3, 32), ("gus",), step(3, (3, 32), ("gus",))),
            parts[3],
            parts[4],
            ((1, 24), rest, step(6, (1, 24), rest)),
            parts[6],
            ((3, 32), ("bob",), parts[2][2] + ((10, 8, (3, 32), ("bob",)),)),
        ])

    def test_the_crowns_parts_and_parts_of_others_are_not_touched(self):
        parts = mixed_parts()
        self.check_after(parts, ["gus"], UNLIKE, [], 10, parts)
        self.check_after(parts, ["gus", "hal", "ida"], {}, [], 10, parts)
        after = parts_after(parts, ["ann"], {}, [], 10)
        for number in (4, 5, 7):
            self.assertEqual(after[number - 1], parts[number - 1])

    def test_a_name_within_a_holders_name(self):
        parts = [touched_part(1, (1, 2), ("anna", "bob")), touched_part(2, (1, 2), ("annb",))]
        self.check_after(parts, ["ann"], {}, [], 10, parts)

    def test_no_parts_at_all(self):
        self.assertEqual(parts_after([], ["ann"], {}, [], 2), [])
        self.assertEqual(parts_after((), ("ann", "bob"), {}, (), 2), [])

    def test_thirty_die_at_once(self):
        names = many_names(30)
        follows = {names[k]: names[k + 1] for k in range(29)}
        parts = [touched_part(k + 1, (1, 5), tuple(names[6 * k:6 * k + 6])) for k in range(5)]
        crown = ("CROWN",)
        awaited = [((1, 30), crown, part[2] + ((10, k + 1, (1, 30), crown),)) for k, part in enumerate(parts)]
        for k in range(5):
            for further in range(5):
                awaited.append(((1, 30), crown, parts[k][2] + ((10, 6 + 5 * k + further, (1, 30), crown),)))
        self.check_after(parts, names, follows, [], 10, awaited)
        follows[names[29]] = "zoe"
        heir = ("zoe",)
        after = parts_after(parts, names, follows, [], 10)
        self.assertEqual([part[1] for part in after], [heir] * 30)

    def test_one_after_another(self):
        parts = [first_part(("ann", "bob"))]
        follows = {"ann": "bob", "bob": "cat", "cat": "ann"}
        parts = parts_after(parts, ["ann"], follows, [], 2)
        parts = parts_after(parts, ["bob"], follows, ["ann"], 3)
        parts = parts_after(parts, ["cat"], follows, ["ann", "bob"], 4)
        self.assertEqual(parts, [((1, 1), ("CROWN",), (
            grant_step(("ann", "bob")),
            (2, 1, (1, 1), ("bob",)),
            (3, 1, (1, 1), ("cat",)),
            (4, 1, (1, 1), ("CROWN",)),
        ))])

    def test_together_is_not_one_after_another(self):
        parts = [first_part(("ann", "bob"))]
        follows = {"ann": "gus", "bob": "hal"}
        together = parts_after(parts, ["ann", "bob"], follows, [], 2)
        self.assertEqual([part[1] for part in together], [("gus",), ("hal",)])
        once = parts_after(parts, ["ann"], follows, [], 2)
        self.assertEqual([part[1] for part in parts_after(once, ["bob"], follows, ["ann"], 3)], [("hal",)])


class HowManyTest(DeathsTest):
    def test_sixty_parts_where_lone_ones_fall(self):
        parts = like_parts(60, ("ann",))
        awaited = [(part[0], ("gus",), part[2] + ((10, number, part[0], ("gus",)),))
                   for number, part in enumerate(parts, start=1)]
        self.check_after(parts, ["ann"], UNLIKE, [], 10, awaited)

    def test_sixty_parts_where_a_holder_is_left(self):
        parts = like_parts(60, ("ann", "bob"))
        awaited = [(part[0], ("bob",), part[2] + ((10, number, part[0], ("bob",)),))
                   for number, part in enumerate(parts, start=1)]
        self.check_after(parts, ["ann"], UNLIKE, [], 10, awaited)

    def test_sixty_parts_where_a_joint_one_falls(self):
        for place in (0, 30, 59):
            parts = like_parts(60, ("gus",))
            parts[place] = touched_part(place + 1, (1, 60), ("ann", "bob"))
            self.check_too_many(parts, ["ann", "bob"])
        self.check_too_many(like_parts(60, ("ann", "bob")), ["ann", "bob"])
        self.check_too_many(like_parts(60, SIX), SIX, {})

    def test_fifty_nine_parts_where_one_of_two_holders_falls(self):
        for place in (0, 30, 58):
            parts = like_parts(59, ("gus",))
            part = touched_part(place + 1, (1, 60), ("ann", "bob"))
            parts[place] = part
            awaited = list(parts)
            awaited[place] = ((1, 120), ("gus",), part[2] + ((10, place + 1, (1, 120), ("gus",)),))
            awaited.append(((1, 120), ("hal",), part[2] + ((10, 60, (1, 120), ("hal",)),)))
            self.check_after(parts, ["ann", "bob"], UNLIKE, [], 10, awaited)

    def test_fifty_nine_parts_where_one_of_three_holders_falls(self):
        for place in (0, 30, 58):
            parts = like_parts(59, ("gus",))
            parts[place] = touched_part(place + 1, (1, 60), ("ann", "bob", "cat"))
            self.check_too_many(parts, ["ann", "bob", "cat"])

    def test_two_that_fall_count_together(self):
        joint = [touched_part(1, (1, 60), ("ann", "bob")), touched_part(2, (1, 60), ("ann", "bob"))]
        others = like_parts(60, ("gus",))
        after = parts_after(joint + others[2:58], ["ann", "bob"], UNLIKE, [], 10)
        self.assertEqual(len(after), 60)
        self.check_too_many(joint + others[2:59], ["ann", "bob"])

    def test_fifty_five_parts_where_one_of_six_holders_falls(self):
        parts = like_parts(55, ("gus",))
        parts[7] = touched_part(8, (1, 60), SIX)
        self.assertEqual(len(parts_after(parts, SIX, {}, [], 10)), 60)
        parts.append(touched_part(56, (1, 60), ("gus",)))
        self.check_too_many(parts, SIX, {})
        self.check_too_many(parts, SIX, {"ann": "xan"}, ["xan"])


if __name__ == "__main__":
    unittest.main()
