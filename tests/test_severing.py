import unittest
from fractions import Fraction

from jointhold.errors import NoPart, NotHeld, TooManyParts
from jointhold.parts import first_part
from jointhold.severing import sever_part
from tests.made import LARGEST, NUMBERS_OUT, SIX, PartsTest
from tests.made import grant_step, granted_part, like_parts, mixed_parts, told, touched_part


class SeveringTest(PartsTest):
    def check_severed(self, parts, number, name, deed, awaited):
        self.check_behind(lambda handed: sever_part(handed, number, name, deed), parts, awaited)

    def check_not_severed(self, parts, number, name, refusal):
        self.check_refused(lambda handed: sever_part(handed, number, name, 10), parts, refusal)

    def check_severed_of(self, parts, number, name, deed):
        """Reckons what is awaited of point 7's own words."""
        share, holders, trail = parts[number - 1]
        others = tuple(holder for holder in holders if holder != name)
        left = told(Fraction(*share) * (len(holders) - 1) / len(holders))
        out = told(Fraction(*share) / len(holders))
        awaited = list(parts)
        awaited[number - 1] = (left, others, trail + ((deed, number, left, others),))
        awaited.append((out, (name,), trail + ((deed, len(parts) + 1, out, (name,)),)))
        self.check_severed(parts, number, name, deed, awaited)


class SeveredTest(SeveringTest):
    def test_the_example_of_point_five(self):
        grant = (1, 1, (1, 1), ("ann", "bob", "cat"))
        self.check_severed([((1, 1), ("ann", "bob", "cat"), (grant,))], 1, "bob", 2, [
            ((2, 3), ("ann", "cat"), (grant, (2, 1, (2, 3), ("ann", "cat")))),
            ((1, 3), ("bob",), (grant, (2, 2, (1, 3), ("bob",)))),
        ])

    def test_of_two_holders_a_lone_part_is_left(self):
        grant = grant_step(("ann", "bob"))
        for name, other in (("ann", "bob"), ("bob", "ann")):
            self.check_severed([granted_part(("ann", "bob"))], 1, name, 2, [
                ((1, 2), (other,), (grant, (2, 1, (1, 2), (other,)))),
                ((1, 2), (name,), (grant, (2, 2, (1, 2), (name,)))),
            ])

    def test_of_six_holders(self):
        grant = grant_step(SIX)
        others = ("ann", "bob", "cat", "eve", "fay")
        self.check_severed([granted_part(SIX)], 1, "dan", 200, [
            ((5, 6), others, (grant, (200, 1, (5, 6), others))),
            ((1, 6), ("dan",), (grant, (200, 2, (1, 6), ("dan",)))),
        ])

    def test_each_holder_of_each_count(self):
        for count in range(2, 7):
            for name in SIX[:count]:
                self.check_severed_of([granted_part(SIX[:count])], 1, name, 2)
                self.check_severed_of([touched_part(1, (6, 7), SIX[:count])], 1, name, 10)

    def test_a_part_among_others_with_a_longer_trail(self):
        parts = mixed_parts()
        trail = parts[2][2]
        self.assertEqual(len(trail), 5)
        self.check_severed(parts, 3, "dan", 10, parts[:2] + [
            ((3, 32), ("ann",), trail + ((10, 3, (3, 32), ("ann",)),)),
        ] + parts[3:] + [
            ((3, 32), ("dan",), trail + ((10, 8, (3, 32), ("dan",)),)),
        ])

    def test_the_first_and_the_last_of_several_parts(self):
        parts = mixed_parts()
        self.check_severed_of(parts, 1, "ann", 10)
        self.check_severed_of(parts, 6, "fay", 10)
        self.check_severed_of(parts[:6], 6, "ann", 10)

    def test_two_like_parts_stay_two(self):
        parts = [touched_part(1, (1, 2), ("ann", "bob")), touched_part(2, (1, 4), ("ann",))]
        self.check_severed_of(parts, 1, "ann", 10)
        self.check_severed_of(parts, 1, "bob", 10)

    def test_shares_are_told_in_lowest_terms(self):
        parts = [touched_part(1, (3, 4), ("ann", "bob", "cat"))]
        answer = sever_part(parts, 1, "ann", 10)
        self.assertEqual([part[0] for part in answer], [(1, 2), (1, 4)])
        self.assertEqual([part[2][-1][2] for part in answer], [(1, 2), (1, 4)])

    def test_trails_are_taken_over_as_they_are(self):
        for trail in ((), ((5, 3, (1, 9), ("gus",)), (4, 1, (7, 2), ("hal", "ida")))):
            self.check_severed_of([((1, 2), ("ann", "bob"), trail)], 1, "ann", 10)

    def test_shares_that_do_not_come_to_one(self):
        self.check_severed_of([touched_part(1, (9, 2), ("ann", "bob", "cat"))], 1, "cat", 10)
        self.check_severed_of([touched_part(1, (1, 100), ("ann", "bob", "cat"))], 1, "cat", 10)

    def test_numbers_of_four_hundred_digits(self):
        self.check_severed_of([touched_part(1, (LARGEST - 1, LARGEST), SIX)], 1, "bob", 10)
        self.check_severed_of([touched_part(1, (1, LARGEST), SIX[:5])], 1, "bob", 10)

    def test_one_after_another(self):
        parts = [first_part(("ann", "bob", "cat"))]
        parts = sever_part(parts, 1, "bob", 2)
        parts = sever_part(parts, 1, "cat", 3)
        grant = grant_step(("ann", "bob", "cat"))
        second = (2, 1, (2, 3), ("ann", "cat"))
        self.assertEqual(parts, [
            ((1, 3), ("ann",), (grant, second, (3, 1, (1, 3), ("ann",)))),
            ((1, 3), ("bob",), (grant, (2, 2, (1, 3), ("bob",)))),
            ((1, 3), ("cat",), (grant, second, (3, 3, (1, 3), ("cat",)))),
        ])

    def test_the_sixtieth_part(self):
        self.check_severed_of(like_parts(59, ("ann", "bob")), 59, "bob", 10)
        self.check_severed_of(like_parts(59, ("ann", "bob")), 1, "ann", 10)

    def test_what_was_handed_in_stays_when_the_answer_is_severed_again(self):
        parts = [first_part(SIX)]
        once = sever_part(parts, 1, "fay", 2)
        kept = list(once)
        sever_part(once, 1, "eve", 3)
        self.assertEqual(parts, [first_part(SIX)])
        self.assertEqual(once, kept)


class NotSeveredTest(SeveringTest):
    def test_no_part_has_the_number(self):
        parts = mixed_parts()
        for number in NUMBERS_OUT + (8, 9, -6, -7):
            with self.subTest(number=number):
                self.check_not_severed(parts, number, "ann", NoPart)
        self.check_not_severed([granted_part(("ann", "bob"))], 2, "ann", NoPart)
        self.check_not_severed([granted_part(("ann", "bob"))], 0, "ann", NoPart)
        self.check_not_severed([granted_part(("ann", "bob"))], -1, "ann", NoPart)

    def test_of_no_parts_at_all(self):
        for number in (0, 1, -1):
            self.check_not_severed([], number, "ann", NoPart)

    def test_a_lone_part_of_ones_own(self):
        self.check_not_severed(mixed_parts(), 2, "ann", NotHeld)
        self.check_not_severed([granted_part(("ann",))], 1, "ann", NotHeld)

    def test_a_part_of_others(self):
        self.check_not_severed(mixed_parts(), 3, "bob", NotHeld)
        self.check_not_severed(mixed_parts(), 6, "gus", NotHeld)
        self.check_not_severed(mixed_parts(), 5, "ann", NotHeld)

    def test_a_part_of_others_that_one_held_earlier(self):
        self.check_not_severed([touched_part(1, (1, 2), ("bob", "cat"))], 1, "ann", NotHeld)

    def test_a_part_of_the_crown(self):
        self.check_not_severed(mixed_parts(), 4, "ann", NotHeld)
        self.check_not_severed(mixed_parts(), 7, "bob", NotHeld)

    def test_a_name_within_a_holders_name(self):
        self.check_not_severed([touched_part(1, (1, 2), ("anna", "bob"))], 1, "ann", NotHeld)

    def test_sixty_parts(self):
        self.check_not_severed(like_parts(60, ("ann", "bob")), 1, "ann", TooManyParts)
        self.check_not_severed(like_parts(60, ("ann", "bob")), 60, "bob", TooManyParts)

    def test_two_refusals_at_once(self):
        self.check_not_severed(like_parts(60, ("ann", "bob")), 61, "ann", NoPart)
        self.check_not_severed(like_parts(60, ("ann", "bob")), 0, "ann", NoPart)
        self.check_not_severed(like_parts(60, ("ann", "bob")), -1, "ann", NoPart)
        self.check_not_severed(like_parts(60, ("ann", "bob")), 61, "cat", NoPart)
        self.check_not_severed(like_parts(60, ("ann", "bob")), 60, "cat", NotHeld)
        self.check_not_severed(like_parts(60, ("ann",)), 1, "ann", NotHeld)
        self.check_not_severed(mixed_parts(), 8, "gus", NoPart)


if __name__ == "__main__":
    unittest.main()
