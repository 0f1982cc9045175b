import unittest
from fractions import Fraction

from jointhold.errors import BadPiece, NoPart, NotHeld, TooManyParts
from jointhold.handing import TWENTIETHS, hand_part
from jointhold.parts import first_part
from tests.made import LARGEST, NUMBERS_OUT, SIX, PartsTest
from tests.made import grant_step, granted_part, like_parts, mixed_parts, told, touched_part

TWENTIETHS_OUT = (0, -1, -19, -20, 21, 22, 40, 10**60, -(10**60))


class ConstantsTest(unittest.TestCase):
    def test_constants(self):
        self.assertEqual(TWENTIETHS, 20)
        self.assertIs(type(TWENTIETHS), int)


class HandingTest(PartsTest):
    def check_handed(self, parts, number, name, twentieths, receivers, deed, awaited):
        self.check_behind(
            lambda handed: hand_part(handed, number, name, twentieths, receivers, deed), parts, awaited
        )

    def check_not_handed(self, parts, number, name, twentieths, refusal, receivers=("gus", "hal")):
        self.check_refused(
            lambda handed: hand_part(handed, number, name, twentieths, receivers, 10), parts, refusal
        )

    def check_handed_of(self, parts, number, name, twentieths, receivers, deed):
        """Reckons what is awaited of point 8's own words."""
        share, holders, trail = parts[number - 1]
        awaited = list(parts)
        if twentieths == 20:
            awaited[number - 1] = (share, receivers, trail + ((deed, number, share, receivers),))
        else:
            left = told(Fraction(*share) * (20 - twentieths) / 20)
            out = told(Fraction(*share) * twentieths / 20)
            awaited[number - 1] = (left, holders, trail + ((deed, number, left, holders),))
            awaited.append((out, receivers, trail + ((deed, len(parts) + 1, out, receivers),)))
        self.check_handed(parts, number, name, twentieths, receivers, deed, awaited)


class HandedTest(HandingTest):
    def test_one_twentieth(self):
        grant = grant_step(("ann",))
        self.check_handed([granted_part(("ann",))], 1, "ann", 1, ("bob",), 2, [
            ((19, 20), ("ann",), (grant, (2, 1, (19, 20), ("ann",)))),
            ((1, 20), ("bob",), (grant, (2, 2, (1, 20), ("bob",)))),
        ])

    def test_ten_twentieths(self):
        grant = grant_step(("ann",))
        self.check_handed([granted_part(("ann",))], 1, "ann", 10, ("bob", "cat"), 2, [
            ((1, 2), ("ann",), (grant, (2, 1, (1, 2), ("ann",)))),
            ((1, 2), ("bob", "cat"), (grant, (2, 2, (1, 2), ("bob", "cat")))),
        ])

    def test_nineteen_twentieths(self):
        grant = grant_step(("ann",))
        self.check_handed([granted_part(("ann",))], 1, "ann", 19, SIX, 200, [
            ((1, 20), ("ann",), (grant, (200, 1, (1, 20), ("ann",)))),
            ((19, 20), SIX, (grant, (200, 2, (19, 20), SIX))),
        ])

    def test_twenty_twentieths(self):
        grant = grant_step(("ann",))
        self.check_handed([granted_part(("ann",))], 1, "ann", 20, ("bob",), 2, [
            ((1, 1), ("bob",), (grant, (2, 1, (1, 1), ("bob",)))),
        ])
        self.check_handed([granted_part(("ann",))], 1, "ann", 20, SIX, 2, [
            ((1, 1), SIX, (grant, (2, 1, (1, 1), SIX))),
        ])

    def test_to_the_giver_alone(self):
        grant = grant_step(("ann",))
        self.check_handed([granted_part(("ann",))], 1, "ann", 5, ("ann",), 2, [
            ((3, 4), ("ann",), (grant, (2, 1, (3, 4), ("ann",)))),
            ((1, 4), ("ann",), (grant, (2, 2, (1, 4), ("ann",)))),
        ])
        self.check_handed([granted_part(("ann",))], 1, "ann", 20, ("ann",), 2, [
            ((1, 1), ("ann",), (grant, (2, 1, (1, 1), ("ann",)))),
        ])

    def test_to_the_giver_among_others(self):
        grant = grant_step(("bob",))
        trio = ("ann", "bob", "cat")
        self.check_handed([granted_part(("bob",))], 1, "bob", 8, trio, 2, [
            ((3, 5), ("bob",), (grant, (2, 1, (3, 5), ("bob",)))),
            ((2, 5), trio, (grant, (2, 2, (2, 5), trio))),
        ])
        self.check_handed([granted_part(("bob",))], 1, "bob", 20, trio, 2, [
            ((1, 1), trio, (grant, (2, 1, (1, 1), trio))),
        ])

    def test_every_piece_to_every_count_of_receivers(self):
        for twentieths in range(1, 21):
            for count in range(1, 7):
                self.check_handed_of([touched_part(1, (4, 7), ("bob",))], 1, "bob", twentieths, SIX[:count], 10)

    def test_a_part_among_others_with_a_longer_trail(self):
        parts = mixed_parts()
        trail = parts[4][2]
        self.assertEqual(len(trail), 5)
        self.check_handed(parts, 5, "bob", 4, ("gus", "hal"), 10, parts[:4] + [
            ((1, 15), ("bob",), trail + ((10, 5, (1, 15), ("bob",)),)),
        ] + parts[5:] + [
            ((1, 60), ("gus", "hal"), trail + ((10, 8, (1, 60), ("gus", "hal")),)),
        ])
        self.check_handed(parts, 5, "bob", 20, ("gus", "hal"), 10, parts[:4] + [
            ((1, 12), ("gus", "hal"), trail + ((10, 5, (1, 12), ("gus", "hal")),)),
        ] + parts[5:])

    def test_the_first_and_the_last_of_several_parts(self):
        parts = [touched_part(number, (1, number + 2), (SIX[number - 1],)) for number in range(1, 7)]
        for twentieths in (1, 10, 19, 20):
            self.check_handed_of(parts, 1, "ann", twentieths, ("gus",), 10)
            self.check_handed_of(parts, 6, "fay", twentieths, ("gus",), 10)

    def test_a_whole_part_keeps_its_share_as_it_is(self):
        answer = hand_part([touched_part(1, (3, 7), ("ann",))], 1, "ann", 20, ("bob",), 10)
        self.assertEqual([part[0] for part in answer], [(3, 7)])

    def test_two_like_parts_stay_two(self):
        parts = [touched_part(1, (1, 2), ("ann",)), touched_part(2, (1, 4), ("bob",))]
        self.check_handed_of(parts, 1, "ann", 10, ("bob",), 10)
        self.check_handed_of(parts, 1, "ann", 20, ("bob",), 10)
        self.check_handed_of(parts, 2, "bob", 20, ("ann",), 10)

    def test_trails_are_taken_over_as_they_are(self):
        for trail in ((), ((5, 3, (1, 9), ("gus",)), (4, 1, (7, 2), ("hal", "ida")))):
            for twentieths in (7, 20):
                self.check_handed_of([((1, 2), ("ann",), trail)], 1, "ann", twentieths, ("bob",), 10)

    def test_shares_that_do_not_come_to_one(self):
        for share in ((9, 2), (1, 100)):
            for twentieths in (1, 6, 20):
                self.check_handed_of([touched_part(1, share, ("ann",))], 1, "ann", twentieths, ("bob",), 10)

    def test_numbers_of_four_hundred_digits(self):
        for share in ((LARGEST - 1, LARGEST), (1, LARGEST)):
            for twentieths in (1, 15, 20):
                self.check_handed_of([touched_part(1, share, ("ann",))], 1, "ann", twentieths, SIX, 10)

    def test_one_after_another(self):
        parts = [first_part(("ann",))]
        parts = hand_part(parts, 1, "ann", 5, ("bob",), 2)
        parts = hand_part(parts, 2, "bob", 10, ("ann", "cat"), 3)
        parts = hand_part(parts, 1, "ann", 20, ("cat",), 4)
        grant = grant_step(("ann",))
        second = (2, 2, (1, 4), ("bob",))
        self.assertEqual(parts, [
            ((3, 4), ("cat",), (grant, (2, 1, (3, 4), ("ann",)), (4, 1, (3, 4), ("cat",)))),
            ((1, 8), ("bob",), (grant, second, (3, 2, (1, 8), ("bob",)))),
            ((1, 8), ("ann", "cat"), (grant, second, (3, 3, (1, 8), ("ann", "cat")))),
        ])

    def test_sixty_parts_and_no_new_one(self):
        self.check_handed_of(like_parts(60, ("ann",)), 1, "ann", 20, ("bob",), 10)
        self.check_handed_of(like_parts(60, ("ann",)), 60, "ann", 20, SIX, 10)

    def test_the_sixtieth_part(self):
        self.check_handed_of(like_parts(59, ("ann",)), 59, "ann", 19, ("bob",), 10)
        self.check_handed_of(like_parts(59, ("ann",)), 1, "ann", 1, ("ann",), 10)

    def test_what_was_handed_in_stays_when_the_answer_is_handed_on_again(self):
        parts = [first_part(("ann",))]
        once = hand_part(parts, 1, "ann", 5, ("bob",), 2)
        kept = list(once)
        hand_part(once, 2, "bob", 20, ("cat",), 3)
        hand_part(once, 2, "bob", 2, ("cat",), 3)
        self.assertEqual(parts, [first_part(("ann",))])
        self.assertEqual(once, kept)


class NotHandedTest(HandingTest):
    def test_no_part_has_the_number(self):
        parts = like_parts(7, ("ann",))
        for number in NUMBERS_OUT + (8, 9, -6, -7):
            for twentieths in (10, 20):
                with self.subTest(number=number, twentieths=twentieths):
                    self.check_not_handed(parts, number, "ann", twentieths, NoPart)
        for number in (0, -1, 2):
            self.check_not_handed([granted_part(("ann",))], number, "ann", 20, NoPart)

    def test_of_no_parts_at_all(self):
        for number in (0, 1, -1):
            self.check_not_handed([], number, "ann", 10, NoPart)

    def test_a_joint_part_of_which_one_is_a_holder(self):
        for twentieths in (10, 20):
            self.check_not_handed(mixed_parts(), 1, "ann", twentieths, NotHeld)
            self.check_not_handed(mixed_parts(), 3, "dan", twentieths, NotHeld)
            self.check_not_handed([granted_part(("ann", "bob"))], 1, "ann", twentieths, NotHeld)

    def test_a_part_of_another(self):
        for twentieths in (10, 20):
            self.check_not_handed(mixed_parts(), 2, "bob", twentieths, NotHeld)
            self.check_not_handed(mixed_parts(), 5, "ann", twentieths, NotHeld, ("ann",))
            self.check_not_handed(mixed_parts(), 3, "bob", twentieths, NotHeld)

    def test_a_part_of_another_that_one_held_earlier(self):
        parts = [touched_part(1, (1, 2), ("bob",), ((3, 1, (1, 2), ("ann",)),))]
        self.check_not_handed(parts, 1, "ann", 10, NotHeld)

    def test_a_part_of_the_crown(self):
        for twentieths in (10, 20):
            self.check_not_handed(mixed_parts(), 4, "ann", twentieths, NotHeld)
            self.check_not_handed(mixed_parts(), 7, "gus", twentieths, NotHeld)

    def test_a_name_within_the_holders_name(self):
        self.check_not_handed([touched_part(1, (1, 2), ("anna",))], 1, "ann", 10, NotHeld)

    def test_too_few_and_too_many_twentieths(self):
        for twentieths in TWENTIETHS_OUT:
            with self.subTest(twentieths=twentieths):
                self.check_not_handed(mixed_parts(), 2, "ann", twentieths, BadPiece)
                self.check_not_handed([granted_part(("ann",))], 1, "ann", twentieths, BadPiece, ("ann",))

    def test_sixty_parts(self):
        for twentieths in (1, 10, 19):
            self.check_not_handed(like_parts(60, ("ann",)), 1, "ann", twentieths, TooManyParts)
            self.check_not_handed(like_parts(60, ("ann",)), 60, "ann", twentieths, TooManyParts, ("ann",))

    def test_two_refusals_at_once(self):
        full = like_parts(60, ("ann",))
        self.check_not_handed(full, 61, "bob", 19, NoPart)
        self.check_not_handed(full, 61, "ann", 0, NoPart)
        self.check_not_handed(full, 0, "ann", 19, NoPart)
        self.check_not_handed(full, -1, "bob", 21, NoPart)
        self.check_not_handed(full, 60, "bob", 19, NotHeld)
        self.check_not_handed(full, 60, "bob", 21, NotHeld)
        self.check_not_handed(mixed_parts(), 4, "ann", 0, NotHeld)
        self.check_not_handed(mixed_parts(), 1, "ann", 10**60, NotHeld)
        for twentieths in TWENTIETHS_OUT:
            self.check_not_handed(full, 60, "ann", twentieths, BadPiece)


if __name__ == "__main__":
    unittest.main()
