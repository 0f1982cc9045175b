import copy
import unittest
from fractions import Fraction

from jointhold.parts import PARTS_MOST, first_part, numbers_held, stake_in
from tests.made import LARGEST, SIX, PartsTest, grant_step, like_parts, mixed_parts, told, touched_part


def without_trails(parts):
    return [(share, holders) for share, holders, trail in parts]


def every_form(parts):
    """The parts as point 5 tells them and as tuples (share, holders), each as a list and as a tuple."""
    return (list(parts), tuple(parts), without_trails(parts), tuple(without_trails(parts)))


class ConstantsTest(unittest.TestCase):
    def test_constants(self):
        self.assertEqual(PARTS_MOST, 60)
        self.assertIs(type(PARTS_MOST), int)


class FirstPartTest(PartsTest):
    def test_one_holder(self):
        self.assertEqual(first_part(("ann",)), ((1, 1), ("ann",), ((1, 1, (1, 1), ("ann",)),)))

    def test_two_holders(self):
        pair = ("ann", "bob")
        self.assertEqual(first_part(pair), ((1, 1), pair, ((1, 1, (1, 1), pair),)))

    def test_six_holders(self):
        self.assertEqual(first_part(SIX), ((1, 1), SIX, ((1, 1, (1, 1), SIX),)))

    def test_kinds_and_the_one_step_for_each_count(self):
        for count in range(1, 7):
            part = first_part(SIX[:count])
            self.check_part(part)
            self.assertEqual(part[2], (grant_step(SIX[:count]),))

    def test_two_grants_do_not_mix(self):
        one = first_part(("ann",))
        other = first_part(("bob", "cat"))
        self.assertEqual(one, ((1, 1), ("ann",), ((1, 1, (1, 1), ("ann",)),)))
        self.assertEqual(other, ((1, 1), ("bob", "cat"), ((1, 1, (1, 1), ("bob", "cat")),)))


class StakeTest(PartsTest):
    def check_stake(self, parts, name, awaited):
        for handed in every_form(parts):
            ahead = copy.deepcopy(handed)
            stake = stake_in(handed, name)
            self.check_share(stake)
            self.assertEqual(stake, awaited)
            self.assertEqual(handed, ahead)

    def test_a_lone_part_counts_whole(self):
        self.check_stake([touched_part(1, (2, 7), ("ann",))], "ann", (2, 7))

    def test_a_joint_part_counts_by_its_holders(self):
        for count in range(2, 7):
            parts = [touched_part(1, (3, 4), SIX[:count])]
            awaited = Fraction(3, 4 * count)
            for name in SIX[:count]:
                self.check_stake(parts, name, told(awaited))
            for name in SIX[count:]:
                self.check_stake(parts, name, (0, 1))

    def test_several_lone_parts(self):
        parts = [touched_part(1, (1, 2), ("ann",)), touched_part(2, (1, 3), ("ann",))]
        self.check_stake(parts, "ann", (5, 6))
        self.check_stake(parts + [touched_part(3, (1, 6), ("ann",))], "ann", (1, 1))

    def test_two_like_parts_count_twice(self):
        self.check_stake([touched_part(1, (1, 8), ("ann",))] * 2, "ann", (1, 4))
        self.check_stake([touched_part(1, (1, 8), ("ann", "bob"))] * 2, "bob", (1, 8))

    def test_lone_and_joint_parts_at_once(self):
        # ann: a third of 1/4, 1/8, half of 3/16, a sixth of 1/24.
        ann = Fraction(1, 12) + Fraction(1, 8) + Fraction(3, 32) + Fraction(1, 144)
        bob = Fraction(1, 12) + Fraction(1, 12) + Fraction(1, 144)
        self.check_stake(mixed_parts(), "ann", told(ann))
        self.check_stake(mixed_parts(), "bob", told(bob))
        self.check_stake(mixed_parts(), "eve", (1, 144))

    def test_all_stakes_come_to_the_whole(self):
        total = sum(Fraction(*stake_in(mixed_parts(), name)) for name in SIX + ("CROWN",))
        self.assertEqual(total, 1)

    def test_the_crown(self):
        self.check_stake(mixed_parts(), "CROWN", (5, 16))
        self.check_stake([touched_part(1, (1, 6), ("CROWN",))], "CROWN", (1, 6))
        self.check_stake([touched_part(1, (1, 6), ("ann",))], "CROWN", (0, 1))

    def test_who_holds_nothing(self):
        self.check_stake(mixed_parts(), "gus", (0, 1))
        self.check_stake([touched_part(1, (1, 1), ("CROWN",))], "ann", (0, 1))

    def test_a_holder_of_earlier_steps_alone_holds_nothing(self):
        # The trail names all six; only dan holds the part now.
        self.check_stake([touched_part(1, (1, 1), ("dan",))], "ann", (0, 1))

    def test_a_name_within_another_name_is_another(self):
        parts = [touched_part(1, (1, 2), ("anna",)), touched_part(2, (1, 2), ("a", "anna"))]
        self.check_stake(parts, "ann", (0, 1))
        self.check_stake(parts, "a", (1, 4))
        self.check_stake(parts, "", (0, 1))

    def test_no_parts(self):
        for name in ("ann", "CROWN"):
            self.check_stake([], name, (0, 1))

    def test_shares_need_not_come_to_one(self):
        self.check_stake([touched_part(1, (3, 2), ("ann",)), touched_part(2, (3, 1), ("ann", "bob"))], "ann", (3, 1))

    def test_sixty_parts(self):
        self.check_stake(like_parts(60, ("ann",)), "ann", (1, 1))
        self.check_stake(like_parts(60, SIX), "fay", (1, 6))
        self.check_stake(like_parts(59, ("CROWN",)), "CROWN", (59, 60))

    def test_numbers_of_four_hundred_digits(self):
        parts = [touched_part(1, (1, LARGEST), ("ann", "bob")), touched_part(2, (LARGEST - 1, LARGEST), ("ann",))]
        awaited = Fraction(1, 2 * LARGEST) + Fraction(LARGEST - 1, LARGEST)
        self.check_stake(parts, "ann", told(awaited))


class NumbersHeldTest(PartsTest):
    def check_numbers(self, parts, name, awaited):
        for handed in every_form(parts):
            ahead = copy.deepcopy(handed)
            numbers = numbers_held(handed, name)
            self.assertIs(type(numbers), list)
            self.assertEqual(numbers, awaited)
            self.assertEqual({type(number) for number in numbers} - {int}, set())
            numbers.append(99)
            self.assertEqual(handed, ahead)
            self.assertEqual(numbers_held(handed, name), awaited)

    def test_lone_and_joint_parts(self):
        self.check_numbers(mixed_parts(), "ann", [1, 2, 3, 6])
        self.check_numbers(mixed_parts(), "bob", [1, 5, 6])
        self.check_numbers(mixed_parts(), "cat", [1, 6])
        self.check_numbers(mixed_parts(), "dan", [3, 6])
        self.check_numbers(mixed_parts(), "fay", [6])

    def test_one_part(self):
        self.check_numbers([touched_part(1, (1, 1), ("ann",))], "ann", [1])
        self.check_numbers([touched_part(1, (1, 1), ("ann", "bob"))], "bob", [1])

    def test_two_like_parts_are_both_told(self):
        self.check_numbers([touched_part(1, (1, 8), ("ann",))] * 2, "ann", [1, 2])

    def test_the_crown(self):
        self.check_numbers(mixed_parts(), "CROWN", [4, 7])
        self.check_numbers([touched_part(1, (1, 1), ("ann",))], "CROWN", [])

    def test_who_holds_nothing(self):
        self.check_numbers(mixed_parts(), "gus", [])

    def test_a_holder_of_earlier_steps_alone_holds_nothing(self):
        self.check_numbers([touched_part(1, (1, 1), ("dan",))], "ann", [])

    def test_a_name_within_another_name_is_another(self):
        parts = [touched_part(1, (1, 2), ("anna",)), touched_part(2, (1, 2), ("ann", "anna"))]
        self.check_numbers(parts, "ann", [2])
        self.check_numbers(parts, "an", [])

    def test_no_parts(self):
        for name in ("ann", "CROWN"):
            self.check_numbers([], name, [])

    def test_sixty_parts(self):
        self.check_numbers(like_parts(60, ("ann", "bob")), "bob", list(range(1, 61)))


if __name__ == "__main__":
    unittest.main()
