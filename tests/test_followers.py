import copy
import unittest

from jointhold.followers import heir_of
from tests.made import many_names

THIRTY = many_names(30)


class HeirTest(unittest.TestCase):
    def check_heir(self, name, follows, dead, awaited):
        for handed in (list(dead), tuple(dead), list(dead)[::-1]):
            follows_ahead = list(follows.items())
            dead_ahead = copy.copy(handed)
            heir = heir_of(name, follows, handed)
            self.assertIs(type(heir), str)
            self.assertEqual(heir, awaited)
            self.assertEqual(list(follows.items()), follows_ahead)
            self.assertEqual(handed, dead_ahead)

    def check_heir_both_ways(self, name, follows, dead, awaited):
        """The person counts as dead whether dead has the name or not."""
        self.check_heir(name, follows, list(dead), awaited)
        self.check_heir(name, follows, list(dead) + [name], awaited)

    def test_a_living_follower(self):
        self.check_heir_both_ways("ann", {"ann": "bob"}, [], "bob")
        self.check_heir_both_ways("ann", {"ann": "bob", "bob": "cat"}, [], "bob")
        self.check_heir_both_ways("ann", {"bob": "cat", "ann": "bob"}, ["cat", "dan"], "bob")

    def test_nobody_was_named(self):
        self.check_heir_both_ways("ann", {}, [], "CROWN")
        self.check_heir_both_ways("ann", {}, ["bob"], "CROWN")
        self.check_heir_both_ways("ann", {"bob": "ann", "cat": "bob"}, [], "CROWN")

    def test_a_dead_follower_followed_by_a_living_one(self):
        self.check_heir_both_ways("ann", {"ann": "bob", "bob": "cat"}, ["bob"], "cat")
        self.check_heir_both_ways("ann", {"ann": "bob", "bob": "cat", "cat": "dan"}, ["dan", "bob"], "cat")

    def test_a_dead_follower_who_named_nobody(self):
        self.check_heir_both_ways("ann", {"ann": "bob"}, ["bob"], "CROWN")
        self.check_heir_both_ways("ann", {"ann": "bob", "cat": "dan"}, ["bob"], "CROWN")
        self.check_heir_both_ways("ann", {"ann": "bob", "bob": "cat"}, ["bob", "cat"], "CROWN")

    def test_a_long_row_of_dead_ones(self):
        follows = {THIRTY[k]: THIRTY[k + 1] for k in range(29)}
        self.check_heir_both_ways(THIRTY[0], follows, THIRTY[1:29], THIRTY[29])
        self.check_heir_both_ways(THIRTY[0], follows, THIRTY[1:], "CROWN")
        self.check_heir_both_ways(THIRTY[0], follows, THIRTY[1:17] + THIRTY[18:], THIRTY[17])
        self.check_heir_both_ways(THIRTY[12], follows, THIRTY[:12] + THIRTY[13:29], THIRTY[29])

    def test_a_long_row_against_the_order_of_names(self):
        follows = {THIRTY[k + 1]: THIRTY[k] for k in range(29)}
        self.check_heir_both_ways(THIRTY[29], follows, THIRTY[1:29], THIRTY[0])
        self.check_heir_both_ways(THIRTY[29], follows, THIRTY[:29], "CROWN")

    def test_a_way_round_to_the_person(self):
        self.check_heir_both_ways("ann", {"ann": "bob", "bob": "ann"}, ["bob"], "CROWN")
        follows = {"ann": "bob", "bob": "cat", "cat": "ann"}
        self.check_heir_both_ways("ann", follows, ["bob", "cat"], "CROWN")
        self.check_heir_both_ways("ann", follows, ["bob"], "cat")
        self.check_heir_both_ways("ann", follows, [], "bob")

    def test_a_way_round_to_one_further_on(self):
        follows = {"ann": "bob", "bob": "cat", "cat": "dan", "dan": "bob"}
        self.check_heir_both_ways("ann", follows, ["bob", "cat", "dan"], "CROWN")
        self.check_heir_both_ways("ann", follows, ["bob", "cat"], "dan")
        follows = {"ann": "bob", "bob": "cat", "cat": "dan", "dan": "cat"}
        self.check_heir_both_ways("ann", follows, ["bob", "cat", "dan"], "CROWN")

    def test_a_way_round_through_all_thirty(self):
        follows = {THIRTY[k]: THIRTY[(k + 1) % 30] for k in range(30)}
        for k in (0, 7, 29):
            others = [name for name in THIRTY if name != THIRTY[k]]
            self.check_heir_both_ways(THIRTY[k], follows, others, "CROWN")
            living = THIRTY[(k + 29) % 30]
            self.check_heir_both_ways(THIRTY[k], follows, [name for name in others if name != living], living)

    def test_a_person_who_follows_themselves(self):
        self.check_heir_both_ways("ann", {"ann": "ann"}, [], "CROWN")
        self.check_heir_both_ways("ann", {"ann": "ann", "bob": "cat"}, ["bob"], "CROWN")

    def test_one_on_the_way_who_follows_themselves(self):
        self.check_heir_both_ways("ann", {"ann": "bob", "bob": "bob"}, ["bob"], "CROWN")
        self.check_heir_both_ways("ann", {"ann": "bob", "bob": "bob"}, [], "bob")

    def test_one_who_lives_stands_in_the_way_of_further_followers(self):
        # ann is on bob's way and lives, though she follows others herself.
        follows = {"bob": "ann", "ann": "cat", "cat": "dan"}
        self.check_heir_both_ways("bob", follows, [], "ann")
        self.check_heir_both_ways("bob", follows, ["cat"], "ann")
        self.check_heir_both_ways("bob", follows, ["ann"], "cat")
        self.check_heir_both_ways("ann", follows, ["cat"], "dan")

    def test_one_may_follow_several(self):
        follows = {"ann": "cat", "bob": "cat", "cat": "bob"}
        self.check_heir_both_ways("ann", follows, [], "cat")
        self.check_heir_both_ways("bob", follows, [], "cat")
        self.check_heir_both_ways("ann", follows, ["cat"], "bob")
        self.check_heir_both_ways("ann", follows, ["bob", "cat"], "CROWN")

    def test_a_dead_one_whose_name_begins_the_followers_name(self):
        self.check_heir_both_ways("bob", {"bob": "ann"}, ["anna", "an"], "ann")

    def test_asked_again_the_answer_is_the_same(self):
        follows = {"ann": "bob", "bob": "cat", "cat": "ann"}
        dead = ["bob"]
        self.assertEqual([heir_of("ann", follows, dead) for _ in range(3)], ["cat"] * 3)
        self.assertEqual(heir_of("cat", follows, dead), "ann")


if __name__ == "__main__":
    unittest.main()
