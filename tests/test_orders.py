import copy
import itertools
import random
import unittest
from fractions import Fraction

from jointhold.orders import ORDER_MOST, after_order, best_of
from tests.made import LARGEST, SIX, PartsTest, like_parts, mixed_parts, told, touched_part

EIGHT = SIX + ("gus", "hal")


def heir_reckoned(name, follows, dead):
    """Point 10's own words: along the followers to the first living one, else the crown."""
    way = [name]
    while way[-1] in follows and follows[way[-1]] not in way:
        way.append(follows[way[-1]])
        if way[-1] not in dead:
            return way[-1]
    return "CROWN"


def held_reckoned(parts, order, follows, dead):
    """Point 15's own words: each dies alone, one after another."""
    held = [(part[0], part[1]) for part in parts]
    dead = list(dead)
    for name in order:
        heir = heir_reckoned(name, follows, dead)
        held = [
            (share, (heir,) if holders == (name,) else tuple(holder for holder in holders if holder != name))
            for share, holders in held
        ]
        dead.append(name)
    return held


def best_reckoned(parts, name, people, follows, dead):
    """Point 16's own words: tries every order, in the order of point 2."""
    best = None
    for order in itertools.permutations(sorted(people)):
        held = held_reckoned(parts, order, follows, dead)
        stake = sum((Fraction(*share) / len(holders) for share, holders in held if name in holders), Fraction(0))
        if best is None or stake > best[1]:
            best = (order, stake)
    return (best[0], told(best[1]))


class OrdersTest(PartsTest):
    def check_answer(self, asked, handed):
        """Asks with each of the rows handed in as a list and as a tuple; what was handed in must stay."""
        answers = []
        for kind in (list, tuple):
            rows = [value if isinstance(value, dict) else kind(value) for value in handed]
            ahead = copy.deepcopy(rows)
            answers.append(asked(*rows))
            self.assertEqual(rows, ahead)
        self.assertEqual(answers[0], answers[1])
        return answers[0]

    def check_after(self, parts, order, follows, dead, awaited):
        answer = self.check_answer(after_order, (parts, order, follows, dead))
        self.assertIs(type(answer), list)
        for entry in answer:
            self.assertIs(type(entry), tuple)
            self.assertEqual(len(entry), 2)
            self.check_share(entry[0])
            self.check_holders(entry[1])
        self.assertEqual(answer, awaited)
        self.assertEqual(answer, held_reckoned(parts, order, follows, dead))

    def check_holders_after(self, parts, order, follows, dead, awaited):
        entries = [(part[0], row) for part, row in zip(parts, awaited, strict=True)]
        self.check_after(parts, order, follows, dead, entries)

    def check_best(self, parts, name, people, follows, dead, awaited):
        rising = sorted(people)
        for row in (rising, rising[::-1], rising[1:] + rising[:1]):
            answer = self.check_answer(
                lambda parts, people, follows, dead: best_of(parts, name, people, follows, dead),
                (parts, row, follows, dead),
            )
            self.assertIs(type(answer), tuple)
            self.assertEqual(len(answer), 2)
            self.assertIs(type(answer[0]), tuple)
            self.check_share(answer[1])
            self.assertEqual(answer, awaited)

    def check_best_reckoned(self, parts, name, people, follows, dead):
        self.check_best(parts, name, people, follows, dead, best_reckoned(parts, name, people, follows, dead))


class ConstantsTest(unittest.TestCase):
    def test_constants(self):
        self.assertEqual(ORDER_MOST, 6)
        self.assertIs(type(ORDER_MOST), int)


class AfterOrderTest(OrdersTest):
    def test_no_death_at_all(self):
        parts = mixed_parts()
        self.check_after(parts, [], {"ann": "bob"}, [], [(part[0], part[1]) for part in parts])
        self.check_after([], [], {}, [], [])

    def test_one_death(self):
        self.check_holders_after(mixed_parts(), ["ann"], {"ann": "gus"}, [], [
            ("bob", "cat"), ("gus",), ("dan",), ("CROWN",), ("bob",), ("bob", "cat", "dan", "eve", "fay"), ("CROWN",),
        ])
        self.check_holders_after(mixed_parts(), ["ann"], {}, [], [
            ("bob", "cat"), ("CROWN",), ("dan",), ("CROWN",), ("bob",), ("bob", "cat", "dan", "eve", "fay"),
            ("CROWN",),
        ])

    def test_the_death_of_one_who_holds_nothing(self):
        parts = mixed_parts()
        self.check_after(parts, ["gus"], {"gus": "ann"}, [], [(part[0], part[1]) for part in parts])

    def test_six_deaths(self):
        part = touched_part(1, (2, 3), SIX)
        for order in (SIX, SIX[::-1], ("cat", "fay", "ann", "eve", "bob", "dan")):
            self.check_holders_after([part], order, {name: name[0] + "heir" for name in SIX}, [], [
                (order[-1][0] + "heir",),
            ])
        self.check_holders_after(mixed_parts(), SIX, {"cat": "gus", "fay": "hal", "bob": "ida"}, [], [
            ("gus",), ("CROWN",), ("CROWN",), ("CROWN",), ("ida",), ("hal",), ("CROWN",),
        ])

    def test_each_dies_alone(self):
        # Together both would have left a part to each heir; so the last one leaves all of it.
        part = touched_part(1, (1, 2), ("ann", "bob"))
        follows = {"ann": "gus", "bob": "hal"}
        self.check_holders_after([part], ["ann", "bob"], follows, [], [("hal",)])
        self.check_holders_after([part], ["bob", "ann"], follows, [], [("gus",)])

    def test_a_part_goes_from_heir_to_heir(self):
        part = touched_part(1, (1, 2), ("ann",))
        follows = {"ann": "bob", "bob": "cat", "cat": "dan", "dan": "eve", "eve": "fay", "fay": "gus"}
        for count, heir in enumerate(("ann", "bob", "cat", "dan", "eve", "fay", "gus")):
            self.check_holders_after([part], SIX[:count], follows, [], [(heir,)])

    def test_those_who_died_ahead_are_no_heirs(self):
        part = touched_part(1, (1, 2), ("ann",))
        follows = {"ann": "bob", "bob": "cat"}
        self.check_holders_after([part], ["bob", "ann"], follows, [], [("cat",)])
        self.check_holders_after([part], ["cat", "bob", "ann"], follows, [], [("CROWN",)])
        self.check_holders_after([part], ["ann"], follows, ["bob"], [("cat",)])
        self.check_holders_after([part], ["ann"], follows, ["cat", "bob"], [("CROWN",)])
        self.check_holders_after([part], ["cat", "ann"], follows, ["bob"], [("CROWN",)])

    def test_those_who_die_later_are_heirs(self):
        parts = [touched_part(1, (1, 2), ("ann",)), touched_part(2, (1, 2), ("bob",))]
        follows = {"ann": "bob", "bob": "gus"}
        self.check_holders_after(parts, ["ann"], follows, [], [("bob",), ("bob",)])
        self.check_holders_after(parts, ["ann", "bob"], follows, [], [("gus",), ("gus",)])

    def test_a_follower_who_is_dead_in_one_order_and_lives_in_another(self):
        parts = [touched_part(1, (1, 2), ("ann",)), touched_part(2, (1, 2), ("bob", "cat"))]
        follows = {"ann": "bob", "bob": "gus", "cat": "ann"}
        self.check_holders_after(parts, ["bob", "ann"], follows, [], [("gus",), ("cat",)])
        self.check_holders_after(parts, ["ann", "bob"], follows, [], [("gus",), ("cat",)])
        self.check_holders_after(parts, ["bob", "cat"], follows, [], [("ann",), ("ann",)])
        self.check_holders_after(parts, ["cat", "bob"], follows, [], [("ann",), ("gus",)])
        self.check_holders_after(parts, ["bob", "ann", "cat"], follows, [], [("gus",), ("gus",)])

    def test_a_way_that_comes_round(self):
        part = touched_part(1, (1, 2), ("ann",))
        follows = {"ann": "bob", "bob": "ann"}
        self.check_holders_after([part], ["ann"], follows, [], [("bob",)])
        self.check_holders_after([part], ["ann", "bob"], follows, [], [("CROWN",)])
        self.check_holders_after([part], ["bob", "ann"], follows, [], [("CROWN",)])
        self.check_holders_after([part], ["ann"], {"ann": "ann"}, [], [("CROWN",)])
        self.check_holders_after([part], ["ann"], {"ann": "bob", "bob": "bob"}, ["bob"], [("CROWN",)])

    def test_parts_of_the_crown_stay(self):
        parts = [touched_part(1, (1, 2), ("CROWN",)), touched_part(2, (1, 2), ("CROWN",))]
        self.check_holders_after(parts, SIX, {}, [], [("CROWN",), ("CROWN",)])

    def test_shares_are_told_as_they_are(self):
        parts = [touched_part(1, (LARGEST - 1, LARGEST), ("ann", "bob")), touched_part(2, (9, 2), ("ann",))]
        self.check_after(parts, ["ann", "bob"], {"bob": "ann", "ann": "gus"}, [], [
            ((LARGEST - 1, LARGEST), ("gus",)), ((9, 2), ("gus",)),
        ])

    def test_sixty_parts(self):
        self.check_holders_after(like_parts(60, SIX), SIX, {"fay": "gus"}, [], [("gus",)] * 60)
        self.check_holders_after(like_parts(60, ("ann",)), SIX, {"ann": "fay", "fay": "gus"}, [], [("gus",)] * 60)
        self.check_holders_after(like_parts(60, ("ann", "bob")), ["bob"], {}, [], [("ann",)] * 60)

    def test_what_is_told_is_a_list_of_its_own(self):
        parts = mixed_parts()
        answer = after_order(parts, [], {}, [])
        answer.clear()
        self.assertEqual(parts, mixed_parts())
        self.assertEqual(len(after_order(parts, [], {}, [])), 7)


class BestOfTest(OrdersTest):
    def test_nobody_dies(self):
        self.check_best(mixed_parts(), "dan", [], {}, [], ((), (29, 288)))
        self.check_best(mixed_parts(), "gus", [], {}, [], ((), (0, 1)))
        self.check_best([], "gus", [], {}, [], ((), (0, 1)))

    def test_one_dies(self):
        self.check_best([touched_part(1, (1, 2), ("ann",))], "bob", ["ann"], {"ann": "bob"}, [], (("ann",), (1, 2)))
        self.check_best([touched_part(1, (1, 2), ("ann",))], "bob", ["ann"], {}, [], (("ann",), (0, 1)))
        self.check_best([touched_part(1, (1, 2), ("ann", "bob"))], "bob", ["ann"], {}, [], (("ann",), (1, 2)))

    def test_no_parts_at_all(self):
        self.check_best([], "gus", SIX, {"ann": "gus"}, [], (SIX, (0, 1)))

    def test_all_orders_give_the_same_stake(self):
        self.check_best(mixed_parts(), "gus", SIX, {}, [], (SIX, (0, 1)))
        self.check_best(mixed_parts(), "gus", SIX, {name: "gus" for name in SIX}, [], (SIX, (11, 16)))
        self.check_best(mixed_parts(), "fay", ["cat", "ann"], {}, [], (("ann", "cat"), (1, 96)))

    def test_one_order_alone_is_best(self):
        # gus is the heir of ann alone, so she has to die behind bob.
        parts = [touched_part(1, (1, 2), ("ann", "bob"))]
        self.check_best(parts, "gus", ["ann", "bob"], {"ann": "gus"}, [], (("bob", "ann"), (1, 2)))
        parts = [touched_part(1, (1, 2), ("ann", "bob")), touched_part(2, (1, 2), ("ann", "cat"))]
        follows = {"ann": "gus", "bob": "hal"}
        self.check_best(parts, "gus", ["ann", "bob", "cat"], follows, [], (("bob", "cat", "ann"), (1, 1)))

    def test_of_two_best_orders_the_first_by_point_two(self):
        parts = [touched_part(1, (1, 2), ("ann", "dan"))]
        people = ["ann", "bob", "dan"]
        self.check_best(parts, "gus", people, {"ann": "gus"}, [], (("bob", "dan", "ann"), (1, 2)))
        self.check_best(parts, "gus", people, {"dan": "gus"}, [], (("ann", "bob", "dan"), (1, 2)))
        parts = [touched_part(1, (1, 2), ("ann", "cat")), touched_part(2, (1, 2), ("bob", "cat"))]
        follows = {"ann": "gus", "bob": "gus"}
        self.check_best(parts, "gus", ["ann", "bob", "cat"], follows, [], (("cat", "ann", "bob"), (1, 1)))

    def test_who_bears_no_weight_dies_as_early_as_the_order_of_names_has_it(self):
        parts = [touched_part(1, (1, 2), ("bob", "eve"))]
        self.check_best(parts, "gus", SIX, {"bob": "gus"}, [], (("ann", "cat", "dan", "eve", "bob", "fay"), (1, 2)))

    def test_a_longer_name_that_begins_with_another(self):
        parts = [touched_part(1, (1, 2), ("an", "b"))]
        self.check_best(parts, "z", ["anna", "ann", "an", "b"], {"an": "z"}, [], (("ann", "anna", "b", "an"), (1, 2)))

    def test_a_joint_part_that_others_hold_too(self):
        parts = [touched_part(1, (1, 2), ("ann", "bob", "gus"))]
        self.check_best(parts, "gus", ["ann", "bob"], {}, [], (("ann", "bob"), (1, 2)))
        self.check_best(parts, "gus", ["bob"], {"bob": "gus"}, [], (("bob",), (1, 4)))
        parts = [touched_part(1, (1, 2), ("ann", "bob", "hal"))]
        self.check_best(parts, "gus", ["ann", "bob"], {"ann": "gus"}, [], (("ann", "bob"), (0, 1)))

    def test_the_way_leads_over_others_who_die(self):
        parts = [touched_part(1, (1, 2), ("ann", "bob"))]
        follows = {"ann": "cat", "cat": "gus", "bob": "hal"}
        self.check_best(parts, "gus", ["ann", "bob", "cat"], follows, [], (("bob", "ann", "cat"), (1, 2)))
        # cat lives on and keeps it.
        self.check_best(parts, "gus", ["ann", "bob"], follows, [], (("ann", "bob"), (0, 1)))
        self.check_best(parts, "gus", ["ann", "bob"], follows, ["cat"], (("bob", "ann"), (1, 2)))

    def test_a_way_that_comes_round(self):
        parts = [touched_part(1, (1, 2), ("ann", "bob")), touched_part(2, (1, 2), ("bob",))]
        follows = {"ann": "cat", "cat": "ann", "bob": "gus"}
        self.check_best(parts, "gus", ["ann", "bob", "cat"], follows, [], (("ann", "bob", "cat"), (1, 1)))
        self.check_best(parts, "cat", ["ann", "bob"], follows, [], (("bob", "ann"), (1, 2)))

    def test_the_person_among_the_people(self):
        parts = [touched_part(1, (1, 2), ("ann", "bob")), touched_part(2, (1, 2), ("cat",))]
        follows = {"ann": "cat", "bob": "gus", "cat": "cat"}
        self.check_best(parts, "cat", ["ann", "bob", "cat"], follows, [], (("ann", "bob", "cat"), (0, 1)))
        self.check_best(parts, "cat", ["cat"], follows, [], (("cat",), (0, 1)))
        self.check_best(parts, "ann", SIX, {name: "ann" for name in SIX}, [], (SIX, (0, 1)))

    def test_parts_of_the_crown(self):
        parts = [touched_part(1, (1, 2), ("CROWN",)), touched_part(2, (1, 4), ("ann", "bob"))]
        self.check_best(parts, "gus", ["ann", "bob"], {"ann": "gus"}, [], (("bob", "ann"), (1, 4)))
        self.check_best(parts[:1], "gus", ["ann", "bob"], {"ann": "gus"}, [], (("ann", "bob"), (0, 1)))

    def test_sixty_parts(self):
        parts = like_parts(60, ("ann", "fay"))
        self.check_best(parts, "gus", SIX, {"ann": "gus"}, [], (("bob", "cat", "dan", "eve", "fay", "ann"), (1, 1)))

    def test_sixty_parts_of_every_joint_holding_and_long_numbers(self):
        rows = [row for count in range(1, 7) for row in itertools.combinations(SIX, count)]
        self.assertEqual(len(rows), 63)
        parts = [touched_part(k + 1, (1, LARGEST - k), row) for k, row in enumerate(rows[3:])]
        follows = {"ann": "gus", "cat": "eve", "eve": "gus", "bob": "hal", "fay": "bob"}
        won = [part[0] for part in parts if "ann" in part[1] or "cat" in part[1] or "eve" in part[1]]
        stake = told(sum((Fraction(*share) for share in won), Fraction(0)))
        self.check_best(parts, "gus", SIX, follows, [], (("bob", "dan", "fay", "ann", "cat", "eve"), stake))

    def test_against_every_order(self):
        for name in ("gus", "hal", "fay", "dan"):
            self.check_best_reckoned(mixed_parts(), name, SIX[:3], {"ann": name, "cat": "bob", "bob": "gus"}, [])
            self.check_best_reckoned(mixed_parts(), name, SIX[:4], {"bob": name, "ann": "cat"}, ["hex"])

    def test_against_every_order_where_chance_lays_out_the_parts(self):
        chance = random.Random(16)
        beyond_rising = 0
        for turn in range(400):
            dead = chance.sample(["ida", "joe", "kim"], chance.randint(0, 2))
            name = chance.choice(("gus", "hal", "ann"))
            follows = {one: chance.choice((name,) + EIGHT + ("ida", "joe")) for one in EIGHT if chance.random() < 0.9}
            follows.update({one: chance.choice(EIGHT) for one in dead})
            parts = []
            for number in range(1, chance.randint(1, 8) + 1):
                holders = chance.sample(SIX[:4] if turn % 2 else EIGHT, chance.randint(1, 4))
                parts.append(touched_part(number, (1, chance.randint(1, 9)), tuple(sorted(holders))))
            people = chance.sample(SIX[:4], chance.randint(2, 4)) + ([] if turn % 3 else ["eve"])
            awaited = best_reckoned(parts, name, people, follows, dead)
            self.assertEqual(best_of(parts, name, people, follows, dead), awaited)
            beyond_rising += awaited[0] != tuple(sorted(people))
        self.assertGreater(beyond_rising, 20)


if __name__ == "__main__":
    unittest.main()
