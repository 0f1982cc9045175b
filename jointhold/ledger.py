"""The register of one piece of land: its deeds, and the questions that are asked of it."""

from jointhold.deaths import parts_after
from jointhold.errors import GrantedBefore, NotGranted, NothingDone, TooManyDeeds
from jointhold.handing import hand_part
from jointhold.orders import ORDER_MOST, after_order, best_of
from jointhold.parts import first_part, numbers_held, part_numbered, stake_in
from jointhold.people import CROWN, HOLDERS_MOST, PERSONS_MOST, check_known, check_living, checked_names, group_of
from jointhold.severing import sever_part
from jointhold.shares import NOUGHT

DEEDS_MOST = 200


class Standing:
    """How things stand behind a deed. It is never changed: the next deed makes another."""

    def __init__(self, deed, part_list, follows, dead):
        self.deed = deed
        self.part_list = part_list
        self.follows = follows
        self.dead = dead


class Register:
    def __init__(self, names):
        self.names = checked_names(names)
        # One for each standing deed, behind the one ahead of all deeds: taking back drops the last.
        self.standings = [Standing(None, [], {}, [])]

    def last(self):
        return self.standings[-1]

    def next_number(self):
        return len(self.standings)

    def check_people(self, names):
        check_living(names, self.names, self.last().dead)

    def with_crown(self):
        return self.names + (CROWN,)

    def check_granted(self):
        if self.last().deed is None:
            raise NotGranted("the land has not been granted")

    def keep(self, deed, part_list, follows, dead):
        # Asked here, behind all that a deed is asked otherwise: every other refusal goes ahead.
        number = self.next_number()
        if number > DEEDS_MOST:
            raise TooManyDeeds(f"at most {DEEDS_MOST} deeds stand")
        self.standings.append(Standing(deed, part_list, follows, dead))
        return number

    def grant(self, names):
        holders = group_of(names, 1, HOLDERS_MOST)
        self.check_people(holders)
        last = self.last()
        if last.deed is not None:
            raise GrantedBefore("the land was granted before")
        return self.keep(("grant", holders), [first_part(holders)], last.follows, last.dead)

    def sever(self, name, number):
        self.check_people((name,))
        self.check_granted()
        last = self.last()
        part_list = sever_part(last.part_list, number, name, self.next_number())
        return self.keep(("sever", name, number), part_list, last.follows, last.dead)

    def hand(self, name, number, twentieths, receivers):
        group = group_of(receivers, 1, HOLDERS_MOST)
        self.check_people((name,) + group)
        self.check_granted()
        last = self.last()
        part_list = hand_part(last.part_list, number, name, twentieths, group, self.next_number())
        return self.keep(("hand", name, number, twentieths, group), part_list, last.follows, last.dead)

    def follow(self, name, follower):
        self.check_people((name, follower))
        self.check_granted()
        last = self.last()
        follows = dict(last.follows)
        follows[name] = follower
        return self.keep(("follow", name, follower), last.part_list, follows, last.dead)

    def die(self, names):
        gone = group_of(names, 1, PERSONS_MOST)
        self.check_people(gone)
        self.check_granted()
        last = self.last()
        part_list = parts_after(last.part_list, gone, last.follows, last.dead, self.next_number())
        return self.keep(("die", gone), part_list, last.follows, last.dead + list(gone))

    def back(self):
        if self.last().deed is None:
            raise NothingDone("no deed stands")
        return self.standings.pop().deed

    def parts(self):
        return list(self.last().part_list)

    def deeds(self):
        return [standing.deed for standing in self.standings[1:]]

    def came_by(self, number):
        part = part_numbered(self.last().part_list, number)
        return [self.standings[step[0]].deed for step in part[2]]

    def living(self):
        dead = self.last().dead
        return [name for name in self.names if name not in dead]

    def follower(self, name):
        check_known((name,), self.names)
        return self.last().follows.get(name)

    def held(self, name):
        check_known((name,), self.with_crown())
        return numbers_held(self.last().part_list, name)

    def stake(self, name):
        check_known((name,), self.with_crown())
        return stake_in(self.last().part_list, name)

    def stakes(self):
        all_stakes = [(name, self.stake(name)) for name in self.with_crown()]
        return [entry for entry in all_stakes if entry[1] != NOUGHT]

    def if_died(self, order):
        self.check_people(group_of(order, 0, ORDER_MOST))
        last = self.last()
        return after_order(last.part_list, order, last.follows, last.dead)

    def best_order(self, name, people):
        group = group_of(people, 0, ORDER_MOST)
        self.check_people((name,) + group)
        last = self.last()
        return best_of(last.part_list, name, group, last.follows, last.dead)
