"""Orders of dying: who would hold what if people died one after another, and which order serves a person best."""

from jointhold.followers import heir_of
from jointhold.parts import stake_in
from jointhold.people import names_without

ORDER_MOST = 6


def holders_after(holders, name, heir):
    if name not in holders:
        return holders
    if len(holders) == 1:
        return (heir,)
    return names_without(holders, (name,))


def after_order(parts, order, follows, dead):
    all_holders = [part[1] for part in parts]
    gone = list(dead)
    for name in order:
        heir = heir_of(name, follows, gone)
        all_holders = [holders_after(holders, name, heir) for holders in all_holders]
        gone.append(name)
    return [(part[0], holders) for part, holders in zip(parts, all_holders)]


def has_friend(holders, friends):
    return any([holder in friends for holder in holders])


def can_be_won(holders, people, friends):
    return all([holder in people for holder in holders]) and has_friend(holders, friends)


def is_lost(holders, left, friends):
    living = [holder for holder in holders if holder in left]
    return len(living) > 0 and not has_friend(living, friends)


def loses_none(name, left, won, friends):
    others = names_without(left, (name,))
    return not any([is_lost(holders, others, friends) for holders in won])


def first_order(people, won, friends):
    order = ()
    left = tuple(sorted(people))
    while len(left) > 0:
        # There is always one: who is no friend loses nothing, nor do friends among themselves.
        name = [one for one in left if loses_none(one, left, won, friends)][0]
        order = order + (name,)
        left = names_without(left, (name,))
    return order


def best_of(parts, name, people, follows, dead):
    # What one of these people holds alone goes from heir to heir as they die, always on along the
    # same followers. So in every order it comes at last to the heir who is reckoned with all of them
    # as dead. Friends are those from whom that way leads to the person. A part with a holder outside
    # the people brings the same in every order; any other part comes to the person just where the
    # last of its holders to die is a friend. All parts that have a friend can be won in one order
    # (the friends die last), so the greatest stake is that of the orders that lose none of them,
    # and there is no need to try them all.
    all_dead = list(dead) + list(people)
    friends = [friend for friend in people if heir_of(friend, follows, all_dead) == name]
    won = [part[1] for part in parts if can_be_won(part[1], people, friends)]
    order = first_order(people, won, friends)
    return (order, stake_in(after_order(parts, order, follows, dead), name))
