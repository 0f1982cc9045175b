"""Deaths: what becomes of the parts when several persons die at once."""

from jointhold.followers import heir_of
from jointhold.parts import checked_many, part_behind
from jointhold.people import names_without
from jointhold.shares import piece_of


def fallen_parts(part, numbers, heirs, deed):
    share = piece_of(part[0], 1, len(heirs))
    return [part_behind(part[2], deed, number, share, (heir,)) for number, heir in zip(numbers, heirs)]


def parts_after(parts, gone, follows, dead, deed):
    # Nobody who dies at the same time inherits, in whatever order they are named.
    all_dead = list(dead) + list(gone)
    after = list(parts)
    for number, part in enumerate(parts, start=1):
        holders = part[1]
        left = names_without(holders, gone)
        if len(left) == len(holders):
            continue
        if len(left) > 0:
            after[number - 1] = part_behind(part[2], deed, number, part[0], left)
        else:
            heirs = [heir_of(holder, follows, all_dead) for holder in holders]
            numbers = [number] + list(range(len(after) + 1, len(after) + len(heirs)))
            fallen = fallen_parts(part, numbers, heirs, deed)
            after[number - 1] = fallen[0]
            after.extend(fallen[1:])
    return checked_many(after)
