"""Parts of the land: tuples (share, holders, trail), part number k the k-th of a list."""

from jointhold.errors import NoPart, TooManyParts
from jointhold.shares import ONE, piece_of, total_of

PARTS_MOST = 60


def part_behind(trail, deed, number, share, holders):
    return (share, holders, trail + ((deed, number, share, holders),))


def first_part(holders):
    return part_behind((), 1, 1, ONE, holders)


def part_numbered(parts, number):
    # Asked ahead of the index: one of 0 or below would count from the list's end.
    if number < 1 or number > len(parts):
        raise NoPart(f"no part has the number {number}")
    return parts[number - 1]


def with_part(parts, number, part):
    after = list(parts)
    after[number - 1] = part
    return after


def checked_many(parts):
    if len(parts) > PARTS_MOST:
        raise TooManyParts(f"there are at most {PARTS_MOST} parts")
    return parts


def stake_in(parts, name):
    # By index alone, since an entry may come with a trail or without one.
    return total_of([piece_of(part[0], 1, len(part[1])) for part in parts if name in part[1]])


def numbers_held(parts, name):
    return [number for number, part in enumerate(parts, start=1) if name in part[1]]
