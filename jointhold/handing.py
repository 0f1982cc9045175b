"""Handing on: a lone holder gives twentieths of a part to others, or to themselves."""

from jointhold.errors import BadPiece, NotHeld
from jointhold.parts import checked_many, part_behind, part_numbered, with_part
from jointhold.shares import piece_of

TWENTIETHS = 20


def whole_handed(parts, number, receivers, deed):
    part = parts[number - 1]
    return with_part(parts, number, part_behind(part[2], deed, number, part[0], receivers))


def piece_handed(parts, number, twentieths, receivers, deed):
    part = parts[number - 1]
    share = part[0]
    trail = part[2]
    left = piece_of(share, TWENTIETHS - twentieths, TWENTIETHS)
    rest = part_behind(trail, deed, number, left, part[1])
    given = part_behind(trail, deed, len(parts) + 1, piece_of(share, twentieths, TWENTIETHS), receivers)
    return with_part(parts, number, rest) + [given]


def hand_part(parts, number, name, twentieths, receivers, deed):
    part = part_numbered(parts, number)
    if part[1] != (name,):
        raise NotHeld(f"{name!r} is not the only holder of part {number}")
    if twentieths < 1 or twentieths > TWENTIETHS:
        raise BadPiece(f"1 to {TWENTIETHS} twentieths are handed on, not {twentieths}")
    # A whole part would else leave an empty one with the giver.
    if twentieths == TWENTIETHS:
        after = whole_handed(parts, number, receivers, deed)
    else:
        after = piece_handed(parts, number, twentieths, receivers, deed)
    return checked_many(after)
