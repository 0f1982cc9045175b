"""Severing: one of several joint holders takes an even piece of the part out."""

from jointhold.errors import NotHeld
from jointhold.parts import checked_many, part_behind, part_numbered, with_part
from jointhold.people import names_without
from jointhold.shares import piece_of


def sever_part(parts, number, name, deed):
    part = part_numbered(parts, number)
    share = part[0]
    holders = part[1]
    trail = part[2]
    many = len(holders)
    if many < 2 or name not in holders:
        raise NotHeld(f"{name!r} is not one of several holders of part {number}")
    others = names_without(holders, (name,))
    rest = part_behind(trail, deed, number, piece_of(share, many - 1, many), others)
    taken = part_behind(trail, deed, len(parts) + 1, piece_of(share, 1, many), (name,))
    return checked_many(with_part(parts, number, rest) + [taken])
