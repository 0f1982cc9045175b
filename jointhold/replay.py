"""Replay: a register made anew from its names and its deeds."""

from jointhold.ledger import Register


def do_deed(land, deed):
    kind = deed[0]
    if kind == "grant":
        land.grant(deed[1])
    elif kind == "sever":
        land.sever(deed[1], deed[2])
    elif kind == "hand":
        land.hand(deed[1], deed[2], deed[3], deed[4])
    elif kind == "follow":
        land.follow(deed[1], deed[2])
    else:
        land.die(deed[1])


def replayed(names, deeds):
    land = Register(names)
    for deed in deeds:
        do_deed(land, deed)
    return land
