"""Followers: who is the heir of a person who dies."""

from jointhold.people import CROWN


def heir_of(name, follows, dead):
    passed = {name: True}
    at = name
    while at in follows:
        at = follows[at]
        # Asked ahead of who lives: the person counts as dead even where dead has not the name.
        if at in passed:
            return CROWN
        if at not in dead:
            return at
        passed[at] = True
    return CROWN
