"""People: their names, and the groups of them that deeds and questions name."""

from jointhold.errors import BadGroup, BadNames, Dead, Unknown

CROWN = "CROWN"
PERSONS_MOST = 30
LETTERS_MOST = 12
HOLDERS_MOST = 6


def is_name(text):
    # Each sign is compared by itself: letters beyond a to z count as small letters elsewhere.
    return 1 <= len(text) <= LETTERS_MOST and all(["a" <= sign <= "z" for sign in text])


def has_one_twice(names):
    return len(set(names)) < len(names)


def checked_names(names):
    if len(names) < 1 or len(names) > PERSONS_MOST:
        raise BadNames(f"1 to {PERSONS_MOST} names are asked for")
    for name in names:
        if not is_name(name):
            raise BadNames(f"not a person's name: {name!r}")
    if has_one_twice(names):
        raise BadNames("a name stands twice")
    return tuple(sorted(names))


def group_of(names, least, most):
    if len(names) < least or len(names) > most:
        raise BadGroup(f"a group of {least} to {most} names is asked for")
    if has_one_twice(names):
        raise BadGroup("a name stands twice in a group")
    return tuple(sorted(names))


def names_without(names, gone):
    return tuple([name for name in names if name not in gone])


def check_known(names, known):
    for name in names:
        if name not in known:
            raise Unknown(f"no person is called {name!r}")


def check_living(names, known, dead):
    # All of them ahead of the first dead one: Unknown is due first, whoever is named first.
    check_known(names, known)
    for name in names:
        if name in dead:
            raise Dead(f"{name!r} is dead")
