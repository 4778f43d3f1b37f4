"""Looks at values handed in, of which nothing is known yet."""


def number_below(thing, limit):
    """Whether a thing is a number from 0 on, below the limit."""
    return isinstance(thing, int) and not isinstance(thing, bool) and 0 <= thing < limit


def number_from_zero(thing):
    """Whether a thing is a number from 0 on, of any size."""
    return isinstance(thing, int) and not isinstance(thing, bool) and thing >= 0


def rising_below(thing, limit):
    """Whether a thing is a rising tuple of one number or more, from 0 on, below the limit."""
    if not isinstance(thing, tuple) or not 1 <= len(thing) <= limit:
        return False
    last = -1
    for part in thing:
        if not number_below(part, limit) or part <= last:
            return False
        last = part
    return True


def unlike_below(thing, limit):
    """Whether a thing is a tuple of one number or more, from 0 on, below the limit, no two alike."""
    if not isinstance(thing, tuple) or not 1 <= len(thing) <= limit:
        return False
    for at, part in enumerate(thing):
        if not number_below(part, limit) or part in thing[:at]:
            return False
    return True
