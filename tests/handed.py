"""Lists that tell when they are changed, for the tests alone."""


class Changed(Exception):
    pass


def refuse(self, *given, **named):
    raise Changed()


class Kept(list):
    """A list that can be read only: any change to it, even for a while, is an error."""

    append = extend = insert = remove = pop = clear = sort = reverse = refuse
    __setitem__ = __delitem__ = __iadd__ = __imul__ = refuse


def kept(direction, conditions):
    return Kept(direction), kept_rows(conditions)


def kept_rows(rows):
    return Kept(Kept(row) for row in rows)
