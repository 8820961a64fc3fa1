"""A list to hand in, which shows whether it is left as it was."""


class ReadOnly(list):
    """A list that fails at any change."""

    def refuse(self, *values, **named):
        raise AssertionError("the list that was handed in is changed")

    append = clear = extend = insert = pop = remove = reverse = sort = refuse
    __setitem__ = __delitem__ = __iadd__ = __imul__ = refuse
