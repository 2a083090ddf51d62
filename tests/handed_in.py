"""A list to hand in that doesn't let itself be changed, not for a while either."""


def refuse_to_change(self, *told, **named):
    raise AssertionError("what was handed in is changed")


class HandedIn(list):
    __setitem__ = __delitem__ = __iadd__ = __imul__ = refuse_to_change
    append = clear = extend = insert = pop = remove = reverse = sort = refuse_to_change
