"""A list for the tests that nothing may change."""


class WatchedList(list):
    """A list that tells when something tries to change it, be it for a while."""

    def refuse(self, *given, **named):
        raise AssertionError("the list that is handed in was changed")

    append = extend = insert = pop = remove = clear = sort = reverse = refuse
    __setitem__ = __delitem__ = __iadd__ = __imul__ = refuse
