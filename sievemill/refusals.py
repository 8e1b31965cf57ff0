"""The refusals: one error class for each code that a call can be refused with."""


class NoCircuit(Exception):
    pass


class NoSuchClass(Exception):
    pass


class BadArgument(Exception):
    pass


class NoSuchValue(Exception):
    pass


class NothingThere(Exception):
    pass


class TooLarge(Exception):
    pass
