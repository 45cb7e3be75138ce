"""The faults that end a run: each is raised before its instruction has changed anything."""


class PastMemory(Exception):
    """A place at 2^20 or further on (fault 1)."""


class NoInstruction(Exception):
    """No such instruction here (fault 2)."""


class NotAllowed(Exception):
    """A special register or a value that is not allowed (fault 3)."""


class NothingPushed(Exception):
    """Nothing is pushed (fault 4)."""


class TooMuchPushed(Exception):
    """More than 65536 words would be pushed (fault 5)."""
