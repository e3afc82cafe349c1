"""What a call may be refused for. The desk gives each its number."""


class TextTooLong(Exception):
    """A text has more bytes than a tale's text may have."""


class NoTale(Exception):
    """A text is no tale."""


class TooManyStates(Exception):
    """A tale can come to more states than are gone through."""


class NoSuchState(Exception):
    """A state that is asked for is none of those that can be come to."""


class NeverWon(Exception):
    """From a state that is asked for no turns lead to a won one."""
