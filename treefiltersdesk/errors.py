"""The refusals of the program, one class each."""


class Fault(Exception):
    """A text that is no program or no selector: the kind of its first error and the bytes before it."""

    def __init__(self, kind, position):
        self.kind = kind
        self.position = position


class NotSelector(Exception):
    """A text without expressions, or with several of them, where one selector is needed."""


class NotDocument(Exception):
    """A text that isn't the notation of a document."""


class TooLarge(Exception):
    """Too many steps, or a document that is too large or nested too deeply."""


class BadTemplate(Exception):
    """A filled template that doesn't consist of valid expressions."""
