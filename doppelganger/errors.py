"""The errors that the program raises ([1.2])."""


class DoppelError(ValueError):
    """The base class of all errors of the program."""


class NotAllowed(DoppelError):
    """An argument is not shaped as it has to be, or is out of its range."""


class BadForm(DoppelError):
    """A text or a list does not have the form that it has to have."""


class BadName(DoppelError):
    """A name is used that is not bound."""


class BadKind(DoppelError):
    """Something is of another kind than it has to be."""


class TooLarge(DoppelError):
    """A limit of the document is exceeded."""


class Missing(DoppelError):
    """Something that is asked for is not there."""


class Same(DoppelError):
    """Two things are the same that have to be apart."""


class Apart(DoppelError):
    """Two things are apart that have to be the same."""
