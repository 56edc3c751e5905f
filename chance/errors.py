"""The errors that the program raises by the words of its document."""


class Refused(ValueError):
    """The base of all errors of the program."""


class Malformed(Refused):
    """A text does not fit the grammar from the index `at` on."""

    def __init__(self, at):
        super().__init__(f"the text is malformed at {at}")
        self.at = at


class Invalid(Refused):
    """The argument that `name` tells is not what it must be."""

    def __init__(self, name):
        super().__init__(f"invalid: {name}")
        self.name = name


class TooLarge(Refused):
    """The limit that `name` tells is passed."""

    def __init__(self, name):
        super().__init__(f"too large: {name}")
        self.name = name


class BadStep(Refused):
    """The step of a log with the index `number` is no step or does not apply."""

    def __init__(self, number):
        super().__init__(f"step {number} is no step or does not apply")
        self.number = number


class Impossible(Refused):
    """What `name` tells does not exist."""

    def __init__(self, name):
        super().__init__(f"impossible: {name}")
        self.name = name
