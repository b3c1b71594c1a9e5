"""The refusals of the package."""


class EnvError(ValueError):
    """Any refusal."""


class BadProgram(EnvError):
    """What is to be a program is none."""


class BadWay(EnvError):
    """What is to be a way is none."""


class BadMost(EnvError):
    """What is to tell how many activations may begin does not."""
