"""The errors with which hands are refused."""


# One base for all of them, so that a caller can take any refusal by one name.
class RotaError(ValueError):
    pass


class NoStep(RotaError):
    pass


class NoComing(RotaError):
    pass
