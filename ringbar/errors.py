"""The refusals of the program."""


class RingError(ValueError):
    """Any refusal."""


class BadBar(RingError):
    """No number of rings that a bar may have."""


class BadSetting(RingError):
    """No setting, or none that fits the other one."""


class BadChest(RingError):
    """No counts of a chest."""


class BadRow(RingError):
    """No row of the chest."""


class BadNumber(RingError):
    """No number of a setting or a row, or no number of steps that may be told."""


class NoMove(RingError):
    """Nothing that may be changed, done or taken back now."""


class TooMany(RingError):
    """More rows than are told at once."""


class NoNote(RingError):
    """No written setting or row."""
