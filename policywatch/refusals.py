"""The refusals of the calls: one error class for each error code."""


class Refusal(Exception):
    """A call that failed, with the code that it is answered by."""

    def __init__(self, code):
        self.code = code


class NoSetting(Refusal):
    """There is no monitor, or it has no setting."""

    def __init__(self):
        Refusal.__init__(self, -11)


class SettingExists(Refusal):
    """The monitor already has a setting."""

    def __init__(self):
        Refusal.__init__(self, -13)


class NotThere(Refusal):
    """The policy or the signal doesn't exist."""

    def __init__(self):
        Refusal.__init__(self, -2)


class OutsideLimits(Refusal):
    """An argument is outside its limits."""

    def __init__(self):
        Refusal.__init__(self, -22)


class LogNotEmpty(Refusal):
    """The operation isn't allowed while the log isn't empty."""

    def __init__(self):
        Refusal.__init__(self, -16)


class SameCheatSet(Refusal):
    """There is already a policy with this cheat set."""

    def __init__(self):
        Refusal.__init__(self, -17)


class Full(Refusal):
    """The list of policies or the log is full."""

    def __init__(self):
        Refusal.__init__(self, -28)


class NoValue(Refusal):
    """There are no candidates, or the requested value doesn't exist."""

    def __init__(self):
        Refusal.__init__(self, -33)


class HarmTooHigh(Refusal):
    """The expected harm is too high, or production isn't permitted."""

    def __init__(self):
        Refusal.__init__(self, -30)


class NothingToUndo(Refusal):
    """There is nothing to undo or to revoke."""

    def __init__(self):
        Refusal.__init__(self, -6)
