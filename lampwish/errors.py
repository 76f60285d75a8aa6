"""The refusals, one class for each."""


class LampError(ValueError):
    pass


class NoMerge(LampError):
    pass


class NoSetting(LampError):
    pass
