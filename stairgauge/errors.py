"""The refusals: one class for each, all straight under GaugeError."""


class GaugeError(ValueError):
    pass


class Unknown(GaugeError):
    pass


class InUse(GaugeError):
    pass


class BadName(GaugeError):
    pass


class BadNumber(GaugeError):
    pass


class TooMuch(GaugeError):
    pass


class Full(GaugeError):
    pass


class NothingBack(GaugeError):
    pass


class NoWidths(GaugeError):
    pass


class BadRow(GaugeError):
    pass
