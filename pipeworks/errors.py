"""The refusals: one class for each, and FlowError above them all."""


class FlowError(ValueError):
    pass


class NoStation(FlowError):
    pass


class NoWidth(FlowError):
    pass


class OneStation(FlowError):
    pass
