"""Why a run ends, and why an instruction can't be done."""

ALL_DONE = 0
HALTED = 1
WAITING = 2
NOT_ONE = 3
AT_ODD_PLACE = 4


class NoInstruction(ValueError):
    pass


class OddPlace(ValueError):
    pass
