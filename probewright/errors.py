"""The errors that the program raises (point 101).

None of them passes a text on to its base: Python then keeps the arguments
as they came, and an error that is copied or sent on is made from them again.
"""


class ProbeError(ValueError):
    """What all errors of the program are."""


class BadNetlist(ProbeError):
    """A text is not a netlist; rows count from 1."""

    def __init__(self, row, reason):
        self.row = row
        self.reason = reason


class BadCircuit(ProbeError):
    """Parts do not make a circuit; the name is empty if none is to blame."""

    def __init__(self, reason, name):
        self.reason = reason
        self.name = name


class BadBreak(ProbeError):
    """A value is not a break, or not a version, of the circuit."""


class BadPattern(ProbeError):
    """A value is not a pattern, or not a partial pattern, of the circuit."""


class BadPaper(ProbeError):
    """A paper does not show what it has to show."""


class BadTester(ProbeError):
    """The chains, the steps or the log of a tester are not as they must be."""


class BadSignature(ProbeError):
    """A press, or what it is given, is not as it must be."""


class BadJob(ProbeError):
    """A question of a job cannot be answered; rows count from 1."""

    def __init__(self, row, reason):
        self.row = row
        self.reason = reason
