"""The errors as the interface lists them."""

HEADS = {"LetterError": ValueError, "MissingError": LookupError, "StateError": RuntimeError, "LimitError": ArithmeticError}

ERRORS = {
    "LetterError": {
        "InvalidCurve": ["value"], "InvalidForm": ["value"], "InvalidFraction": ["value"], "InvalidFractions": ["value"],
        "InvalidMany": ["value"], "InvalidMove": ["value"], "InvalidMoves": ["value"], "InvalidNumber": ["value"],
        "InvalidPlace": ["value"], "InvalidPoly": ["value"], "DividedByZero": [], "InvalidClaim": ["value"],
        "InvalidCommand": ["value"], "InvalidGoals": ["value"], "InvalidLines": ["position"], "InvalidPaper": ["value"],
        "InvalidPlaces": ["value"], "InvalidPoint": ["value"], "InvalidPower": ["value"], "InvalidPrime": ["value"],
        "InvalidRows": ["value"], "InvalidSort": ["value"], "InvalidText": ["line"], "InvalidValue": ["value"],
    },
    "MissingError": {"UnknownLabel": ["value"], "UnknownName": ["value"]},
    "StateError": {
        "Beyond": [], "CommandFailed": ["position"], "LabelTaken": ["label"], "NameTaken": ["name"], "NotDivided": [],
        "NotFinite": [], "NotFull": [], "NotGroup": [], "NotInner": [], "NotServed": [], "NothingToRedo": [],
        "NothingToUndo": [], "NoughtBottom": [], "NoughtPoly": [], "NumbersAlone": [],
    },
    "LimitError": {"TooMany": ["what", "limit"]},
}
