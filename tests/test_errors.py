"""Point 3 and the section errors.py: the error classes and their bases."""

import unittest

from tensorworks import errors

UNDER_TENSOR = (
    "ZeroDenominator TextError RankError AxisError RangeError TooLarge KindError FormError TooWide FeedError "
    "RuleError UnsetWord KeptError ChangeError PlaceError NoRoom MachineError Trap AuditError TableError "
    "JournalError RoughError DeviceError PieceError ProgramError MarkError"
).split()
UNDER_AUDIT = "Outside Racing NeverSet MayOverflow Unsettled".split()


class Errors(unittest.TestCase):
    def test_base(self):
        self.assertEqual(errors.TensorError.__bases__, (ValueError,))

    def test_all_others(self):
        for name in UNDER_TENSOR:
            self.assertEqual(getattr(errors, name).__bases__, (errors.TensorError,), name)
        for name in UNDER_AUDIT:
            self.assertEqual(getattr(errors, name).__bases__, (errors.AuditError,), name)

    def test_nothing_else(self):
        classes = [name for name, thing in vars(errors).items() if isinstance(thing, type)]
        self.assertEqual(sorted(classes), sorted(UNDER_TENSOR + UNDER_AUDIT + ["TensorError"]))
