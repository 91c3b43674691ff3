"""The classes of errors.py: base classes, arguments, attributes."""

import unittest

from kithwhole import errors

PLAIN = {
    "InvalidArgument": "KithwholeError",
    "InvalidName": "InvalidArgument",
    "UncountedChange": "KithwholeError",
    "DamagedPacket": "KithwholeError",
    "UnfitPacket": "KithwholeError",
    "PowerOff": "KithwholeError",
    "ReplicaClosed": "KithwholeError",
    "ReplicaOpen": "KithwholeError",
    "NothingToTrim": "KithwholeError",
    "NoMoment": "KithwholeError",
    "ForgottenPast": "NoMoment",
    "QuestionError": "KithwholeError",
    "KindMismatch": "QuestionError",
    "ColumnCount": "QuestionError",
    "RowCount": "QuestionError",
    "AggregateNotAllowed": "QuestionError",
    "GroupingNotAllowed": "QuestionError",
    "NothingToShow": "QuestionError",
    "NoReason": "QuestionError",
    "NoPlan": "QuestionError",
}

# name: base class, arguments, attributes
TELLING = {
    "ShortStock": ("KithwholeError", (7,), {"missing": 7}),
    "EditError": ("KithwholeError", (2,), {"place": 2}),
    "NoSuchRow": ("EditError", (3,), {"place": 3}),
    "NotWritable": ("EditError", (1, "n"), {"place": 1, "name": "n"}),
    "WrongValue": ("EditError", (0, "m"), {"place": 0, "name": "m"}),
    "TurnsMore": ("EditError", (4, "s0_t", "0.1.2"), {"place": 4, "source": "s0_t", "row": "0.1.2"}),
    "RefusedText": ("QuestionError", (9,), {"position": 9}),
    "UnknownTable": ("QuestionError", ("t",), {"name": "t"}),
    "UnknownColumn": ("QuestionError", ("q.c",), {"name": "q.c"}),
    "AmbiguousColumn": ("QuestionError", ("c",), {"name": "c"}),
    "DuplicateSource": ("QuestionError", ("d",), {"name": "d"}),
    "NotGrouped": ("QuestionError", ("g",), {"name": "g"}),
    "UnknownParameter": ("QuestionError", (5,), {"number": 5}),
    "UnknownPosition": ("QuestionError", (6,), {"number": 6}),
}


class Errors(unittest.TestCase):
    def test_the_base_class_is_a_value_error(self):
        self.assertEqual(errors.KithwholeError.__bases__, (ValueError,))

    def test_plain_classes_stand_under_their_base(self):
        for name, base in PLAIN.items():
            with self.subTest(name):
                made = getattr(errors, name)
                self.assertEqual(made.__bases__, (getattr(errors, base),))
                self.assertIsInstance(made("words"), errors.KithwholeError)
                with self.assertRaises(made):
                    raise made("words")

    def test_telling_classes_keep_what_they_are_created_with(self):
        for name, (base, arguments, attributes) in TELLING.items():
            with self.subTest(name):
                made = getattr(errors, name)
                self.assertEqual(made.__bases__, (getattr(errors, base),))
                error = made(*arguments)
                self.assertIsInstance(error, errors.KithwholeError)
                for attribute, value in attributes.items():
                    self.assertEqual(getattr(error, attribute), value)
                with self.assertRaises(made) as caught:
                    raise made(*arguments)
                for attribute, value in attributes.items():
                    self.assertEqual(getattr(caught.exception, attribute), value)

    def test_there_is_no_other_class(self):
        told = set(PLAIN) | set(TELLING) | {"KithwholeError"}
        here = {name for name, thing in vars(errors).items() if isinstance(thing, type)}
        self.assertEqual(here, told)


if __name__ == "__main__":
    unittest.main()
