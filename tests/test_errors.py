import unittest

from biddingmoves import errors
from samples import odd_values

BASES = {"WrongValue": ValueError, "WrongName": LookupError, "NoAnswer": ArithmeticError}
UNDER = {
    "WrongValue": {
        "given": (
            "InvalidRows InvalidText InvalidPart InvalidShare InvalidBid InvalidMove InvalidPlan InvalidSide "
            "InvalidNumber InvalidName InvalidClaim InvalidIndex InvalidLine NotAWeb"
        ),
        "index": "InvalidDeeds",
    },
    "WrongName": {"given": "UnknownPlace UnknownName", "index": "InUse"},
    "NoAnswer": {"": "NotAnEnd AtAnEnd NothingToUndo", "spot": "NoWay", "index": "Broken"},
}


def leaves():
    """Triples: a class, its base class, the name of its attribute ("" for none)."""
    return [
        (getattr(errors, name), getattr(errors, base), attribute)
        for base, kinds in UNDER.items()
        for attribute, names in kinds.items()
        for name in names.split()
    ]


class TestErrors(unittest.TestCase):
    def test_there_are_these_classes_and_no_others(self):
        there = {name for name, thing in vars(errors).items() if isinstance(thing, type)}
        self.assertEqual(there, set(BASES) | {kind.__name__ for kind, _, _ in leaves()})

    def test_bases_stand_right_under_those_of_python(self):
        for name, above in BASES.items():
            with self.subTest(name):
                kind = getattr(errors, name)
                self.assertEqual(kind.__bases__, (above,))
                self.assertEqual(kind.__module__, "biddingmoves.errors")

    def test_each_class_stands_under_its_base_and_no_other(self):
        for kind, base, _ in leaves():
            with self.subTest(kind.__name__):
                own = [above for above in kind.__mro__ if above.__module__.startswith("biddingmoves")]
                self.assertEqual(own, [kind, base])
                self.assertEqual(kind.__bases__, (base,))
                self.assertEqual(kind.__module__, "biddingmoves.errors")

    def test_made_by_place_and_by_name_with_any_value(self):
        for kind, _, attribute in leaves():
            if not attribute:
                continue
            for at, value in enumerate(odd_values()):
                with self.subTest(kind.__name__, at=at):
                    self.assertIs(getattr(kind(value), attribute), value)
                    self.assertIs(getattr(kind(**{attribute: value}), attribute), value)

    def test_those_with_an_attribute_take_just_it(self):
        for kind, _, attribute in leaves():
            if attribute:
                with self.subTest(kind.__name__):
                    self.assertRaises(TypeError, kind)
                    self.assertRaises(TypeError, kind, 1, 2)
                    self.assertRaises(TypeError, kind, **{attribute: 1, "more": 2})
                    self.assertRaises(TypeError, kind, other=1)

    def test_those_without_an_attribute_take_none(self):
        none = [kind for kind, _, attribute in leaves() if not attribute]
        for kind in none + [getattr(errors, name) for name in BASES]:
            with self.subTest(kind.__name__):
                self.assertIs(type(kind()), kind)
                self.assertRaises(TypeError, kind, 1)
                self.assertRaises(TypeError, kind, None)
                self.assertRaises(TypeError, kind, given=1)

    def test_they_can_be_raised_and_caught_by_each_class_above(self):
        for kind, base, attribute in leaves():
            for above in (kind, base, base.__bases__[0]):
                with self.subTest(kind.__name__, above=above.__name__):
                    with self.assertRaises(above) as caught:
                        raise kind(*([7] if attribute else []))
                    self.assertIs(type(caught.exception), kind)
                    if attribute:
                        self.assertEqual(getattr(caught.exception, attribute), 7)


if __name__ == "__main__":
    unittest.main()
