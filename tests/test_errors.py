"""The errors of the interface: bases, arguments, attributes."""

import inspect
import unittest

from pairlaws import errors

PLAIN = ["MixedNames", "NotSquare", "NotShort", "NotPlain", "MixedFrames", "MixedWorlds", "BadPaper", "BadSplit",
         "BadSteps", "HasRest", "BadImages", "BadDeed", "TooMany", "NothingDone"]
TOLD = {
    "BadName": ["name"], "TwiceTold": ["name"], "BadFrame": ["name"], "BadWorld": ["name"], "NotFree": ["name"],
    "NotOfKind": ["word", "members"], "BadPlan": ["number"], "ComesRound": ["members"], "BadTerm": ["path"],
    "BadText": ["place"], "NotKept": ["number"], "NotFlat": ["number"], "MixedEnds": ["number"],
    "NotTotal": ["name", "word", "member"], "NotLed": ["name", "pair"], "Broken": ["members"], "Clash": ["spots"],
}
MISSING = {"UnknownName": ["name"], "NotTold": ["name"], "NoState": ["number"]}
TUPLES = ["members", "path", "pair", "spots"]
VALUES = [None, True, 0, 7, "a", "", ("a", 1), ["a"], {"a": []}, errors.MixedNames()]


class Errors(unittest.TestCase):
    def test_bases(self):
        self.assertEqual(errors.PairError.__bases__, (ValueError,))
        self.assertEqual(errors.NameMissing.__bases__, (LookupError,))
        for name in PLAIN + list(TOLD):
            self.assertEqual(getattr(errors, name).__bases__, (errors.PairError,), name)
        for name in MISSING:
            self.assertEqual(getattr(errors, name).__bases__, (errors.NameMissing,), name)

    def test_no_others(self):
        found = [name for name, value in vars(errors).items() if inspect.isclass(value)]
        self.assertEqual(sorted(found), sorted(["PairError", "NameMissing", *PLAIN, *TOLD, *MISSING]))

    def test_plain_ones(self):
        for name in PLAIN:
            self.assertEqual(vars(getattr(errors, name)()), {})

    def test_arguments_become_attributes(self):
        for name, attributes in {**TOLD, **MISSING}.items():
            made = getattr(errors, name)
            self.assertEqual(list(inspect.signature(made).parameters), attributes)
            for value in VALUES:
                told = [[value, "x"] if attribute in TUPLES else value for attribute in attributes]
                for error in (made(*told), made(*[tuple(t) if isinstance(t, list) else t for t in told])):
                    self.assertEqual(list(vars(error)), attributes)

    def test_kept_values(self):
        for name, attributes in {**TOLD, **MISSING}.items():
            for value in VALUES:
                told = [[value, "x"] if attribute in TUPLES else value for attribute in attributes]
                error = getattr(errors, name)(*told)
                for attribute, kept in zip(attributes, told):
                    found = getattr(error, attribute)
                    if attribute in TUPLES:
                        self.assertEqual(found, tuple(kept))
                        self.assertIs(type(found), tuple)
                        self.assertIs(found[0], value)
                    else:
                        self.assertIs(found, kept)

    def test_later_changes_of_a_list(self):
        members = ["a"]
        error = errors.NotOfKind("each", members)
        members.append("b")
        self.assertEqual((error.word, error.members), ("each", ("a",)))

    def test_caught_by_base(self):
        for name in [*PLAIN, *TOLD]:
            self.assertTrue(issubclass(getattr(errors, name), ValueError))
            self.assertFalse(issubclass(getattr(errors, name), LookupError))
        for name in MISSING:
            self.assertFalse(issubclass(getattr(errors, name), ValueError))


if __name__ == "__main__":
    unittest.main()
