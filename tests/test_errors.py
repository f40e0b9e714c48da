import unittest

from farfacts import errors
from helpers import Case

PLAIN = ("PolicyExists", "TooManyPolicies", "NoSuchPolicy", "TemplateExists", "TooManyTemplates", "NoSuchTemplate",
         "SlotsDiffer", "TooManyChanges", "UnlikeFacts", "HistoryFull", "NotKept", "NotOpen", "HouseFull", "PowerCut",
         "NoSession", "NoLetter")
WITH_FIELDS = ("TextFault", "OutOfRange", "ChangeRefused")


class ErrorsTest(Case):
    def test_base(self):
        self.assertTrue(issubclass(errors.FarError, ValueError))

    def test_each_derives_from_the_base_alone(self):
        classes = [getattr(errors, name) for name in PLAIN + WITH_FIELDS]
        for one in classes:
            self.assertTrue(issubclass(one, errors.FarError), one)
            others = [other for other in classes if other is not one and issubclass(one, other)]
            self.assertEqual(others, [], one)
        self.assertEqual(len(set(classes)), len(PLAIN) + len(WITH_FIELDS))

    def test_plain_errors_are_made_with_a_string(self):
        for name in PLAIN:
            made = getattr(errors, name)("some words")
            with self.assertRaises(errors.FarError):
                raise made

    def test_text_fault(self):
        made = errors.TextFault(3, 14, "expected a name")
        self.assertEqual((made.line, made.column, made.words), (3, 14, "expected a name"))
        made = errors.TextFault(words="w", column=2, line=1)
        self.assertEqual((made.line, made.column, made.words), (1, 2, "w"))

    def test_out_of_range(self):
        self.assertEqual(errors.OutOfRange("uid").name, "uid")
        self.assertEqual(errors.OutOfRange(name="text").name, "text")

    def test_change_refused(self):
        made = errors.ChangeRefused(5, "entity exists")
        self.assertEqual((made.number, made.words), (5, "entity exists"))
        made = errors.ChangeRefused(words="w", number=0)
        self.assertEqual((made.number, made.words), (0, "w"))


if __name__ == "__main__":
    unittest.main()
