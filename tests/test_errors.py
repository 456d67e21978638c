import unittest

from wishshown import errors

WITHOUT = [
    "BadName", "BadWidth", "BadKey", "BadSize", "UnknownTable", "BadRow", "NotAscending", "BadTerm", "BadSign",
    "UnboundVariable", "UnknownView", "BadDeed", "ClashingEdits", "BadMay", "NotPlain", "NotRemovable",
    "RowNotThere", "Removable", "CannotBeDone", "NothingToUndo", "NothingToRedo",
]
WITH = {
    "KeyBroken": ["first", "second"], "NotThere": ["fact"], "AlreadyThere": ["fact"], "BadText": ["line", "column"],
    "BadEntry": ["place"],
}


class Errors(unittest.TestCase):
    def test_each_stands_directly_under_the_base(self):
        self.assertEqual(errors.ViewError.__bases__, (ValueError,))
        for name in WITHOUT + list(WITH):
            with self.subTest(name):
                made = getattr(errors, name)
                self.assertEqual(made.__bases__, (errors.ViewError,))
                self.assertEqual((made.__name__, made.__module__), (name, "wishshown.errors"))

    def test_each_is_of_no_other_class(self):
        classes = {name: getattr(errors, name) for name in WITHOUT + list(WITH)}
        for name, made in classes.items():
            error = made(*range(len(WITH.get(name, []))))
            self.assertEqual([other for other in classes if isinstance(error, classes[other])], [name])
            self.assertIsInstance(error, errors.ViewError)
            self.assertIsInstance(error, ValueError)

    def test_there_are_no_further_classes(self):
        found = [name for name in vars(errors) if isinstance(getattr(errors, name), type)]
        self.assertEqual(sorted(found), sorted(WITHOUT + list(WITH) + ["ViewError"]))

    def test_the_arguments_are_the_fields(self):
        for name, fields in WITH.items():
            values = [("box", (field,)) for field in fields]
            for error in (getattr(errors, name)(*values), getattr(errors, name)(**dict(zip(fields, values)))):
                self.assertEqual([getattr(error, field) for field in fields], values)
                self.assertEqual(vars(error), dict(zip(fields, values)))

    def test_those_with_fields_need_their_arguments(self):
        for name in WITH:
            with self.assertRaises(TypeError):
                getattr(errors, name)()

    def test_they_can_be_raised_and_caught_as_value_errors(self):
        for name in WITHOUT:
            with self.assertRaises(ValueError):
                raise getattr(errors, name)()
