import unittest

from siftchain import errors

PLAIN = ("InvalidNumber", "UnknownCell", "TooMany", "Contradiction", "InvalidName", "UnknownName")
WITH_ATTRIBUTE = (
    ("InvalidChain", "index"),
    ("InvalidRow", "index"),
    ("InvalidText", "word"),
    ("InvalidOperation", "place"),
)


class ErrorsTest(unittest.TestCase):
    def test_base_is_a_value_error(self):
        self.assertEqual(errors.SiftError.__bases__, (ValueError,))

    def test_all_derive_directly_from_the_base(self):
        for name in PLAIN + tuple(name for name, attribute in WITH_ATTRIBUTE):
            with self.subTest(name=name):
                self.assertEqual(getattr(errors, name).__bases__, (errors.SiftError,))

    def test_there_are_no_others(self):
        found = {name for name, value in vars(errors).items() if isinstance(value, type)}
        wanted = {"SiftError", *PLAIN, *(name for name, attribute in WITH_ATTRIBUTE)}
        self.assertEqual(found, wanted)

    def test_attributes_are_set_when_created(self):
        for name, attribute in WITH_ATTRIBUTE:
            with self.subTest(name=name):
                self.assertEqual(getattr(getattr(errors, name)(3), attribute), 3)
                self.assertEqual(getattr(getattr(errors, name)(**{attribute: 0}), attribute), 0)

    def test_messages_are_strings_that_are_not_empty(self):
        for name, attribute in WITH_ATTRIBUTE:
            self.assertIn("3", str(getattr(errors, name)(3)))


if __name__ == "__main__":
    unittest.main()
