import unittest

from blankform.errors import FormError, NoPart, NoTerm


class Errors(unittest.TestCase):
    def test_every_refusal_is_a_form_error_and_a_value_error(self):
        self.assertTrue(issubclass(FormError, ValueError))
        for kind in (NoTerm, NoPart):
            self.assertEqual(kind.__bases__, (FormError,))
            for wider in (kind, FormError, ValueError):
                with self.assertRaises(wider):
                    raise kind("why")

    def test_the_refusals_are_kept_apart(self):
        self.assertFalse(issubclass(NoTerm, NoPart))
        self.assertFalse(issubclass(NoPart, NoTerm))

    def test_an_error_carries_its_words(self):
        for kind in (FormError, NoTerm, NoPart):
            self.assertEqual(str(kind("why")), "why")
