import unittest

from skypairs import errors
from skypairs.errors import (BadCount, BadDeed, BadLights, BadRule, BadSlip, BadText, Halted,
                             NoLight, SkyError)

REFUSALS = (BadLights, BadRule, BadSlip, BadCount, NoLight, BadDeed, Halted, BadText)


class Errors(unittest.TestCase):
    def test_each_is_a_sky_error_and_none_is_under_another(self):
        self.assertEqual(SkyError.__bases__, (ValueError,))
        for refusal in REFUSALS:
            self.assertEqual(refusal.__bases__, (SkyError,))

    def test_each_is_defined_there(self):
        for refusal in REFUSALS + (SkyError,):
            self.assertEqual(refusal.__module__, "skypairs.errors")
            self.assertIs(getattr(errors, refusal.__name__), refusal)

    def test_values(self):
        self.assertEqual(BadLights(3).number, 3)
        self.assertEqual(BadDeed(4).number, 4)
        self.assertEqual(BadText(5).row, 5)
        halted = Halted(6, 2)
        self.assertEqual((halted.number, halted.done), (6, 2))

    def test_those_without_values(self):
        for refusal in (SkyError, BadRule, BadSlip, BadCount, NoLight):
            self.assertEqual(vars(refusal()), {})
            self.assertEqual(vars(refusal("why")), {})

    def test_each_has_words(self):
        for error in (BadLights(0), BadDeed(0), BadText(0), Halted(0, 0)):
            self.assertTrue(str(error))


if __name__ == "__main__":
    unittest.main()
