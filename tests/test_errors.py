import unittest

from quiltyard import errors
from quiltyard.errors import BadPicture, BadSize, BadSystem, BadText, QuiltError, Unlike

REFUSALS = [BadPicture, BadSystem, BadSize, Unlike, BadText]


class Errors(unittest.TestCase):
    def test_all_are_below_quilt_error(self):
        self.assertTrue(issubclass(QuiltError, ValueError))
        for refusal in REFUSALS:
            self.assertTrue(issubclass(refusal, QuiltError), refusal)

    def test_none_is_below_another(self):
        for one in REFUSALS:
            for other in REFUSALS + [QuiltError]:
                if one != other:
                    self.assertFalse(issubclass(other, one), (other, one))

    def test_names(self):
        for refusal in REFUSALS + [QuiltError]:
            self.assertEqual(getattr(errors, refusal.__name__), refusal)

    def test_each_is_taken_as_quilt_error(self):
        for refusal in REFUSALS:
            with self.assertRaises(QuiltError):
                raise refusal(1)

    def test_bad_text_has_its_row(self):
        for row in [1, 2, 17, 10 ** 15 - 1]:
            self.assertEqual(BadText(row).row, row)
        with self.assertRaises(BadText) as caught:
            raise BadText(5)
        self.assertEqual(caught.exception.row, 5)


if __name__ == "__main__":
    unittest.main()
