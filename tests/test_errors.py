import unittest

from postnet.errors import BadPost, BadRow, NetError, NoNet, TooWide

REFUSALS = (BadPost, BadRow, TooWide, NoNet)


class ErrorsTest(unittest.TestCase):
    def test_any_refusal_is_a_value_error(self):
        self.assertEqual(NetError.__bases__, (ValueError,))

    def test_each_refusal_stands_under_net_error(self):
        for refusal in REFUSALS:
            with self.subTest(refusal=refusal.__name__):
                self.assertTrue(issubclass(refusal, NetError))
                self.assertIsNot(refusal, NetError)

    def test_no_refusal_stands_under_another(self):
        for one in REFUSALS:
            for other in REFUSALS:
                if one is not other:
                    self.assertFalse(issubclass(one, other), (one, other))

    def test_names(self):
        self.assertEqual(NetError.__name__, "NetError")
        self.assertEqual([one.__name__ for one in REFUSALS], ["BadPost", "BadRow", "TooWide", "NoNet"])

    def test_each_can_be_raised_and_taken_as_net_error_and_value_error(self):
        for refusal in REFUSALS:
            for taken in (refusal, NetError, ValueError):
                with self.assertRaises(taken):
                    raise refusal("words")


if __name__ == "__main__":
    unittest.main()
