import unittest

from sparebridges import limits


class LimitsTest(unittest.TestCase):
    def test_the_four_numbers(self):
        told = [limits.MOST_ISLANDS, limits.MOST_BRIDGES, limits.MOST_PRICE, limits.MOST_OFFERS]
        self.assertEqual(told, [5, 1000000000000000000000000000000, 1000000, 6])
        self.assertEqual([number.__class__ for number in told], [int] * 4)


if __name__ == "__main__":
    unittest.main()
