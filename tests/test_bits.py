import unittest

from minders.bits import below, bit, without


class BitsTest(unittest.TestCase):
    def test_bit(self):
        self.assertEqual([bit(place) for place in range(5)], [1, 2, 4, 8, 16])
        self.assertEqual(bit(63), 9223372036854775808)
        self.assertEqual(bit(64), 18446744073709551616)

    def test_below(self):
        self.assertEqual([below(place) for place in range(5)], [0, 1, 3, 7, 15])
        self.assertEqual(below(64), 18446744073709551615)

    def test_each_place_below_and_no_other(self):
        for place in range(70):
            self.assertEqual(below(place), sum(bit(other) for other in range(place)))

    def test_without(self):
        self.assertEqual(without(0b1111, 0b0101), 0b1010)
        self.assertEqual(without(0b1010, 0b0101), 0b1010)
        self.assertEqual(without(0b0101, 0b1111), 0)
        self.assertEqual(without(0b1011, 0), 0b1011)
        self.assertEqual(without(0, 0b1011), 0)
        self.assertEqual(without(below(64), below(63)), bit(63))


if __name__ == "__main__":
    unittest.main()
