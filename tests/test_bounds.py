import unittest

from unturned import bounds


class Bounds(unittest.TestCase):
    def test_each_has_its_number(self):
        told = {"HOUSES": 8, "ROADS": 20, "GREAT": 1000000000000, "SEATS": 28, "TIES": 36,
                "FAR": 1000000000000000, "SMALL": 4096, "DEEDS": 60, "BATCH": 20}
        for name, number in told.items():
            self.assertIs(type(getattr(bounds, name)), int, name)
            self.assertEqual(getattr(bounds, name), number, name)


if __name__ == "__main__":
    unittest.main()
