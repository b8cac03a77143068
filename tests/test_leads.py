"""ringbars.leads: flat triangles out of three ranges."""

import unittest
from itertools import product

from ringbars.leads import flat_three
from tests.common import Case


class LeadsTest(Case):

    def test_flat_three(self):
        ranges = [(low, high) for low in range(4) for high in range(low, 5)]
        for three in product(ranges, repeat=3):
            rows = product(*[range(low, high + 1) for low, high in three])
            flat = [row for row in rows if 2 * max(row) == sum(row)]
            answer = flat_three(three)
            if flat:
                self.assertIn(tuple(answer), flat)
            else:
                self.assertIsNone(answer)


if __name__ == "__main__":
    unittest.main()
