"""ringbars.barring: lengths that keep facts, or weights that bar them, by rows of any kind."""

import unittest

from ringbars.barring import do_bar, facts_to_keep, kept_or_barred, mix_of
from ringbars.facts import Fact, Facts, points
from tests.common import Case
from tests.sayings import do_bar as plain_bar
from tests.sayings import is_kept
from tests.test_answers import many_facts, mixed


class BarringTest(Case):

    def test_rows_alone(self):
        # Without the rows that close: so bars may be as long as told.
        for many in range(3, 7):
            for size in range(1, 12):
                for start in range(12):
                    rows = [mixed(many, start + 5 * at) for at in range(size)]
                    lengths, weights = kept_or_barred(rows)
                    if lengths is None:
                        self.assertTrue(do_bar(rows, weights))
                        self.assertGreaterEqual(min(weights), 0)
                    else:
                        self.assertIsNone(weights)
                        self.assertGreaterEqual(min(lengths), 1)
                        self.assertTrue(all(is_kept((row.counts, row.is_above), lengths) for row in rows))

    def test_mix(self):
        self.like(mix_of([Fact([1, -1, 0]), Fact([-2, 0, 3])], [2, 1]), [0, -2, 3])
        rows = [Fact([1, -1, -1]), Fact([-1, 1, 1], True)]
        for weights, right in (([0, 0], False), ([1, 1], True), ([1, 0], False), ([0, 1], False), ([2, 1], False)):
            self.assertIs(do_bar(rows, weights), right)
        self.assertIs(do_bar([Fact([-1, 0, 0])], [1]), True)
        self.assertIs(do_bar([Fact([0, 0, 0], True)], [1]), True)
        self.assertIs(do_bar([Fact([0, 0, 0])], [1]), False)

    def test_order_of_rows(self):
        one, other, last = mixed(4, 1), mixed(4, 2), mixed(4, 5)
        rows = facts_to_keep(Facts(4, [one, other]), (last,))
        self.assertEqual(rows, [one, other] + [points(4, (bar,)) for bar in range(4)] + [last])

    def test_weights_as_the_plain_check_has_them(self):
        for at, facts in enumerate(many_facts()):
            rows = facts_to_keep(facts, ())
            plain = [(fact.counts, fact.is_above) for fact in facts.facts]
            for step in range(6):
                weights = [(at + step * one + one // 2) % 3 for one in range(len(rows))]
                self.assertIs(do_bar(rows, weights), plain_bar(facts.many, plain, weights))


if __name__ == "__main__":
    unittest.main()
