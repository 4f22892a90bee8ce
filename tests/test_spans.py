import itertools
import random
import unittest

from oracles import Rows, null_rows
from treelaws.residues import PRIME, fractions_of, inverse_of
from treelaws.spans import Sieve, Span, row_value


class SieveTest(unittest.TestCase):
    def test_values_that_might_hide_each_other(self):
        for low, high in itertools.product(range(0, 200, 3), repeat=2):
            for forms in ([[2 ** low, 0], [0, 1]], [[0, 1], [2 ** low, 0]], [[2 ** low, 0], [0, 1], [0, 0]]):
                for row in ([-2 ** high, 1], [2 ** high, -1], [1, -2 ** high], [0, 1], [1, 0]):
                    self.assertIs(Sieve(forms).all_zero(row), False)

    def test_one_row_after_another(self):
        sieve = Sieve([[1, -1, 0], [2, 0, -1]])
        for many in (0, 1, -5, 10 ** 50, 3, -2 ** 64, 2 ** 63):
            self.assertIs(sieve.all_zero([many, many, 2 * many]), True)
            for other in ([many + 1, many, 2 * many], [many, many, 2 * many - 1], [many, many - 1, 2 * many]):
                self.assertIs(sieve.all_zero(other), False)
        self.assertIs(Sieve([]).all_zero([1, 2]), True)


class SpanTest(unittest.TestCase):
    def test_against_fractions(self):
        source = random.Random(1)
        for _ in range(150):
            width = source.randint(0, 9)
            span, rows = Span(width), Rows()
            kept = []
            for _ in range(source.randint(0, 14)):
                new = [source.choice((0, 0, 1, -2, 3, PRIME, 2 * PRIME, 10 ** 60)) for _ in range(width)]
                if kept and source.random() < 0.5:
                    new = [source.choice((1, -2)) * one + other for one, other in zip(source.choice(kept), source.choice(kept))]
                lacked = any(rows.rest(new))
                self.assertIs(span.lacks(new), lacked)
                self.assertIs(span.takes(new), rows.take(new))
                kept += [new] * lacked
            self.assertEqual(span.rows, kept)
            self.assertIs(span.is_full(), len(kept) == width)
            found = span.null_forms()
            self.assertEqual(len(found), len(null_rows(kept, width)))
            self.assertFalse([form for form in found for row in kept if row_value(form, row)])
            steps = span.steps()
            for at, step in enumerate(steps):
                self.assertFalse([row for row in kept[:at] if row_value(step, row)])
                self.assertTrue(row_value(step, kept[at]))


class ResiduesTest(unittest.TestCase):
    def test_inverses(self):
        for number in (1, 2, -1, PRIME - 1, 10 ** 40, PRIME + 5):
            self.assertEqual(number * inverse_of(number) % PRIME, 1)

    def test_fractions(self):
        source = random.Random(2)
        for _ in range(200):
            many = source.randint(1, 10 ** source.randint(1, 40))
            whole = [source.randint(-10 ** 40, 10 ** 40) for _ in range(4)]
            residues = [one * inverse_of(many) % PRIME for one in whole + [many]]
            found = fractions_of(residues)
            self.assertEqual([one * found[-1] for one in whole], [one * many for one in found[:-1]])
