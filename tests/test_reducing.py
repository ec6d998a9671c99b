"""Short bases, which the listing of skew forms rests on."""

import itertools
import unittest

from formworld.reducing import multiple_step, nearest_quotient, put, short_basis, sign_step, take_away
from tests import reference


def rank(vectors):
    """How many of the vectors are independent."""
    rows, found = [list(v) for v in vectors], 0
    for column in range(len(rows[0])):
        at = next((k for k in range(found, len(rows)) if rows[k][column]), None)
        if at is None:
            continue
        rows[found], rows[at] = rows[at], rows[found]
        for k in range(found + 1, len(rows)):
            a, b = rows[found][column], rows[k][column]
            rows[k] = [a * y - b * x for x, y in zip(rows[found], rows[k])]
        found += 1
    return found


def successive_lengths(coefficients, most):
    """For k from 1 on, the least value up to which k independent vectors are found."""
    n = reference.unknowns(coefficients)
    lengths, system = [], []
    for m, vector in sorted((m, v) for v, m in reference.listing(coefficients, most).items() if m > 0):
        if len(system) < n and rank(system + [vector]) > len(system):
            system.append(vector)
            lengths.append(m)
    return lengths


class ReducingTest(unittest.TestCase):

    def test_nearest_quotient(self):
        for divisor in range(1, 9):
            for number in range(-40, 41):
                found = nearest_quotient(number, divisor)
                self.assertLessEqual(2 * abs(number - found * divisor), divisor)

    def test_steps_shorten(self):
        for skew, _, _, _ in reference.skew_forms(70, 4):
            table = reference.table(skew)
            n = len(table)

            def length_with(index, other, many):
                vector = [int(k == index) - many * int(k == other) for k in range(n)]
                return reference.dot_table(table, vector, vector)

            step = multiple_step(table)
            if step is not None:
                index, other, many = step
                self.assertNotEqual(index, other)
                self.assertLess(length_with(*step), table[index][index])
                for worse in (many - 1, many + 1):
                    self.assertGreaterEqual(length_with(index, other, worse), length_with(*step))
            step = sign_step(table)
            if step is not None:
                index, signs = step
                self.assertEqual(signs[index], 1)
                self.assertLess(reference.dot_table(table, signs, signs), table[index][index])

    def test_great_multiples_in_one_step(self):
        self.assertEqual(multiple_step(((2, 60), (60, 1802))), (1, 0, 30))
        self.assertIn(multiple_step(((2, -61), (-61, 1864))), ((1, 0, -30), (1, 0, -31)))
        self.assertIsNone(multiple_step(((2, 1), (1, 2))))
        self.assertIsNone(multiple_step(((2, 0), (0, 2))))

    def test_sign_steps(self):
        """There is a step exactly if some sum of three or more basis vectors is shorter than the longest one in it."""
        rows = list(reference.POSITIVE) + [row for row, _, _, _ in reference.skew_forms(73, 3, 20, 300)]
        none = some = 0
        for table in map(reference.table, rows):
            n = len(table)
            step = sign_step(table)
            shorter = any(reference.dot_table(table, signs, signs) < max(table[i][i] for i in range(n) if signs[i])
                          for signs in itertools.product((-1, 0, 1), repeat=n) if sum(map(abs, signs)) > 2)
            self.assertIs(step is not None, shorter, table)
            none += step is None
            some += step is not None
            if step is not None:
                self.assertLessEqual(set(step[1]), {-1, 0, 1})
                self.assertEqual(len(step[1]), n)
                self.assertGreater(sum(map(abs, step[1])), 2)
        self.assertGreater(min(none, some), 10)

    def test_steps_keep_basis_and_table(self):
        """After each step the rows are the products of the vectors with one another, and they are still a basis."""
        for skew, _, _, _ in reference.skew_forms(74, 3):
            table = reference.table(skew)
            n = len(table)
            basis = [tuple(int(i == j) for j in range(n)) for i in range(n)]
            rows = [list(row) for row in table]
            for _ in range(30):
                step, done = multiple_step(rows), take_away
                if step is None:
                    step, done = sign_step(rows), put
                if step is None:
                    break
                done(basis, rows, step)
                self.assertEqual(abs(reference.determinant(basis)), 1)
                self.assertEqual(rows, [[reference.dot_table(table, v, w) for w in basis] for v in basis])

    def test_bases(self):
        """A basis, longest first; with up to four unknowns none has shorter vectors."""
        for skew, easy, _, _ in reference.skew_forms(71, 4) + [(row, row, None, None) for row in reference.POSITIVE]:
            basis, rows = short_basis(reference.table(skew))
            self.assertEqual(abs(reference.determinant(basis)), 1)
            self.assertEqual([list(row) for row in rows],
                             [[reference.dot_table(reference.table(skew), v, w) for w in basis] for v in basis])
            lengths = [reference.value(skew, vector) for vector in basis]
            self.assertEqual(lengths, sorted(lengths, reverse=True))
            if len(easy) < 15:
                self.assertEqual(lengths[::-1], successive_lengths(easy, lengths[0]), skew)

    def test_a_short_basis_stays(self):
        for row in ((1, 0, 1), (3, 0, 2), reference.diagonal((4, 3, 2, 1))):
            n = reference.unknowns(row)
            basis, rows = short_basis(reference.table(row))
            self.assertEqual(basis, [tuple(int(i == j) for j in range(n)) for i in range(n)])
            self.assertEqual(tuple(rows), reference.table(row))


if __name__ == "__main__":
    unittest.main()
