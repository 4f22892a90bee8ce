import unittest

from treelaws import errors

PLAIN = (
    "NoSchema", "NoSheet", "NoTree", "NoForm", "NoSpace", "NoFilter", "NoModulus", "Mismatch", "NoKind", "NoNumber",
    "NoPath", "NoPrice", "NameTaken", "NoName", "NoMark", "InvalidCommand",
)


class ErrorsTest(unittest.TestCase):
    def test_tree_error_is_a_value_error(self):
        self.assertEqual(errors.TreeError.__bases__, (ValueError,))

    def test_all_others_stand_directly_under_it(self):
        for name in PLAIN + ("SyntaxProblem", "TooMany"):
            self.assertEqual(getattr(errors, name).__bases__, (errors.TreeError,), name)

    def test_plain_errors_are_made_with_a_message(self):
        for name in PLAIN:
            with self.assertRaises(errors.TreeError) as caught:
                raise getattr(errors, name)("why it is so")
            self.assertEqual(str(caught.exception), "why it is so", name)

    def test_syntax_problem_has_line_and_column(self):
        problem = errors.SyntaxProblem(3, 14)
        self.assertEqual((problem.line, problem.column), (3, 14))
        self.assertIn("14", str(problem))

    def test_too_many_has_the_limit(self):
        for limit in (5, 12, 200, 4000):
            self.assertEqual(errors.TooMany(limit).limit, limit)
        self.assertIn("200", str(errors.TooMany(200)))
