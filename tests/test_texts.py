import copy
import random
import unittest

from oracles import MIXED, SHEETS, SUMS, TAGS, all_trees, random_sheets
from samples import BINARY, PARTLY, TERNARY, WIDE, all_of_size, comb
from slow_texts import (blanks_put, form_told, problem_of, rule_told, sheet_problem, spoilt, spoilt_lines, sum_ended, tokens_of,
                        tree_ended, tree_told)
from treelaws.errors import NoSheet, SyntaxProblem
from treelaws.forms import Form
from treelaws.sheets import is_sheet
from treelaws.texts import format_rule, format_sheet, format_tree, parse_form, parse_rule, parse_sheet, parse_tree

RANDOM = random_sheets(80, 3, 171) + random_sheets(20, 6, 172, factors=(1, -1, 10 ** 6, -12), most=8)
SIGNS = "ab1 0(),+-*.=:x9\t\nA;"


def texts_of_forms(source):
    def product():
        words = [source.choice(("a", "b2", "longname", "0", "1", "17", "x", "9" * 40)) for _ in range(source.randint(1, 4))]
        return "*".join(words)
    for _ in range(150):
        yield source.choice(("", "-")) + source.choice((" + ", "-", "+", " - ")).join(product() for _ in range(source.randint(1, 4)))


def texts_of_rules(source):
    def product():
        words = source.sample(["0.a", "1.b", "2.longname", "3", "0", "1", "2", "100"], source.randint(1, 4))
        return "*".join(words)
    for _ in range(150):
        yield source.choice(("", "-")) + source.choice((" + ", "-", "+", " - ")).join(product() for _ in range(source.randint(1, 4)))


class ProblemsTest(unittest.TestCase):
    def same_problem(self, parse, text, problem):
        try:
            found = parse(text)
        except SyntaxProblem as error:
            self.assertEqual((error.line, error.column), problem, repr(text))
            return None
        except NoSheet:
            found = None
        self.assertIsNone(problem, repr(text))
        return found

    def spoils(self, parse, texts, told, ended, seed):
        source = random.Random(seed)
        counts = [0, 0]
        for text in texts:
            self.same_problem(parse, text, None)
            self.same_problem(parse, blanks_put(source, text).replace("\n", " "), None)
            for _ in range(25):
                some = spoilt(source, text, SIGNS)
                problem = problem_of(some, told, ended)
                self.same_problem(parse, some, problem)
                counts[problem is None] += 1
        self.assertGreater(min(counts), 100)

    def test_trees(self):
        texts = [format_tree(tree) for schema in (BINARY, TERNARY, WIDE) for some in all_of_size(schema, 4).values()
                 for trees in some for tree in trees[:40]]
        self.spoils(parse_tree, texts, tree_told, tree_ended, 2)

    def test_forms(self):
        self.spoils(parse_form, list(texts_of_forms(random.Random(3))), form_told, sum_ended, 4)

    def test_rules(self):
        self.spoils(parse_rule, list(texts_of_rules(random.Random(5))), rule_told, sum_ended, 6)

    def test_sheets(self):
        source = random.Random(7)
        for sheet in list(SHEETS) + RANDOM:
            text = format_sheet(sheet)
            for _ in range(12):
                for some in (blanks_put(source, text), spoilt(source, text, SIGNS), spoilt_lines(source, text),
                             spoilt(source, spoilt_lines(source, blanks_put(source, text)), SIGNS)):
                    self.same_problem(parse_sheet, some, sheet_problem(some))

    def test_random_tokens(self):
        source = random.Random(8)
        for parse, told, ended in ((parse_tree, tree_told, tree_ended), (parse_form, form_told, sum_ended), (parse_rule, rule_told, sum_ended)):
            for _ in range(1500):
                text = source.choice(("", " ")).join(source.choice(("a", "0", "1", "7", "0.a", "1.b", "(", ")", ",", "+", "-", "*", ".", "=", "B", "01"))
                                                     for _ in range(source.randint(0, 7)))
                self.same_problem(parse, text, problem_of(text, told, ended))


def column_of(test, parse, text):
    with test.assertRaises(SyntaxProblem) as caught:
        parse(text)
    test.assertEqual(caught.exception.line, 1)
    return caught.exception.column


class TreesTest(unittest.TestCase):
    def test_read_back(self):
        for schema in (BINARY, TERNARY, PARTLY, WIDE):
            for some in all_of_size(schema, 5).values():
                for trees in some:
                    for tree in trees[:60]:
                        self.assertEqual(parse_tree(format_tree(tree)), tree)
                        self.assertEqual(parse_tree(format_tree(tree).replace(", ", " , ").replace("(", "\t( ")), tree)
        for tree in (comb(199), ("a",) * 1):
            self.assertEqual(parse_tree(format_tree(tree)), tree)

    def test_in_plain_words(self):
        self.assertEqual(format_tree(("a", ("b",), ("c", ("d",)), ("e",))), "a(b, c(d), e)")
        self.assertEqual(parse_tree(" a ( b,c(d) ,\te)"), ("a", ("b",), ("c", ("d",)), ("e",)))
        for text, column in (("", 1), ("  ", 3), ("a(", 3), ("a()", 3), ("a(b,)", 5), ("a(b,c,d,e)", 8), ("a b", 3), ("a(b)(c)", 5),
                             ("a(b", 4), ("a(b))", 5), ("1", 1), ("a(b;c)", 4), ("a)) ;", 5), ("abcdefghi", 1), ("a(b, abcdefghi)", 6),
                             ("a\n", 2), ("a(b\n,c)", 4), ("(a)", 1), ("a(12b)", 3), ("a,b", 2), ("A", 1), ("a(01)", 3)):
            self.assertEqual(column_of(self, parse_tree, text), column, text)

    def test_two_hundred_tags(self):
        row = "more(" * 199 + "end" + ")" * 199
        self.assertEqual(format_tree(parse_tree(row)), row)
        self.assertEqual(column_of(self, parse_tree, "more(" * 200 + "end" + ")" * 200), len("more(" * 199 + "more") + 1)
        self.assertEqual(column_of(self, parse_tree, "more(" * 200), len("more(" * 199 + "more") + 1)
        wide = "f(" + "g(a,b,c)," * 2 + "h)"
        tree = parse_tree(wide)
        self.assertEqual(len(tree), 4)
        text = "f(" * 99 + "a" + ",b)" * 99
        self.assertEqual(format_tree(parse_tree(text)), text.replace(",", ", "))
        text = "f(" * 99 + "a(c)" + ",b)" * 99
        self.assertEqual(format_tree(parse_tree(text)), text.replace(",", ", "))
        text = "f(" * 99 + "a(c,d)" + ",b)" * 99
        self.assertEqual(column_of(self, parse_tree, text), len(text) - 2)


class FormsTest(unittest.TestCase):
    def test_read_back(self):
        source = random.Random(9)
        for text in texts_of_forms(source):
            form = parse_form(text)
            if all(abs(factor) < 10 ** 40 for factor, _ in form.terms):
                self.assertEqual(parse_form(str(form)), form)
                self.assertEqual(parse_form(str(form)).terms, form.terms)

    def test_in_plain_words(self):
        for text, told in (("2*a*b - 3 + a*b", "3*a*b - 3"), ("-a", "-a"), ("0", "0"), ("a-a", "0"), ("b*2*a*3", "6*a*b"), ("0*a+1", "1"),
                           ("- 1 - 1", "-2"), ("a*a*a*a*a*a*a*a*a*a*a*a", "a*a*a*a*a*a*a*a*a*a*a*a"), ("kind + tag*x", "tag*x + kind")):
            self.assertEqual(str(parse_form(text)), told)
        self.assertIsInstance(parse_form("1"), Form)
        self.assertEqual(parse_form("9" * 40).terms, ((10 ** 40 - 1, ()),))
        for text, column in (("", 1), ("+a", 1), ("--a", 2), ("a+", 3), ("a b", 3), ("a*", 3), ("a**b", 3), ("2a", 2), ("a=", 2), ("0.a", 2),
                             ("9" * 41, 1), ("a + 00", 5), ("a*b*c*d*e*f*g*h*i*j*k*l*m", 25), ("a*b*c*d*e*f*g*h*i*j*k*l*", 25), ("a +  ", 6),
                             ("a + B", 5), ("a) B", 4), ("a+\n", 3)):
            self.assertEqual(column_of(self, parse_form, text), column, text)
        self.assertEqual(str(parse_form("a*b*c*d*e*f*g*h*i*j*k*l*3 + m")), "3*a*b*c*d*e*f*g*h*i*j*k*l + m")


class RulesTest(unittest.TestCase):
    def test_read_back(self):
        for sheet in list(SHEETS) + RANDOM:
            for rules in sheet[2].values():
                for rule in rules:
                    self.assertEqual(parse_rule(format_rule(rule)), rule)

    def test_in_plain_words(self):
        for text, told in (("0", ()), ("0.a", ((1, ((0, "a"),)),)), ("1.a*0.b", ((1, ((0, "b"), (1, "a"))),)), ("0.a - 0.a", ()),
                           ("2*0.a*3 + 1 - 0.a", ((1, ()), (5, ((0, "a"),)))), ("-2.x", ((-1, ((2, "x"),)),)), ("1*2", ((2, ()),)),
                           ("0.a*1.b + 3*1.b*0.a", ((4, ((0, "a"), (1, "b"))),)), ("0*0.a", ()), ("0*1", ()), ("0 . a", ((1, ((0, "a"),)),))):
            self.assertEqual(parse_rule(text), told)
        self.assertEqual([format_rule(rule) for rule in ((), ((1, ()),), ((-1, ((0, "a"),)), (2, ((0, "a"), (2, "b")))))],
                         ["0", "1", "-0.a + 2*0.a*2.b"])
        for text, column in (("", 1), ("a", 1), ("3.a", 2), ("0.a*0.b", 6), ("0.", 3), ("0.1", 3), ("0.a*1.b*2.c*0.d", 14), ("00.a", 1),
                             ("0.a*", 5), ("-", 2), ("0.a.b", 4), ("2*0.a*x", 7), ("0.a:", 4), ("0.a ; b", 5)):
            self.assertEqual(column_of(self, parse_rule, text), column, text)


class SheetsTest(unittest.TestCase):
    def test_read_back(self):
        source = random.Random(11)
        for sheet in list(SHEETS) + RANDOM:
            text = format_sheet(sheet)
            self.assertEqual(repr(parse_sheet(text)), repr(sheet))
            for _ in range(3):
                self.assertEqual(repr(parse_sheet(blanks_put(source, text))), repr(sheet))
            self.assertEqual(format_sheet(parse_sheet(text)), text)

    def test_canonical_text(self):
        self.assertEqual(format_sheet(SUMS), "kind row steps sum\ntag end\nsteps = 0\nsum = 0\ntag more row\nsteps = 1 + 0.steps\n"
                                             "sum = 0.steps + 0.sum")
        self.assertEqual(format_sheet(({"a": (), "b": (("t", ("a", "b")),)}, {"a": (), "b": ()}, {"t": ()})), "kind a\nkind b\ntag t a b")

    def lines(self, text, problem):
        with self.assertRaises(SyntaxProblem) as caught:
            parse_sheet(text)
        self.assertEqual((caught.exception.line, caught.exception.column), problem, repr(text))
        self.assertEqual(sheet_problem(text), problem)

    def test_problems(self):
        for text, problem in (
                ("kind", (1, 5)), ("kind \ntag t", (1, 6)), ("kind 3", (1, 6)), ("kind a b 3", (1, 10)), ("kind a\nkind a", (2, 6)),
                ("tag t", (1, 1)), ("kind a\ntag", (2, 4)), ("kind a\ntag t\ntag t", (3, 5)), ("kind a\ntag t\n\nkind b\ntag t", (5, 5)),
                ("x", (1, 1)), ("\n  x = 3", (2, 3)), ("kind = 3", (1, 1)), ("kind =", (1, 1)), ("kind a\n tag = 3", (2, 2)), ("kind a\ntag =", (2, 1)), ("kind a\nx = 1", (2, 1)),
                ("kind a x\ntag t", (2, 6)), ("kind a x\ntag t\n", (3, 1)), ("kind a x\ntag t\n\n  ", (4, 3)), ("kind a x\ntag t\ny = 1", (3, 1)),
                ("kind a x\ntag t\nx", (3, 2)), ("kind a x\ntag t\nx 1", (3, 3)), ("kind a x\ntag t\nx =", (3, 4)), ("kind a x\ntag t\nx = = ", (3, 5)),
                ("kind a x\ntag t\nkind b", (3, 1)), ("kind a kind\ntag t\nkind b", (3, 6)), ("kind a x\ntag t\nx = 1 2", (3, 7)),
                ("kind a x\ntag t\nx = 1\nx = 1", (4, 1)), ("kind a x y\ntag t\nx = 1\n", (4, 1)), ("kind a x y\ntag t\nx = 1\nx = 1", (4, 1)),
                ("kind a\ntag t 3", (2, 7)), ("kind a\ntag t = 3", (2, 7)), ("x\nkind B", (1, 1)), ("kind a, b", (1, 7)), ("kind a\n\n=", (3, 1)),
                ("kind a x\ntag t\nx = 0.y*0.z", (3, 10)), ("kind a tag\ntag t\ntag = 1\ntag u\ntag v", (5, 5)), ("kind a\n= 1", (2, 1)),
                ("kind a\n2 = 1", (2, 1)), ("kind abcdefghi\nA", (1, 6)), ("kind a : b", (1, 8))):
            self.lines(text, problem)

    def test_what_is_no_token_waits_for_earlier_lines(self):
        for text, problem in (
                # An earlier line is refused at a token, or ends too early.
                ("kind a\ntag 5\nA", (2, 5)), ("kind a\nkind a\n;", (2, 6)), ("tag t\n\nabcdefghi", (1, 1)), ("kind a\nx = 1\n007", (2, 1)),
                ("kind a\ntag t\ntag t\nB", (3, 5)), ("kind\nA", (1, 5)), ("kind a\ntag \nA", (2, 5)), ("kind a x\ntag t\nx = 1 +\n;", (3, 8)),
                ("kind a x\ntag t\nx\nA", (3, 2)), ("kind a x\ntag t\nkind b\nA", (3, 1)), ("kind a x\ntag t\nx = 0.y*0.z\n" + "9" * 41, (3, 10)),
                # Within its line it comes first, also where the line is refused anyway.
                ("kind a\ntag 5 A", (2, 7)), ("kind a\nkind a ;\ntag 5", (2, 8)), ("tag t\tabcdefghi", (1, 7)), ("kind a\nx = 007", (2, 5)),
                ("kind a x\ntag t\ny = 0.a;", (3, 8)), ("kind a x\ntag t\nx = 1 1 " + "9" * 41, (3, 9)),
                # Ahead of later lines, and of the end where a rule is due, it comes first.
                ("kind a\nA\ntag 5", (2, 1)), ("kind a\ntag t ;\nx = 1", (2, 7)), ("A\nB", (1, 1)), ("kind a x\ntag t\n;", (3, 1)),
                ("kind a x\ntag t\n\n  ;\n", (4, 3)), ("kind a x x\ntag t\nx = 1\nx = A", (4, 5))):
            self.lines(text, problem)

    def test_no_sheets(self):
        for text in ("", "\n \t\n", "kind a x x", "kind a a b c d e f g", "kind a\ntag t b", "kind a\ntag t a a a a", "kind a x\ntag t\nx = 0.x",
                     "kind a\ntag t\ntag u\ntag v\ntag w\ntag x", "\n".join(f"kind k{n}" for n in range(7)), "kind a x\ntag t\nx = 1000001",
                     "kind a x\ntag t a\nx = 0.y", "kind a x\ntag t a\nx = " + "0.x*1000000*2", "kind a x\ntag t\nx = " + "9" * 40,
                     "kind a " + " ".join(f"n{n}" for n in range(9)) + "\ntag t a a a\n"
                     + "\n".join(f"n{n} = " + " + ".join(f"0.n{m}" for m in range(9)) for n in range(9))):
            self.assertRaises(NoSheet, parse_sheet, text)
            self.assertIsNone(sheet_problem(text))
        self.assertEqual(parse_sheet("kind a x\ntag t\nx = 1000000 + 0"), ({"a": (("t", ()),)}, {"a": ("x",)}, {"t": (((10 ** 6, ()),),)}))
        self.assertEqual(parse_sheet("kind tag kind\ntag kind tag\n kind=0.kind "),
                         ({"tag": (("kind", ("tag",)),)}, {"tag": ("kind",)}, {"kind": (((1, ((0, "kind"),)),),)}))
        self.assertEqual(parse_sheet("kind a"), ({"a": ()}, {"a": ()}, {}))

    def test_what_is_passed_stays(self):
        sheet = copy.deepcopy(MIXED)
        for _ in range(2):
            text = format_sheet(sheet)
            for part in parse_sheet(text):
                part.clear()
            self.assertEqual(sheet, MIXED)
