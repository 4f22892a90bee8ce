"""The examples of the document, as they stand there."""

import doctest
import sys
import unittest

EXAMPLES = r"""
# Stage 4
>>> from treelaws.forms import Form
>>> x, y = Form.named("x"), Form.named("y")
>>> form = (x + 2) * (x - y) - 3
>>> [str(form), form.terms, form.degree, len(form), "y" in form, form({"x": 1, "y": 5}), str(5 - y * 0)]
['x*x - x*y + 2*x - 2*y - 3', ((1, ('x', 'x')), (-1, ('x', 'y')), (2, ('x',)), (-2, ('y',)), (-3, ())), 2, 5, True, -15, '5']

# Stage 5
>>> from treelaws.forms import Form
>>> from treelaws.spaces import Space
>>> x, y = Form.named("x"), Form.named("y")
>>> one, other = Space(("x", "y"), 1, [2 * x + 4 * y, 3 * x - 3]), Space(("y", "x"), 1, [x + 2 * y, y + 7])
>>> [[str(form) for form in space.basis] for space in (one, one & other, one | other)] + [str(one.rest(2 * x + y - 1)[1])]
[['x - 1', '2*y + 1'], ['x + 2*y'], ['x', 'y', '1'], '1']

# Stage 6
>>> from treelaws.equations import first_trees, equations
>>> schema = {"tree": (("leaf", ()), ("join", ("tree", "tree")))}
>>> rules = {"leaf": (((1, ()),), ((1, ()),), ()), "join": (((1, ()), (1, ((0, "tags"),)), (1, ((1, "tags"),))), ((1, ((0, "leaves"),)), (1, ((1, "leaves"),))), ((1, ()), (1, ((0, "joins"),)), (1, ((1, "joins"),))))}
>>> sheet = (schema, {"tree": ("tags", "leaves", "joins")}, rules)
>>> [[str(form) for form in equations(sheet, 1)["tree"].basis], first_trees(sheet, 1)["tree"], len(equations(sheet, 2)["tree"])]
[['2*joins - tags + 1', '2*leaves - tags - 1'], (('leaf',), ('join', ('leaf',), ('leaf',))), 7]

# Stage 7
>>> from treelaws.papers import certificate, order_certificate, shows_closed, shows_equations, shows_order
>>> rules = {"end": ((), ((1, ()),)), "more": (((1, ()), (1, ((0, "steps"),))), ((2, ((0, "power"),)),))}
>>> sheet = ({"row": (("end", ()), ("more", ("row",)))}, {"row": ("steps", "power")}, rules)
>>> found = order_certificate(sheet, 1)
>>> [certificate(sheet, 1), shows_equations(sheet, 1, certificate(sheet, 1)), shows_closed(sheet, 1, {"row": (((1, ("steps",)),),)}), [pair[0] for pair in found[1]["row"]], shows_order(sheet, 1, found)]
[({'row': ()}, {'row': (('end',), ('more', ('end',)), ('more', ('more', ('end',))))}), True, False, [('end',), ('more', ('end',)), ('more', ('more', ('end',)))], True]

# Stage 8
>>> from treelaws.breaks import all_breaks, first_breaks, holds
>>> from treelaws.forms import Form
>>> rules = {"end": ((), ((1, ()),)), "more": (((1, ()), (1, ((0, "steps"),))), ((2, ((0, "power"),)),))}
>>> sheet = ({"row": (("end", ()), ("more", ("row",)))}, {"row": ("steps", "power")}, rules)
>>> steps, power = Form.named("steps"), Form.named("power")
>>> [first_breaks(sheet, "row", (power - steps - 1, steps * steps - steps)), all_breaks(sheet, "row", (steps, power)), holds(sheet, "row", power - 2 * steps)]
[(('more', ('more', ('end',))), (0, 1)), [('more', ('end',)), ('end',)], False]

# Stage 9
>>> from treelaws.told import new_equations, told_by, untold
>>> rules = {"end": ((), ()), "more": (((1, ()), (1, ((0, "steps"),))), ((1, ((0, "steps"),)), (1, ((0, "sum"),))))}
>>> sheet = ({"row": (("end", ()), ("more", ("row",)))}, {"row": ("steps", "sum")}, rules)
>>> [told_by(sheet, "row", "sum", ("steps",)), untold(sheet, "row", "sum", ("steps",)), [str(form) for form in new_equations(sheet, "row", 2)]]
[None, ((1, ('end',)), (-2, ('more', ('end',))), (1, ('more', ('more', ('end',))))), ['steps*steps - steps - 2*sum']]

# Stage 10
>>> from treelaws.stored import exchanges, stored
>>> tags, leaves = ((1, ()), (1, ((0, "tags"),)), (1, ((1, "tags"),))), ((1, ((0, "leaves"),)), (1, ((1, "leaves"),)))
>>> sheet = ({"tree": (("leaf", ()), ("join", ("tree", "tree")))}, {"tree": ("tags", "leaves")}, {"leaf": (((1, ()),), ((1, ()),)), "join": (tags, leaves)})
>>> [stored(sheet, "tree", {"tags": 5, "leaves": 1}), exchanges(sheet, "tree", {"tags": 3, "leaves": 3}, ("leaves",), ("tags",))]
[(1, ('leaves',), (('tags', 1, ((2, ('leaves',)), (-1, ()))),)), [('leaves',), ('tags',)]]

# Stage 11
>>> from treelaws.bends import bends_within, blind_changes, distance, noticed_by
>>> tags, leaves = ((1, ()), (1, ((0, "tags"),)), (1, ((1, "tags"),))), ((1, ((0, "leaves"),)), (1, ((1, "leaves"),)))
>>> sheet = ({"tree": (("leaf", ()), ("join", ("tree", "tree")))}, {"tree": ("tags", "leaves")}, {"leaf": (((1, ()),), ((1, ()),)), "join": (tags, leaves)})
>>> rules = {"end": ((), ()), "more": (((1, ()), (1, ((0, "steps"),))), ((1, ((0, "steps"),)), (1, ((0, "sum"),))))}
>>> other = ({"row": (("end", ()), ("more", ("row",)))}, {"row": ("steps", "sum")}, rules)
>>> [bends_within(sheet, "tree", ("tags", "leaves")), distance(sheet, "tree"), str(noticed_by(sheet, "tree", 1, (5, 4))), blind_changes(other, "row", 2, ("more", ("more", ("end",))), "steps")]
[[(2, 1)], 2, '2*leaves - tags - 1', [-3]]

# Stage 12
>>> from treelaws.filters import added_equations, first_under, lacking, lets_by
>>> schema = {"tree": (("leaf", ()), ("join", ("tree", "tree")))}
>>> rules = {"leaf": ((), ((1, ()),)), "join": (((1, ()), (1, ((0, "depth"),))), ((1, ((0, "leaves"),)), (1, ((1, "leaves"),))))}
>>> sheet = (schema, {"tree": ("depth", "leaves")}, rules)
>>> comb = ({"top": (("leaf", ()), ("join", ("top", "end"))), "end": (("leaf", ()),)}, ("top",))
>>> [[str(form) for form in added_equations(sheet, comb, 1)["tree"].basis], first_under(sheet, comb, 1)["tree"], lets_by(schema, comb, ("join", ("leaf",), ("join", ("leaf",), ("leaf",)))), lacking(schema, ({"any": (("leaf", ()), ("join", ("any", "any")))}, ("any",)), comb)["tree"]]
[['depth - leaves + 1'], (('leaf',), ('join', ('leaf',), ('leaf',))), False, ('join', ('leaf',), ('join', ('leaf',), ('leaf',)))]

# Stage 14
>>> from treelaws.forms import Form
>>> from treelaws.modulo import ModSpace, first_break_modulo, equations_modulo
>>> sheet = ({"row": (("end", ()), ("more", ("row",)))}, {"row": ("steps", "sum")}, {"end": ((), ()), "more": (((1, ()), (1, ((0, "steps"),))), ((2, ((0, "steps"),)), (1, ((0, "sum"),))))})
>>> found = equations_modulo(sheet, 1, 4)["row"]
>>> [[str(form) for form in found.basis], found.many, first_break_modulo(sheet, "row", Form.named("sum"), 4), [str(form) for form in ModSpace(("a",), 1, 12, [8 * Form.named("a") + 6, Form.number(9)]).basis]]
[['2*sum'], 2, ('more', ('more', ('end',))), ['4*a', '3']]

# Stage 15
>>> from treelaws.documents import Document
>>> schema = {"tree": (("leaf", ()), ("join", ("tree", "tree")))}
>>> document = Document((schema, {"tree": ("leaves",)}, {"leaf": (((1, ()),),), "join": (((1, ((0, "leaves"),)), (1, ((1, "leaves"),))),)}), "tree", ("join", ("leaf",), ("leaf",)))
>>> document[(1,)] = ("join", ("leaf",), ("leaf",))
>>> document.exchange((0,), (1, 1))
>>> [document[()], len(document), document.paths(), document.changed(), document.deeds, (1, 2) in document]
[{'leaves': 3}, 5, [(), (0,), (1,), (1, 0), (1, 1)], [], 2, False]

# Stage 16
>>> from treelaws.forms import Form
>>> from treelaws.ledger import Ledger
>>> steps, sum_rule = ((1, ()), (1, ((0, "steps"),))), ((1, ((0, "steps"),)), (1, ((0, "sum"),)))
>>> ledger = Ledger(({"row": (("end", ()), ("more", ("row",)))}, {"row": ("steps", "sum")}, {"end": ((), ()), "more": (steps, sum_rule)}))
>>> first, second = Form.named("steps"), Form.named("sum")
>>> done = [ledger.keep("square", "row", first * first - first - 2 * second), ledger.put("one", "row", ("more", ("end",))), ledger.bend("one", (), "steps", 1)]
>>> [done, ledger.alarms("one"), ledger.set_rules("more", (steps, ())), ledger.verdicts(), ledger.mark(), ledger.back(1), ledger.documents()]
[[[], [], []], [((), 'square')], ['square'], {'square': ('more', ('more', ('end',)))}, 4, ['square'], {}]

# Stage 17
>>> from treelaws.console import Console
>>> from treelaws.texts import format_rule, parse_form, parse_rule
>>> console = Console()
>>> lines = ["open : kind row steps sum | tag end | steps = 0 | sum = 0 | tag more row | steps = 1 + 0.steps | sum = 0.steps + 0.sum", "new row 2", "break row : sum*steps", "values : more(more(end))", "count row 3"]
>>> [[console.execute(line) for line in lines], str(parse_form("2*a*b - 3 + a*b")), format_rule(parse_rule("0.b*2 - 4 + 1.a*0.b"))]
[['ok', 'steps*steps - steps - 2*sum', 'more(more(end))', 'steps=2 sum=1', '1'], '3*a*b - 3', '-4 + 2*0.b + 0.b*1.a']
"""


class ExamplesTest(unittest.TestCase):
    def test_examples(self):
        for part in EXAMPLES.split("# Stage ")[1:]:
            stage, examples = part.split("\n", 1)
            test = doctest.DocTestParser().get_doctest(examples, {}, f"stage {stage}", None, 0)
            failed, tried = doctest.DocTestRunner(verbose=False).run(test, out=sys.stderr.write)
            self.assertEqual(failed, 0, stage)
            self.assertGreater(tried, 3)

    def test_all_examples_at_once(self):
        lines = "\n".join(part.split("\n", 1)[1] for part in EXAMPLES.split("# Stage ")[1:])
        test = doctest.DocTestParser().get_doctest(lines, {}, "all stages", None, 0)
        self.assertEqual(doctest.DocTestRunner(verbose=False).run(test, out=sys.stderr.write).failed, 0)
        self.assertEqual(len(EXAMPLES.split("# Stage ")) - 1, 13)
