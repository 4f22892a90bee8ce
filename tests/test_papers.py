import copy
import itertools
import random
import unittest
from fractions import Fraction

from oracles import DEPTHS, EMPTY, MIXED, NUMBERLESS, POWER, PRODUCTS, SHEETS, SUMS, TAGS
from oracles import all_trees, null_rows, products, random_sheets, rank, row, value, value_of
from samples import ALIENS, CHAIN, comb, compare, row as row_tree, size, with_aliens
from treelaws.equations import equations, first_trees
from treelaws.errors import NoForm, NoSheet, TooMany
from treelaws.forms import Form
from treelaws.papers import certificate, order_certificate, shows_closed, shows_equations, shows_order
from treelaws.trees import is_tree

ONE_OR_TWO = [sheet for sheet in random_sheets(130, 2, 31) if len(sheet[0]) < 3]
THREE_NUMBERS = [sheet for sheet in random_sheets(60, 3, 32) if len(sheet[0]) < 3]
CASES = ([(sheet, 1) for sheet in list(SHEETS) + THREE_NUMBERS] + [(sheet, 2) for sheet in list(SHEETS) + ONE_OR_TWO]
         + [(sheet, 3) for sheet in random_sheets(20, 1, 33) if len(sheet[0]) < 3])


def named(terms):
    return {names: Fraction(factor) for factor, names in terms}


def echelon(forms, columns):
    """A dict from first products to forms (dicts with a 1 there) of the reduced echelon of some forms."""
    rows = [[form.get(names, 0) for names in columns][::-1] for form in map(named, forms)]
    width = len(columns)
    found = {}
    for one in null_rows(null_rows(rows, width), width):
        form = {names: worth for names, worth in zip(columns, one[::-1]) if worth}
        first = next(names for names in columns if names in form)
        found[first] = {names: worth / form[first] for names, worth in form.items()}
    return found


def put_in(form, numbers, rules):
    """What a form becomes if the rules of a tag are put in: a dict from tuples of products, one for each child."""
    found = {}
    for names, worth in form.items():
        for terms in itertools.product(*[rules[numbers.index(name)] for name in names]):
            factor, parts = worth, [(), (), ()]
            for times, uses in terms:
                factor *= times
                for child, name in uses:
                    parts[child] = tuple(sorted(parts[child] + (name,)))
            found[tuple(parts)] = found.get(tuple(parts), 0) + factor
    return found


def closed(sheet, degree, forms):
    """Whether forms, told by terms, are closed, just as point 12 tells it."""
    schema, numbers, rules = sheet
    spaces = {kind: echelon(some, products(numbers[kind], degree)) for kind, some in forms.items()}
    for kind, variants in schema.items():
        for tag, children in variants:
            for form in spaces[kind].values():
                left = put_in(form, numbers[kind], rules[tag])
                for at, child in enumerate(children):
                    less = {}
                    for key, factor in left.items():
                        first = spaces[child].get(key[at])
                        rest = {key[at]: 1} if first is None else {
                            names: -worth for names, worth in first.items() if names != key[at]}
                        for names, worth in rest.items():
                            other = key[:at] + (names,) + key[at + 1:]
                            less[other] = less.get(other, 0) + factor * worth
                    left = less
                if any(left.values()):
                    return False
    return True


def are_terms(thing, names, degree):
    """Whether an object is the terms of a form of point 8 over some names, of at most a degree."""
    if not isinstance(thing, tuple):
        return False
    for term in thing:
        if not isinstance(term, tuple) or len(term) != 2 or not isinstance(term[1], tuple):
            return False
        if not isinstance(term[0], int) or isinstance(term[0], bool) or term[0] == 0:
            return False
        if not all(isinstance(name, str) and name in names for name in term[1]):
            return False
        if len(term[1]) > degree or list(term[1]) != sorted(term[1]):
            return False
    order = [(-len(names), names) for _, names in thing]
    return order == sorted(order) and len(set(order)) == len(order)


def are_forms(sheet, degree, thing):
    return (isinstance(thing, dict) and list(thing) == list(sheet[0])
            and all(isinstance(some, tuple) and all(are_terms(terms, sheet[1][kind], degree) for terms in some)
                    for kind, some in thing.items()))


def dimension(sheet, kind, degree, forms):
    columns = products(sheet[1][kind], degree)
    return rank([[form.get(names, 0) for names in columns] for form in map(named, forms)])


def right(sheet, degree, thing):
    """Whether an object is a right certificate, by its definition."""
    if not isinstance(thing, tuple) or len(thing) != 2 or not are_forms(sheet, degree, thing[0]):
        return False
    forms, trees = thing
    if not isinstance(trees, dict) or list(trees) != list(sheet[0]):
        return False
    for kind, some in trees.items():
        if not isinstance(some, tuple) or not all(is_tree(sheet[0], kind, tree) for tree in some):
            return False
        rows = [row(sheet[1][kind], degree, value(sheet, tree)) for tree in some]
        many = len(products(sheet[1][kind], degree)) - dimension(sheet, kind, degree, forms[kind])
        if rank(rows) != len(some) or len(some) != many:
            return False
    return closed(sheet, degree, forms)


def right_order(sheet, degree, thing):
    """Whether an object is a right order certificate, by its definition."""
    if not isinstance(thing, tuple) or len(thing) != 2 or not are_forms(sheet, degree, thing[0]):
        return False
    forms, firsts = thing
    schema, numbers, _ = sheet
    if not isinstance(firsts, dict) or list(firsts) != list(schema):
        return False
    for kind, some in firsts.items():
        if not isinstance(some, tuple) or not all(
                isinstance(pair, tuple) and len(pair) == 2 and is_tree(schema, kind, pair[0])
                and are_terms(pair[1], numbers[kind], degree) for pair in some):
            return False
    listed = {kind: [pair[0] for pair in some] for kind, some in firsts.items()}
    for kind, some in firsts.items():
        if len(some) != len(products(numbers[kind], degree)) - dimension(sheet, kind, degree, forms[kind]):
            return False
        for tree in listed[kind]:
            children = dict(schema[kind])[tree[0]]
            if size(tree) > 200 or not all(part in listed[child] for child, part in zip(children, tree[1:])):
                return False
        if not all(compare(schema, kind, one, other) < 0 for one, other in itertools.pairwise(listed[kind])):
            return False
    for kind, some in firsts.items():
        steps = [(tag, *parts) for tag, children in schema[kind] for parts in itertools.product(*[listed[child] for child in children])]
        told = [(tree, value(sheet, tree)) for tree in steps]
        if any(value_of(terms, worths) for terms in forms[kind] for _, worths in told):
            return False
        for tree, terms in some:
            if not value_of(terms, value(sheet, tree)):
                return False
            if any(compare(schema, kind, other, tree) < 0 and value_of(terms, worths) for other, worths in told):
                return False
    return True


def changed_tuple(source, some, others):
    """A tuple with one thing left out, put in twice, exchanged, turned round, or another one put in."""
    some = list(some)
    way = source.randrange(6)
    if way == 0 and some:
        some.pop(source.randrange(len(some)))
    elif way == 1 and some:
        some.insert(source.randrange(len(some) + 1), source.choice(some))
    elif way == 2 and some and others:
        some[source.randrange(len(some))] = source.choice(others)
    elif way == 3:
        source.shuffle(some)
    elif way == 4 and others:
        some.insert(source.randrange(len(some) + 1), source.choice(others))
    else:
        some.reverse()
    return tuple(some)


def changed_terms(source, terms, names):
    """The terms of another form: a factor, a name, a multiple; or what is no terms."""
    form = Form(terms)
    way = source.randrange(9)
    if way == 0:
        return (form * source.choice((2, -1, -3, 0))).terms
    if way == 1:
        return (form + source.choice((1, -1, 5))).terms
    if way == 2 and names:
        return (form + source.choice((1, -2)) * Form.named(source.choice(names))).terms
    if way == 3:
        return terms[::-1]
    if way == 4 and terms:
        return terms + terms[:1]
    if way == 5 and terms:
        return terms[:-1]
    if way == 6 and terms:
        return ((True,) + terms[0][1:],) + terms[1:]
    if way == 7 and terms:
        return ((0, terms[0][1]),) + terms[1:]
    if way == 8 and terms and terms[0][1]:
        return ((terms[0][0], terms[0][1] * 2),) + terms[1:]
    return list(terms)


def changed_forms(source, sheet, degree, forms):
    """Forms of a certificate with something changed at one kind."""
    kind = source.choice(list(forms))
    names, some = sheet[1][kind], forms[kind]
    others = [Form(((source.choice((1, 2, -1)), source.choice(products(names, degree))), (1, ()))).terms for _ in range(2)]
    if len(some) > 1:
        others.append((Form(some[0]) + Form(some[-1]) * source.choice((1, -2))).terms)
    if some and source.random() < 0.4:
        at = source.randrange(len(some))
        return {**forms, kind: some[:at] + (changed_terms(source, some[at], names),) + some[at + 1:]}
    if len(some) > 1 and source.random() < 0.4:
        added = (Form(some[0]) * source.choice((1, 3)) + Form(some[1])).terms
        return {**forms, kind: (added,) + some[1:]}
    return {**forms, kind: changed_tuple(source, some, others)}


def other_orders(thing):
    """Dicts and tuples as a certificate's, but with other keys, in another order, or of another kind."""
    first, second = thing
    yield from ((second, first), [first, second], (first,), thing + (first,), (list(first.items()), second), (first, {}),
                ({}, second), ({**first, "more": ()}, second), (first, {**second, "more": ()}), (None, second), (first, None))
    for at, one in enumerate(thing):
        for kind in one:
            wrong = {**one, kind: list(one[kind])}
            yield (wrong, second) if at == 0 else (first, wrong)
        if len(one) > 1:
            wrong = dict(reversed(one.items()))
            yield (wrong, second) if at == 0 else (first, wrong)


class CertificateTest(unittest.TestCase):
    def setUp(self):
        self.source = random.Random(4)

    def cases(self):
        for sheet, degree in CASES:
            try:
                yield sheet, degree, certificate(sheet, degree)
            except TooMany:
                pass

    def test_forms_and_trees(self):
        for sheet, degree, (forms, trees) in self.cases():
            self.assertEqual(trees, first_trees(sheet, degree))
            self.assertEqual(forms, {kind: tuple(form.terms for form in space.basis)
                                     for kind, space in equations(sheet, degree).items()})
            self.assertEqual([list(forms), list(trees)], [list(sheet[0])] * 2)

    def test_is_right(self):
        for sheet, degree, found in self.cases():
            self.assertIs(shows_equations(sheet, degree, found), True)
            self.assertIs(right(sheet, degree, found), True)
            self.assertIs(shows_closed(sheet, degree, found[0]), True)

    def test_other_forms_and_trees(self):
        for sheet, degree, (forms, trees) in self.cases():
            small, _ = all_trees(sheet, 40)
            for _ in range(3):
                thing = (forms, trees)
                for _ in range(self.source.randint(1, 2)):
                    if self.source.random() < 0.5:
                        if are_forms(sheet, degree, thing[0]):
                            thing = (changed_forms(self.source, sheet, degree, thing[0]), thing[1])
                    else:
                        kind = self.source.choice(list(trees))
                        thing = (thing[0], {**thing[1], kind: changed_tuple(self.source, thing[1][kind], small[kind][:12])})
                self.assertIs(shows_equations(sheet, degree, thing), right(sheet, degree, thing), (sheet, degree, thing))
                if are_forms(sheet, degree, thing[0]):
                    self.assertIs(shows_closed(sheet, degree, thing[0]), closed(sheet, degree, thing[0]), (sheet, degree, thing))
                else:
                    self.assertIs(shows_closed(sheet, degree, thing[0]), False)

    def test_other_right_certificates(self):
        forms, trees = certificate(TAGS, 1)
        one, other = (Form(terms) for terms in forms["tree"])
        for some in ((one, other), (other, one), (one + other, other * -3), (one, other, one), (one, Form(()), other - one, other)):
            self.assertIs(shows_equations(TAGS, 1, ({"tree": tuple(form.terms for form in some)}, trees)), True)
        for some in ((one,), (), (one, one), (one, other, Form.number(1)), (one, other + 1)):
            self.assertIs(shows_equations(TAGS, 1, ({"tree": tuple(form.terms for form in some)}, trees)), False)
        for some in ((comb(3), comb(1)), (comb(5), comb(3)), (comb(9), comb(1)), (comb(301), comb(1))):
            self.assertIs(shows_equations(TAGS, 1, (forms, {"tree": some})), True)
        for some in ((comb(1),), (comb(3), comb(3)), (comb(1), comb(3), comb(5)), (), (comb(1), ("leaf", ())), (comb(1), "leaf")):
            self.assertIs(shows_equations(TAGS, 1, (forms, {"tree": some})), False)

    def test_closed_forms(self):
        tags, leaves = Form.named("tags"), Form.named("leaves")
        for some, expected in (((), True), ((2 * leaves - tags - 1,), True), ((leaves - tags,), False), ((Form.number(1),), False),
                               ((tags - leaves - Form.named("joins"),), True), ((Form(()),), True)):
            self.assertIs(shows_closed(TAGS, 1, {"tree": tuple(form.terms for form in some)}), expected)
        # The second equation is closed only together with the first one.
        rules = {"end": ((), ()), "more": (((1, ()), (1, ((0, "a"),))), ((1, ()), (1, ((0, "a"),))))}
        sheet = (POWER[0], {"row": ("a", "b")}, rules)
        a, b = Form.named("a"), Form.named("b")
        self.assertIs(shows_closed(sheet, 1, {"row": ((a - b).terms,)}), True)
        self.assertIs(shows_closed(sheet, 2, {"row": ((a * b - a * a).terms,)}), True)
        self.assertIs(shows_closed(sheet, 2, {"row": ((a * b - b * b).terms, (a - b).terms)}), True)
        self.assertIs(shows_closed(POWER, 1, {"row": (((1, ("steps",)),),)}), False)

    def test_values_that_might_hide_each_other(self):
        # Two forms are not 0, but one is a power of two times the other: added up some bits apart they might cancel.
        for bits in range(20):
            rules = {"end": (((-2 ** bits, ()),), ((1, ()),)), "more": ((), ())}
            for forms in ((((1, ("x",)),), ((1, ("y",)),)), (((1, ("y",)),), ((1, ("x",)),))):
                self.assertIs(shows_closed((POWER[0], {"row": ("x", "y")}, rules), 1, {"row": forms}), False)
        schema = {"child": (("end", ()),), "top": (("over", ("child",)), ("both", ("child", "child")))}
        rules = {"end": ((), ()), "over": (((1, ((0, "p"),)),), ((1, ((0, "q"),)),)), "both": ((), ())}
        sheet = (schema, {"child": ("p", "q"), "top": ("x", "y")}, rules)
        for bits in range(90):
            child = (Form.named("p") + 2 ** bits * Form.named("q"), 2 ** bits * Form.named("p") - Form.named("q"))
            for form in child:
                forms = {"child": (form.terms,), "top": (((1, ("x",)),), ((1, ("y",)),))}
                self.assertIs(closed(sheet, 1, forms), False)
                self.assertIs(shows_closed(sheet, 1, forms), False)

    def test_nothing_holds_and_all_holds(self):
        self.assertEqual(certificate(EMPTY, 1), ({"none": (((1, ("a",)),), ((1, ("b",)),), ((1, ()),)), "some": (((1, ("b",)),),)},
                                                 {"none": (), "some": (("bare",),)}))
        self.assertEqual(certificate(NUMBERLESS, 2), ({"tree": ()}, {"tree": (("leaf",),)}))
        self.assertIs(shows_closed(EMPTY, 1, {"none": (), "some": ()}), True)
        self.assertIs(shows_equations(EMPTY, 1, ({"none": (), "some": (((1, ("b",)),),)}, {"none": (), "some": (("bare",),)})), False)

    def test_of_other_shape(self):
        for sheet, degree in ((TAGS, 1), (EMPTY, 2), (MIXED, 1)):
            found = certificate(sheet, degree)
            for thing in list(other_orders(found)) + list(ALIENS) + [sheet, 0, (), ({}, {}), equations(sheet, degree)]:
                self.assertIs(shows_equations(sheet, degree, thing), False)
            for thing in [forms for forms, _ in other_orders_of_pairs(found)] + list(ALIENS) + [found, 0, (), {}, equations(sheet, 1)]:
                self.assertIs(shows_closed(sheet, degree, thing), False)

    def test_changed_at_one_place(self):
        for sheet, degree in ((SUMS, 2), (MIXED, 1), (TAGS, 1)):
            found = certificate(sheet, degree)
            for thing in with_aliens(found):
                self.assertIs(shows_equations(sheet, degree, thing), right(sheet, degree, thing))
            for thing in with_aliens(found[0]):
                self.assertIs(shows_closed(sheet, degree, thing), are_forms(sheet, degree, thing) and closed(sheet, degree, thing))


def other_orders_of_pairs(found):
    """Those objects of other_orders that are pairs with another first thing."""
    return [thing for thing in other_orders(found) if isinstance(thing, tuple) and len(thing) == 2 and thing[0] != found[0]
            or isinstance(thing, tuple) and len(thing) == 2 and isinstance(thing[0], dict) and list(thing[0]) != list(found[0])]


class OrderCertificateTest(unittest.TestCase):
    def setUp(self):
        self.source = random.Random(6)

    def cases(self):
        for sheet, degree in CASES:
            try:
                yield sheet, degree, order_certificate(sheet, degree)
            except TooMany:
                pass

    def test_forms_and_trees(self):
        for sheet, degree, (forms, firsts) in self.cases():
            self.assertEqual(forms, certificate(sheet, degree)[0])
            self.assertEqual({kind: tuple(tree for tree, _ in some) for kind, some in firsts.items()}, first_trees(sheet, degree))
            self.assertEqual([list(forms), list(firsts)], [list(sheet[0])] * 2)

    def test_is_right(self):
        for sheet, degree, found in self.cases():
            self.assertIs(shows_order(sheet, degree, found), True)
            self.assertIs(right_order(sheet, degree, found), True, (sheet, degree, found))

    def test_changed(self):
        for sheet, degree, (forms, firsts) in self.cases():
            small, _ = all_trees(sheet, 40)
            for _ in range(4):
                kind = self.source.choice(list(firsts))
                some = firsts[kind]
                way = self.source.randrange(4)
                if way == 0 and some:
                    at = self.source.randrange(len(some))
                    other = (some[at][0], changed_terms(self.source, some[at][1], sheet[1][kind]))
                    thing = (forms, {**firsts, kind: some[:at] + (other,) + some[at + 1:]})
                elif way == 1 and some and small[kind]:
                    at = self.source.randrange(len(some))
                    other = (self.source.choice(small[kind][:12]), some[at][1])
                    thing = (forms, {**firsts, kind: some[:at] + (other,) + some[at + 1:]})
                elif way == 2:
                    others = [(tree, ((1, ()),)) for tree in small[kind][:8]]
                    thing = (forms, {**firsts, kind: changed_tuple(self.source, some, others)})
                else:
                    thing = (changed_forms(self.source, sheet, degree, forms), firsts)
                self.assertIs(shows_order(sheet, degree, thing), right_order(sheet, degree, thing), (sheet, degree, thing))

    def test_later_forms_in_earlier_ones(self):
        # A form that is right for a later tree may be added to that of an earlier one.
        for sheet, degree, (forms, firsts) in self.cases():
            for kind, some in firsts.items():
                if len(some) > 1:
                    added = (Form(some[0][1]) * 2 + Form(some[-1][1])).terms
                    wrong = (Form(some[0][1]) + Form(some[-1][1]) * 2).terms
                    for thing in ((forms, {**firsts, kind: ((some[0][0], added),) + some[1:]}),
                                  (forms, {**firsts, kind: some[:-1] + ((some[-1][0], wrong),)})):
                        self.assertIs(shows_order(sheet, degree, thing), right_order(sheet, degree, thing))

    def test_written_by_hand(self):
        end, one, two, three = (row_tree(tags) for tags in (1, 2, 3, 4))
        none, steps = ((1, ()),), ((1, ("steps",)),)
        square = ((1, ("steps", "steps")), (-1, ("steps",)))
        rules = {"end": ((),), "more": (((1, ()), (1, ((0, "steps"),))),)}
        sheet = (POWER[0], {"row": ("steps",)}, rules)
        for pairs, expected in (
                (((end, none), (one, steps)), True), (((end, ((-7, ()),)), (one, ((5, ("steps",)),))), True),
                (((one, steps), (end, none)), False), (((end, none), (one, none)), False), (((end, steps), (one, steps)), False),
                (((end, none), (two, steps)), False), (((end, none),), False), (((end, none), (one, steps), (two, steps)), False),
                (((one, none), (two, steps)), False), (((end, ((1, ("steps",)), (2, ()))), (one, steps)), True),
                (((end, ((2, ()), (1, ("steps",)))), (one, steps)), False), (((end, none), (end, none)), False),
                ([(end, none), (one, steps)], False), (((end, none), [one, steps]), False), (((end, none, none), (one, steps)), False)):
            self.assertIs(shows_order(sheet, 1, ({"row": ()}, {"row": pairs})), expected, pairs)
        for pairs, expected in ((((end, none), (one, steps), (two, square)), True), (((end, none), (one, steps), (three, square)), False),
                                (((end, none), (two, steps), (one, square)), False), (((end, none), (one, square), (two, steps)), False)):
            self.assertIs(shows_order(sheet, 2, ({"row": ()}, {"row": pairs})), expected, pairs)
        for forms in ((((1, ("steps",)),),), (((1, ()),),), ((),), (((0, ()),),)):
            self.assertIs(shows_order(sheet, 1, ({"row": forms}, {"row": ((end, none), (one, steps))})), forms == ((),))

    def test_of_other_shape(self):
        for sheet, degree in ((TAGS, 1), (EMPTY, 2), (MIXED, 1)):
            found = order_certificate(sheet, degree)
            for thing in list(other_orders(found)) + list(ALIENS) + [sheet, 0, (), certificate(sheet, degree), equations(sheet, degree)]:
                if thing != certificate(sheet, degree) or any(thing[1].values()):
                    self.assertIs(shows_order(sheet, degree, thing), False)

    def test_changed_at_one_place(self):
        for sheet, degree in ((SUMS, 2), (MIXED, 1)):
            found = order_certificate(sheet, degree)
            for thing in with_aliens(found):
                self.assertIs(shows_order(sheet, degree, thing), right_order(sheet, degree, thing))

    def test_large_listed_trees(self):
        firsts = order_certificate(TAGS, 1)[1]["tree"]
        forms = certificate(TAGS, 1)[0]
        for tags in (199, 201, 4001):
            self.assertIs(shows_order(TAGS, 1, (forms, {"tree": (firsts[0], (comb(tags), firsts[1][1]))})), False)


class RaisesTest(unittest.TestCase):
    CALLS = (lambda sheet, degree: certificate(sheet, degree), lambda sheet, degree: order_certificate(sheet, degree),
             lambda sheet, degree: shows_equations(sheet, degree, None), lambda sheet, degree: shows_closed(sheet, degree, None),
             lambda sheet, degree: shows_order(sheet, degree, None))

    def test_no_sheet_then_no_form(self):
        for call in self.CALLS:
            for thing in ALIENS + (0, TAGS[:2]):
                for degree in (1, None):
                    with self.assertRaises(NoSheet):
                        call(thing, degree)
            for degree in ALIENS + (0, 4, True):
                with self.assertRaises(NoForm):
                    call(TAGS, degree)

    def test_four_thousand(self):
        sheet = ({"k": (("u", ("k", "k", "k")),)}, {"k": tuple("abcde")}, {"u": ((),) * 5})
        for call in self.CALLS:
            with self.assertRaises(NoForm):
                call(sheet, 0)
            with self.assertRaises(TooMany) as caught:
                call(sheet, 2)
            self.assertEqual(caught.exception.limit, 4000)

    def test_two_hundred(self):
        sheet = (CHAIN, {kind: () for kind in CHAIN}, {f"t{n}": () for n in range(1, 7)})
        for call in self.CALLS[:2]:
            with self.assertRaises(TooMany) as caught:
                call(sheet, 1)
            self.assertEqual(caught.exception.limit, 200)
        tree = ("t6",)
        trees = {"k6": (tree,)}
        for n in range(5, 0, -1):
            tree = (f"t{n}", tree, tree, tree)
            trees = {f"k{n}": (tree,), **trees}
        forms = {kind: () for kind in CHAIN}
        self.assertIs(shows_closed(sheet, 1, forms), True)
        self.assertIs(shows_equations(sheet, 1, (forms, trees)), True)
        self.assertIs(shows_equations(sheet, 1, (forms, {**trees, "k1": ()})), False)
        pairs = {kind: ((some[0], ((1, ()),)),) for kind, some in trees.items()}
        self.assertIs(shows_order(sheet, 1, (forms, pairs)), False)
        less = ({kind: CHAIN[kind] for kind in list(CHAIN)[1:]}, {kind: () for kind in list(CHAIN)[1:]},
                {f"t{n}": () for n in range(2, 7)})
        self.assertIs(shows_order(less, 1, ({kind: () for kind in less[0]}, {kind: pairs[kind] for kind in less[0]})), True)

    def test_what_is_passed_stays_and_dicts_are_new(self):
        for make, shows in ((certificate, shows_equations), (order_certificate, shows_order)):
            sheet = copy.deepcopy(DEPTHS)
            found = make(sheet, 2)
            before = copy.deepcopy(found)
            self.assertIs(shows(sheet, 2, found), True)
            shows_closed(sheet, 2, found[0])
            self.assertEqual((sheet, found), (DEPTHS, before))
            for part in found:
                part.clear()
            self.assertEqual(make(sheet, 2), before)
            self.assertEqual(make(PRODUCTS, 1)[0], {"tree": ()})
