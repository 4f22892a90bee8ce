import random
import re
import unittest

from oracles import MIXED, SUMS, TAGS, all_trees, random_sheets
from slow_texts import blanks_put, spoilt
from treelaws.bends import distance, noticed_by
from treelaws.breaks import first_break
from treelaws.console import Console
from treelaws.equations import equations, first_trees
from treelaws.errors import InvalidCommand, NoKind, SyntaxProblem, TreeError
from treelaws.ledger import Ledger
from treelaws.sheets import named_values
from treelaws.stored import stored
from treelaws.texts import format_rule, format_sheet, format_tree, parse_form, parse_rule, parse_sheet, parse_tree
from treelaws.told import new_equations, told_by
from treelaws.trees import how_many

FRESH = ({"kind": (("tag", ()),)}, {"kind": ()}, {"tag": ()})
RANDOM = [sheet for sheet in random_sheets(60, 3, 181) if sum(map(len, all_trees(sheet, 20)[0].values())) > 8][:8]
SIGNS = "ab1 0(),+-*.=:x9\t|;-:"
WORD, INTEGER, COUNT = "([^ ]+)", "(0|-?[1-9][0-9]*)", "(0|[1-9][0-9]*)"
PATH = r"(\.|(?:0|[1-9][0-9]*)(?:\.(?:0|[1-9][0-9]*))*)"
SHAPES = {
    "open": " : (.*)", "sheet": "", "kept": "", "verdicts": "", "papers": "", "mark": "", "equations": f" {WORD} {COUNT}",
    "new": f" {WORD} {COUNT}", "first": f" {WORD} {COUNT}", "told": f" {WORD} {WORD}((?: [^ ]+)*)", "stored": f" {WORD}((?: (?:0|[1-9][0-9]*))*)",
    "distance": f" {WORD}", "notice": f" {WORD} {COUNT}((?: (?:0|-?[1-9][0-9]*))*)", "count": f" {WORD} {COUNT}", "values": " : (.*)",
    "break": f" {WORD} : (.*)", "keep": f" {WORD} {WORD} : (.*)", "forget": f" {WORD}", "add": f" {WORD} {WORD}((?: [^ ]+)*?) : (.*)",
    "cut": f" {WORD}", "rules": f" {WORD} : (.*)", "put": f" {WORD} {WORD} : (.*)", "drop": f" {WORD}", "replace": f" {WORD} {PATH} : (.*)",
    "exchange": f" {WORD} {PATH} {PATH}", "bend": f" {WORD} {PATH} {WORD} {INTEGER}", "back": f" {INTEGER}", "look": f" {WORD} {PATH}",
    "alarms": f" {WORD}",
}


def words_of(line):
    """The parts of a line that its command names, or None."""
    word = line.split(" ")[0]
    if word not in SHAPES:
        return None
    has_text = SHAPES[word].endswith(" : (.*)")
    ahead = line.split(" : ")[0] if has_text else line
    match = re.fullmatch(word + SHAPES[word], line, re.DOTALL)
    if not match or has_text and " : " not in line:
        return None
    parts = list(match.groups())
    # Behind the first " : " all is a text.
    if has_text and re.fullmatch(word + SHAPES[word][:-len(" : (.*)")], ahead) is None:
        return None
    if has_text:
        parts = list(re.fullmatch(word + SHAPES[word][:-len(" : (.*)")], ahead).groups()) + [line[len(ahead) + 3:]]
    numbers = re.findall(r"(?<![^ .])-?[0-9]+(?![^ .])", ahead) if word in ("equations", "new", "first", "notice", "count", "stored",
                                                                            "replace", "exchange", "bend", "back", "look") else []
    places = {"equations": 2, "new": 2, "first": 2, "count": 2, "notice": 2, "stored": 2, "replace": 2, "exchange": 2, "look": 2, "back": 1}
    told = " ".join(ahead.split(" ")[places.get(word, 0):]) if word != "bend" else " ".join([ahead.split(" ")[2], ahead.split(" ")[-1]])
    if numbers and any(abs(int(one)) > 10 ** 6 for one in re.findall(r"-?[0-9]+", told)):
        return None
    return [word] + parts


def path_told(text):
    return () if text == "." else tuple(int(index) for index in text.split("."))


def path_text(path):
    return ".".join(map(str, path)) or "."


def rules_told(text):
    return () if text == "nothing" else tuple(parse_rule(one) for one in text.split("; "))


def answer(ledger, line):
    """(ledger, answer) by the table of point 31."""
    parts = words_of(line)
    if parts is None:
        raise InvalidCommand("")
    word, values = parts[0], parts[1:]
    sheet = ledger.sheet_now()
    if word == "open":
        return Ledger(parse_sheet(values[0].replace(" | ", "\n"))), "ok"
    lines = asked(ledger, sheet, word, values)
    if lines is None:
        return ledger, " ".join(["ok"] + done(ledger, word, values))
    return ledger, "\n".join(lines) or "nothing"


def none_or(tree):
    return "none" if tree is None else format_tree(tree)


def asked(ledger, sheet, word, values):
    """The lines of an answer to a question, or None if it is none."""
    kind = values[0] if values else None
    if word in ("equations", "first"):
        found = (equations if word == "equations" else first_trees)(sheet, int(values[1]))
        if kind not in found:
            raise NoKind("")
        return [str(form) for form in found[kind].basis] if word == "equations" else [format_tree(tree) for tree in found[kind]]
    if word == "told":
        found = told_by(sheet, kind, values[1], tuple(values[2].split()))
        return ["no"] if found is None else [f"{found[0]}*{values[1]} = {found[1]}"]
    if word == "stored":
        prices = [int(price) for price in values[1].split()]
        if len(prices) != len(sheet[1].get(kind, ())):
            raise InvalidCommand("")
        price, names, _ = stored(sheet, kind, dict(zip(sheet[1].get(kind, ()), prices)))
        return [" ".join([str(price), *names])]
    if word == "count":
        if kind not in sheet[0] or int(values[1]) > 40:
            raise InvalidCommand("")
        return [str(how_many(sheet[0], kind, int(values[1])))]
    if word == "values":
        tree = parse_tree(kind)
        ledger.need_tree(tree)
        return [" ".join(f"{name}={worth}" for name, worth in named_values(sheet, tree).items())]
    if word == "look":
        return [" ".join(f"{name}={worth}" for name, worth in ledger.stored(kind, path_told(values[1])).items())]
    calls = {
        "sheet": lambda: [format_sheet(sheet)],
        "kept": lambda: [f"{name} {kind} : {form}" for name, (kind, form) in ledger.kept().items()],
        "verdicts": lambda: [f"{name} : {none_or(tree)}" for name, tree in ledger.verdicts().items()],
        "papers": lambda: [f"{name} : {format_tree(tree)}" for name, tree in ledger.documents().items()],
        "mark": lambda: [str(ledger.mark())],
        "new": lambda: [str(form) for form in new_equations(sheet, kind, int(values[1]))],
        "distance": lambda: [str(distance(sheet, kind)).lower()],
        "notice": lambda: [str(noticed_by(sheet, kind, int(values[1]), tuple(map(int, values[2].split()))) or "no")],
        "break": lambda: [none_or(first_break(sheet, kind, parse_form(values[1])))],
        "alarms": lambda: [f"{path_text(path)} {name}" for path, name in ledger.alarms(kind)],
    }
    return calls[word]() if word in calls else None


def done(ledger, word, values):
    """The names that a deed returns."""
    name = values[0]
    calls = {
        "keep": lambda: ledger.keep(name, values[1], parse_form(values[2])),
        "forget": lambda: ledger.forget(name),
        "add": lambda: added(ledger, values),
        "cut": lambda: ledger.drop_variant(name),
        "rules": lambda: ruled(ledger, values),
        "put": lambda: ledger.put(name, values[1], parse_tree(values[2])),
        "drop": lambda: ledger.drop(name),
        "replace": lambda: ledger.replace(name, path_told(values[1]), parse_tree(values[2])),
        "exchange": lambda: ledger.exchange(name, path_told(values[1]), path_told(values[2])),
        "bend": lambda: ledger.bend(name, path_told(values[1]), values[2], int(values[3])),
        "back": lambda: ledger.back(int(name)),
    }
    return calls[word]()


def added(ledger, values):
    rules = rules_told(values[3])
    return ledger.add_variant(values[0], (values[1], tuple(values[2].split())), rules)


def ruled(ledger, values):
    rules = rules_told(values[1])
    return ledger.set_rules(values[0], rules)


def random_line(source, sheet, trees):
    """A line that is a command, perhaps refused."""
    schema, numbers, rules = sheet
    kind = source.choice(list(schema) + ["none"])
    own = list(numbers.get(kind, ())) or ["none"]
    tag = source.choice(list(rules) + ["none"])
    children = next((some for variants in schema.values() for one, some in variants if one == tag), ())
    name, paper = source.choice(("f", "g", "h")), source.choice(("f", "d", "e"))
    path = source.choice((".", ".", "0", "1", "0.0", "1.0", "7"))
    tree = format_tree(source.choice(trees.get(kind) or [("none",)]))
    form = source.choice((source.choice(own), f"{source.choice(own)}*{source.choice(own)} - 2*{source.choice(own)} + 1", "0", "3",
                          "-".join(own), "x*y*z*a"))
    rule = "; ".join([source.choice(("0", "1", f"1 + {0}.{source.choice(sum(map(list, numbers.values()), ['none']))}"))
                      for _ in numbers.get(next((one for one, variants in schema.items() if tag in dict(variants)), kind), ())]) or "nothing"
    counts = [str(source.choice((0, 1, 5, 10 ** 6, 3))) for _ in own]
    return source.choice([
        f"equations {kind} {source.randint(0, 4)}", f"new {kind} {source.randint(0, 3)}", f"first {kind} {source.randint(0, 3)}", "sheet", "kept",
        "verdicts", "papers", "mark", f"told {kind} " + " ".join(source.sample(own, source.randint(1, len(own)))), f"told {kind} " + " ".join(own),
        f"stored {kind} " + " ".join(counts), f"stored {kind}", f"distance {kind}", f"notice {kind} {source.randint(0, 3)} " + " ".join(counts),
        f"count {kind} {source.choice((0, 1, 5, 40, 41))}", f"values : {tree}", f"break {kind} : {form}", f"keep {name} {kind} : {form}",
        f"keep {name} {kind} : {form}", f"forget {name}", f"add {kind} new{source.randint(1, 2)} {kind} : {rule}", f"add {kind} new : {rule}",
        f"cut {tag}", f"cut new{source.randint(1, 2)}", f"rules {tag} : {rule}", f"rules {tag} : {rule}", f"put {paper} {kind} : {tree}",
        f"put {paper} {kind} : {tree}", f"drop {paper}", f"replace {paper} {path} : {tree}", f"exchange {paper} {path} {source.choice(('0', '1', '.'))}",
        f"bend {paper} {path} {source.choice(own)} {source.choice((-3, 0, 7, 10 ** 6, 10 ** 6 + 1, -10 ** 6 - 1))}", f"back {source.randint(-1, 9)}",
        f"look {paper} {path}", f"alarms {paper}", f"add {kind} {tag} {' '.join(children)} : {rule}"])


class ConsoleTest(unittest.TestCase):
    def same(self, console, ledger, line):
        """Executes a line at both; returns the ledger and whether it was refused."""
        try:
            ledger, expected = answer(ledger, line)
        except TreeError as error:
            with self.assertRaises(TreeError) as caught:
                console.execute(line)
            found = caught.exception
            self.assertIs(type(found), type(error), repr(line))
            for field in ("line", "column", "limit"):
                self.assertEqual(getattr(found, field, None), getattr(error, field, None), repr(line))
            return ledger, type(error)
        self.assertEqual(console.execute(line), expected, repr(line))
        return ledger, None

    def test_against_the_table(self):
        source = random.Random(2)
        told = {}
        for sheet in [SUMS, TAGS, MIXED, FRESH] * 2 + RANDOM:
            console, ledger = Console(), Ledger(FRESH)
            ledger, error = self.same(console, ledger, "open : " + format_sheet(sheet).replace("\n", " | "))
            self.assertIsNone(error)
            trees = {kind: some[:8] for kind, some in all_trees(sheet, 12)[0].items()}
            for _ in range(250):
                line = random_line(source, ledger.sheet_now(), trees)
                if source.random() < .25:
                    line = spoilt(source, line, SIGNS)
                ledger, error = self.same(console, ledger, line)
                told.setdefault((line.split(" ")[0], error is None), set()).add(error)
        self.assertEqual([word for word in SHAPES if (word, True) not in told], ["open"])

    def test_open(self):
        source = random.Random(3)
        for sheet in [SUMS, TAGS, MIXED] + RANDOM:
            console, ledger = Console(), Ledger(FRESH)
            text = format_sheet(sheet)
            for _ in range(30):
                some = source.choice((text, blanks_put(source, text), spoilt(source, text, SIGNS)))
                ledger, _ = self.same(console, ledger, "open : " + some.replace("\n", " | "))
                ledger, _ = self.same(console, ledger, spoilt(source, "open : " + text.replace("\n", " | "), SIGNS))
                ledger, _ = self.same(console, ledger, "sheet")

    def test_fresh_console(self):
        console = Console()
        self.assertEqual(console.execute("sheet"), "kind kind\ntag tag")
        for line, told in (("kept", "nothing"), ("verdicts", "nothing"), ("papers", "nothing"), ("mark", "0"), ("count kind 1", "1"),
                           ("values : tag", "nothing"), ("equations kind 1", "nothing"), ("first kind 3", "tag"), ("stored kind", "0"),
                           ("distance kind", "none"), ("notice kind 2", "no"), ("count kind 40", "0"), ("put a kind : tag", "ok"), ("look a .", "nothing"),
                           ("alarms a", "nothing"), ("keep a kind : 3", "ok"), ("verdicts", "a : tag"), ("kept", "a kind : 3"), ("papers", "a : tag"),
                           ("break kind : 0", "none"), ("add kind wrap kind : nothing", "ok"), ("mark", "3"), ("sheet", "kind kind\ntag tag\ntag wrap kind"),
                           ("cut wrap", "ok"), ("back 0", "ok"), ("papers", "nothing"), ("open : kind a", "ok"), ("sheet", "kind a"), ("first a 1", "nothing"),
                           ("equations a 2", "1")):
            self.assertEqual(console.execute(line), told, line)

    def test_in_plain_words(self):
        console = Console()
        for line, told in (
                ("open : kind row steps sum | tag end | steps = 0 | sum = 0 | tag more row | steps = 1 + 0.steps | sum = 0.steps + 0.sum", "ok"),
                ("new row 2", "steps*steps - steps - 2*sum"), ("told row sum steps", "no"), ("told row sum", "no"), ("told row sum sum", "1*sum = sum"),
                ("stored row 3 4", "7 steps sum"), ("distance row", "1"), ("notice row 2 3 3", "no"), ("notice row 2 3 4", "steps*steps - steps - 2*sum"),
                ("first row 1", "end\nmore(end)\nmore(more(end))"), ("keep s row : steps*steps - steps - 2*sum", "ok"), ("keep t row : steps", "ok"),
                ("verdicts", "s : none\nt : more(end)"), ("put s row : more(more(end))", "ok"), ("bend s 0 steps -5", "ok"), ("look s 0", "steps=-4 sum=0"),
                ("alarms s", "0 s"), ("bend s . sum 3", "ok"), ("alarms s", ". s\n0 s"), ("rules more : 0.steps; 1", "ok s t"),
                ("verdicts", "s : more(end)\nt : none"), ("alarms s", "nothing"), ("back 4", "ok s t"), ("kept", "s row : steps*steps - steps - 2*sum\nt row : steps"),
                ("replace s 0.0 : more(end)", "ok"), ("papers", "s : more(more(more(end)))"), ("alarms s", "nothing"), ("forget t", "ok"), ("mark", "6"),
                ("values : more(more(end))", "steps=2 sum=1"), ("count row 40", "1")):
            self.assertEqual(console.execute(line), told, line)

    def test_invalid_commands(self):
        console = Console()
        console.execute("open : kind k x y | tag t | x = 1 | y = 2")
        for line in ("", " ", "sheet ", " sheet", "Sheet", "sheet now", "kept : x", "equations", "equations k", "equations  k 1", "equations k 1 2",
                     "equations k 01", "equations k -1", "equations k +1", "equations k 1000001", "equations k x", "new k", "first k 1 ", "told k",
                     "told k x ", "told k  x", "stored", "stored k", "stored k 1", "stored k 1 2 3", "stored k 1 -2", "stored k 1 1000001", "stored k 1 x",
                     "stored none 1", "distance", "distance k k", "notice k", "notice k x", "notice k 1 x", "notice k 1 1000001", "notice k 1 -1000001",
                     "notice k 1 -0", "notice k 1 00", "count k", "count none 1", "count k 41", "count k -1", "count K 3", "values", "values :", "values: t",
                     "values t : t", "break : x", "break k", "break k :", "break k k : x", "keep a : x", "keep a k", "keep a  k : x", "forget", "forget a b",
                     "add k : 0", "add k t", "cut", "cut t t", "rules : 0", "rules t", "rules t 0", "put a : t", "drop", "replace a : t", "replace a x : t",
                     "replace a 0. : t", "replace a .0 : t", "replace a 00 : t", "replace a -1 : t", "replace a 1000001 : t", "exchange a .", "exchange a . . .",
                     "exchange a 0 0..0", "bend a . x", "bend a . x y", "bend a . x 1000001", "bend a . x -1000001", "bend a . x 1 ", "bend a x x 1", "back",
                     "back x", "back 1 2", "back 01", "look a", "look a 0,1", "look a 0 1", "alarms", "alarms a .", "open", "open:", "open :", "open kind a",
                     "open x : kind a", "open  : kind a", "nothing", "sheet\n", "mark\t", "equations\tk 1",
                     "back " + "1" * 9000, "back -" + "9" * 5000, "look a " + "1" * 5000, "count k " + "1" * 5000, "back -", "back --1", "back 1-"):
            self.assertRaises(InvalidCommand, console.execute, line)
        self.assertEqual(console.execute("mark"), "0")
        for line in ("notice k 1 1000000 -1000000", "stored k 1000000 0", "count k 40"):
            self.assertNotEqual(console.execute(line), "")

    def test_what_is_told_first(self):
        console = Console()
        console.execute("open : kind k x y | tag t | x = 1 | y = 2")
        for line, name in (("keep A none : x +", "SyntaxProblem"), ("keep  A none : x +", "InvalidCommand"), ("keep A none : x", "NoName"),
                           ("keep a none : x", "NoKind"), ("keep a k : z", "NoForm"), ("break none : +", "SyntaxProblem"), ("break none : x", "NoKind"),
                           ("break k : x*x*x*x", "NoForm"), ("put a k : T", "SyntaxProblem"), ("put a k : u", "NoTree"), ("replace b 0 : t(", "SyntaxProblem"),
                           ("replace b 0 : u", "NoName"), ("values : u", "NoTree"), ("values : t(t)", "NoTree"), ("add k t : 0;0", "SyntaxProblem"),
                           ("add k t : 0; 0", "NameTaken"), ("add K t : 0; 0", "NoKind"), ("add k u : 0", "NoSheet"), ("add k u none : 0; 0", "NoSheet"),
                           ("add k U : 0; 0", "NoSheet"), ("rules none : 0; a", "SyntaxProblem"), ("rules none : 0; 0", "NoKind"), ("rules t : nothing", "NoSheet"),
                           ("equations none 0", "NoForm"), ("equations none 4", "NoForm"), ("equations none 1", "NoKind"), ("first none 1", "NoKind"),
                           ("first none 7", "NoForm"), ("new none 0", "NoForm"), ("new none 1", "NoKind"), ("told none x", "NoKind"), ("told k z x", "NoNumber"),
                           ("told k x x x", "NoNumber"), ("told k x :", "NoNumber"), ("stored none", "NoKind"), ("distance none", "NoKind"),
                           ("notice none 1 1", "NoKind"), ("notice k 1 1", "Mismatch"), ("notice k 0 1", "NoForm"), ("forget a", "NoName"), ("cut a", "NoKind"),
                           ("drop a", "NoName"), ("exchange a . .", "NoName"), ("bend a . x 1", "NoName"), ("back 1", "NoMark"), ("back -1", "NoMark"),
                           ("look a .", "NoName"), ("alarms a", "NoName"), ("open : ", "NoSheet"), ("open : kind k | kind k", "SyntaxProblem"),
                           ("open : kind k x | tag t | x = 0.y", "NoSheet")):
            with self.assertRaises(TreeError) as caught:
                console.execute(line)
            self.assertEqual(type(caught.exception).__name__, name, line)
        self.assertEqual((console.execute("mark"), console.execute("sheet")), ("0", "kind k x y\ntag t\nx = 1\ny = 2"))

    def test_lines_and_columns(self):
        console = Console()
        for line, problem in (("open : kind k | kind  k", (2, 7)), ("open : kind k |kind j", (1, 8)), ("open : kind k x | tag t", (2, 6)),
                              ("break kind : ", (1, 1)), ("values : tag tag", (1, 5)), ("rules tag : 0; 1; x", (1, 1)), ("rules tag : 0; 1;x", (1, 2)),
                              ("keep a kind : 1 : 2", (1, 3)), ("open : kind k\ntag t t)", (2, 8)),
                              ("open : kind a | tag 5 | A", (2, 5)), ("open : kind a x | tag t | x = 1 1 | ;", (3, 7)),
                              ("open : kind a | tag 5 A | x", (2, 7)), ("open : kind a | A | tag 5", (2, 1)), ("open : kind a | tag 5\n;", (2, 5))):
            with self.assertRaises(SyntaxProblem) as caught:
                console.execute(line)
            self.assertEqual((caught.exception.line, caught.exception.column), problem, line)

    def test_an_old_ledger_is_gone(self):
        console = Console()
        console.execute("keep a kind : 1")
        self.assertRaises(TreeError, console.execute, "open : kind k | x")
        self.assertEqual(console.execute("mark"), "1")
        console.execute("open : kind k")
        self.assertEqual([console.execute(line) for line in ("mark", "kept", "sheet")], ["0", "nothing", "kind k"])
        self.assertEqual(format_rule(()), "0")
