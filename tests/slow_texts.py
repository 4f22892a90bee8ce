"""A reader that tries, token by token, whether any text goes on; and texts to be read, right ones and spoilt ones."""

import re

TOKEN = re.compile(r"([a-z][a-z0-9]*)|([0-9]+)|([(),+\-*.=:])")


class Problem(Exception):
    pass


def tokens_of(text, line=1):
    """The list of pairs (token, column), or a Problem at the first that is none."""
    found, at = [], 0
    while at < len(text):
        if text[at] not in " \t":
            match = TOKEN.match(text, at)
            word = match.group() if match else ""
            if not match or match.group(1) and len(word) > 8 or match.group(2) and (len(word) > 40 or len(word) > 1 and word[0] == "0"):
                raise Problem(line, at + 1)
            found.append((word, at + 1))
            at = match.end()
        else:
            at += 1
    return found


def is_name(word):
    return "a" <= word[:1] <= "z"


def is_number(word):
    return "0" <= word[:1] <= "9"


def tree_told(words):
    """Whether tokens are a tree: leaves, then tags with leaves, are replaced by T until one T is left."""
    text = "".join("n" if is_name(word) else "0" if is_number(word) else word for word in words)
    if text.count("n") > 200:
        return False
    text, last = re.sub(r"n(?!\()", "T", text), None
    while text != last:
        text, last = re.sub(r"n\(T(,T){0,2}\)", "T", text), text
    return text == "T"


def tree_ended(words):
    """A tree that begins with some tokens, if there is one."""
    return words + ["x"] * (not words or words[-1] in "(,") + [")"] * (words.count("(") - words.count(")"))


def terms_of(words):
    """The terms of a sum, each the list of its factors, each a list of tokens."""
    terms = [[[]]]
    for place, word in enumerate(words):
        if word in "+-" and (place or word == "+"):
            terms.append([[]])
        elif word == "*":
            terms[-1].append([])
        elif place or word != "-":
            terms[-1][-1].append(word)
    return terms


def form_told(words):
    terms = terms_of(words)
    return (all(len(factor) == 1 and (is_name(factor[0]) or is_number(factor[0])) for term in terms for factor in term)
            and all(sum(is_name(word) for factor in term for word in factor) <= 12 for term in terms))


def rule_told(words):
    terms = terms_of(words)
    uses = [[factor for factor in term if len(factor) == 3] for term in terms]
    return (all(len(factor) == 1 and is_number(factor[0]) or len(factor) == 3 and factor[0] in ("0", "1", "2") and factor[1] == "."
                and is_name(factor[2]) for term in terms for factor in term)
            and all(len({use[0] for use in some}) == len(some) for some in uses))


def sum_ended(words):
    if not words or words[-1] in "+-*":
        return words + ["7"]
    return words + ["x"] if words[-1] == "." else words


def problem_of(text, told, ended, line=1):
    """None, or (line, column): the first token with which no text goes on."""
    try:
        tokens = tokens_of(text, line)
    except Problem as problem:
        return problem.args
    return problem_at(tokens, told, ended, line, len(text) + 1)


def problem_at(tokens, told, ended, line, end):
    words = [word for word, _ in tokens]
    for many, (_, column) in enumerate(tokens):
        if not told(ended(words[:many + 1])):
            return line, column
    return None if told(words) else (line, end)


def sheet_problem(text):
    """The same for the text of a sheet, line by line."""
    lines = text.split("\n")
    kinds, tags, numbers, due = [], [], [], []
    for place, line in enumerate(lines, 1):
        try:
            tokens = tokens_of(line, place)
        except Problem as problem:
            return problem.args
        words = [word for word, _ in tokens]
        if not words:
            continue
        if not due and words[1:2] == ["="]:
            return place, tokens[0][1]
        told, ended = line_kinds(kinds, tags, due)
        problem = problem_at(tokens, told, ended, place, len(line) + 1)
        if problem:
            return problem
        if due:
            due = due[1:]
        elif words[0] == "kind":
            kinds, numbers = kinds + [words[1]], words[2:]
        else:
            tags, due = tags + [words[1]], list(numbers)
    return (len(lines), len(lines[-1]) + 1) if due else None


def line_kinds(kinds, tags, due):
    """The tests for a line where some rules are due: whether it is told, and how it may be ended."""
    if due:
        def told(words):
            return words[:2] == [due[0], "="] and rule_told(words[2:])

        def ended(words):
            return sum_ended(words) if len(words) > 2 else words + ["=", "7"][len(words) - 1:]
    else:
        def told(words):
            names = len(words) > 1 and all(is_name(word) for word in words[1:])
            return names and (words[0] == "kind" and words[1] not in kinds or words[0] == "tag" and kinds != [] and words[1] not in tags)

        def ended(words):
            return words + ["fresh9"] if len(words) == 1 else words
    return told, ended


def spoilt(source, text, signs):
    """A text with one to three places changed."""
    for _ in range(source.randint(1, 3)):
        at = source.randint(0, len(text))
        way = source.choice(("in", "out", "out", "change", "swap", "twice"))
        if way == "in":
            text = text[:at] + source.choice(signs) + text[at:]
        elif way == "out":
            text = text[:at] + text[at + 1:]
        elif way == "change":
            text = text[:at] + source.choice(signs) + text[at + 1:]
        elif way == "swap":
            text = text[:at] + text[at + 1:at + 2] + text[at:at + 1] + text[at + 2:]
        else:
            text = text[:at] + text[at:at + 2] + text[at:]
    return text


def spoilt_lines(source, text):
    """A text with one or two lines left out, twice, or exchanged."""
    lines = text.split("\n")
    for _ in range(source.randint(1, 2)):
        one, other = source.randrange(len(lines)), source.randrange(len(lines))
        way = source.choice(("out", "twice", "swap"))
        if way == "out" and len(lines) > 1:
            del lines[one]
        elif way == "twice":
            lines.insert(other, lines[one])
        else:
            lines[one], lines[other] = lines[other], lines[one]
    return "\n".join(lines)


def blanks_put(source, text):
    """The same text with more blanks and tabs between its tokens, and empty lines."""
    rows = []
    for line in text.split("\n"):
        found = ""
        for word in re.findall(r"[a-z0-9]+|.", line):
            found += word if word == " " else source.choice(("", "", " ", "\t")) * (not found[-1:].isalnum() or not word.isalnum()) + word
        rows += [source.choice(("", " ", "\t "))] * source.choice((0, 0, 1)) + [found + source.choice(("", " "))]
    return "\n".join(rows)
