"""What arguments must be: each function raises the error that the document tells, or does nothing."""

from treelaws.errors import NoForm, NoKind, NoNumber, NoSheet, NoTree, TooMany
from treelaws.forms import is_form_over
from treelaws.integers import is_integer
from treelaws.names import are_names, is_name
from treelaws.products import how_many_products
from treelaws.sheets import is_sheet
from treelaws.trees import is_tree, size_of

_MOST_DEGREE = 3
_MOST_PRODUCTS = 4000
_MOST_TAGS = 200


def need_equations(sheet, degree):
    """Raises what all that works with equations raises for any sheet and degree, up to TooMany(4000)."""
    need_sheet(sheet)
    need_degree(degree)
    need_few_products(sheet, degree)


def need_sheet(thing):
    """Raises NoSheet unless any object is a sheet."""
    if not is_sheet(thing):
        raise NoSheet("what is passed is no sheet")


def need_degree(thing):
    """Raises NoForm unless any object is a degree of equations."""
    if not is_integer(thing) or not 1 <= thing <= _MOST_DEGREE:
        raise NoForm("a degree is an integer from 1 to 3")


def need_few_products(sheet, degree):
    """Raises TooMany(4000) if some tag has too many products of its children's numbers."""
    need_few(sheet[0], {kind: how_many_products(len(names), degree) for kind, names in sheet[1].items()})


def need_few(schema, many):
    """Raises TooMany(4000) if for some tag the product of how many its children's kinds have is above this."""
    for variants in schema.values():
        for _, children in variants:
            count = 1
            for child in children:
                count = count * many[child]
            if count > _MOST_PRODUCTS:
                raise TooMany(_MOST_PRODUCTS)


def need_kind(sheet, kind):
    """Raises NoKind unless any object is a kind of a sheet."""
    if not is_name(kind) or kind not in sheet[0]:
        raise NoKind("what is passed is no kind of the sheet")


def need_claim(sheet, kind, form):
    """Raises NoForm unless any object is a form of a kind's numbers, of a degree of at most 3."""
    if not is_form_over(form, sheet[1][kind], _MOST_DEGREE):
        raise NoForm("what is passed is no form of the kind's numbers of at most degree 3")


def need_tree_of(sheet, kind, tree):
    """Raises NoTree unless any object is a tree of a kind, then TooMany(200) if it is a larger one."""
    if not is_tree(sheet[0], kind, tree):
        raise NoTree("what is passed is no tree of the kind")
    need_small(tree)


def need_small(tree):
    """Raises TooMany(200) if a tree has more than 200 tags."""
    if size_of(tree) > _MOST_TAGS:
        raise TooMany(_MOST_TAGS)


def need_number(sheet, kind, name):
    """Raises NoNumber unless any object is a number of a kind."""
    if not is_name(name) or name not in sheet[1][kind]:
        raise NoNumber("what is passed is no number of the kind")


def need_numbers(sheet, kind, names):
    """Raises NoNumber unless any object is a tuple of different numbers of a kind."""
    if not are_names(names) or not all([name in sheet[1][kind] for name in names]):
        raise NoNumber("what is passed is no tuple of different numbers of the kind")
