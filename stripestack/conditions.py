"""Conditions: their form, whether they hold for a record, and what is told of pages says of them."""

from stripestack.errors import BadCondition
from stripestack.pages import ALL_VALUES, NO_VALUES, has_mark, mark_of
from stripestack.records import is_value
from stripestack.schema import columns_of

MOST_LEVELS = 8
# How many elements a tree with each of these words has.
LENGTHS = {"has": 2, "lt": 3, "le": 3, "eq": 3, "ge": 3, "gt": 3, "and": 3, "or": 3, "not": 2}
OVER_TREES = ("and", "or", "not")
EXCHANGED = {"never": "always", "always": "never", "perhaps": "perhaps"}


def check_condition(schema, condition):
    """Raise BadCondition for the first mistake of a value of any kind."""
    _check_tree({column[0]: column[1] for column in columns_of(schema)}, condition, 1)


def _check_tree(kinds, tree, level):
    if level > MOST_LEVELS or not _is_tree(tree):
        raise BadCondition("form")
    if tree[0] in OVER_TREES:
        for part in tree[1:]:
            _check_tree(kinds, part, level + 1)
        return
    # In a list even what cannot be a key is looked for.
    if tree[1] not in list(kinds):
        raise BadCondition("path")
    if tree[0] != "has" and not is_value(kinds[tree[1]], tree[2]):
        raise BadCondition("value")


def _is_tree(tree):
    """Return True if a value of any kind begins like a tree and is as long as one."""
    if not isinstance(tree, tuple) or len(tree) == 0 or not isinstance(tree[0], str):
        return False
    return len(tree) == LENGTHS.get(tree[0], 0)


def condition_paths(condition):
    """Return the list of the paths of a condition, each once, in order."""
    return list({path: True for path in _all_paths(condition)})


def _all_paths(condition):
    if condition[0] in OVER_TREES:
        return [path for part in condition[1:] for path in _all_paths(part)]
    return [condition[1]]


def holds(condition, values):
    """Return True if a condition holds for the record with these values."""
    word = condition[0]
    if word == "not":
        return not holds(condition[1], values)
    if word == "and":
        return holds(condition[1], values) and holds(condition[2], values)
    if word == "or":
        return holds(condition[1], values) or holds(condition[2], values)
    found = values[condition[1]]
    if word == "has":
        return len(found) > 0
    return any([_compares(word, value, condition[2]) for value in found])


def _compares(word, left, right):
    if word == "lt":
        return left < right
    if word == "le":
        return left <= right
    if word == "eq":
        return left == right
    if word == "ge":
        return left >= right
    return left > right


def verdict(condition, kinds, told):
    """Return never, always or perhaps: for which records of some pages the condition holds."""
    word = condition[0]
    if word in OVER_TREES:
        return _joined(word, [verdict(part, kinds, told) for part in condition[1:]])
    path = condition[1]
    state = told[path][0]
    if state == NO_VALUES or word != "has" and _is_never(condition, kinds[path], told[path]):
        return "never"
    if state == ALL_VALUES and (word == "has" or _is_sure(condition, told[path])):
        return "always"
    return "perhaps"


def _joined(word, parts):
    """Return the verdict of a tree over trees with these verdicts."""
    if word == "not":
        return EXCHANGED[parts[0]]
    deciding = "never" if word == "and" else "always"
    if deciding in parts:
        return deciding
    return "perhaps" if "perhaps" in parts else EXCHANGED[deciding]


def _is_never(comparison, kind, told):
    """Return True if a comparison holds for no value of a page."""
    word, _, value = comparison
    _, least, greatest, sieve = told
    if word == "eq":
        return value < least or value > greatest or not has_mark(sieve, mark_of(kind, value))
    return not _compares(word, _easiest(word, least, greatest), value)


def _is_sure(comparison, told):
    """Return True if a comparison that is not never holds for every value of a page."""
    word, _, value = comparison
    _, least, greatest, _ = told
    if word == "eq":
        return least == greatest
    return _compares(word, _easiest(word, greatest, least), value)


def _easiest(word, least, greatest):
    """Return that one of two values, given in their order, for which lt, le, ge or gt holds first."""
    return least if word in ("lt", "le") else greatest
