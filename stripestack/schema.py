"""Schemas: their form, their columns, and what is left when only some columns are asked for."""

from stripestack.errors import BadSchema, NoColumn

MOST_FIELDS = 12
MOST_LEVELS = 5
MOST_NAME = 12
NAME_SIGNS = "abcdefghijklmnopqrstuvwxyz0123456789"
TIMES = ("one", "maybe", "many")
KINDS = ("int", "bool", "text")
# How much a field adds to the greatest definition and to the greatest repetition.
ADDED = {"one": (0, 0), "maybe": (1, 0), "many": (1, 1)}


def check_schema(schema):
    """Raise BadSchema for the first mistake of a value of any kind."""
    _check_fields(schema, 1)


def _check_fields(fields, level):
    if not isinstance(fields, tuple) or not 1 <= len(fields) <= MOST_FIELDS:
        raise BadSchema("fields")
    if level > MOST_LEVELS:
        raise BadSchema("depth")
    earlier = []
    for field in fields:
        _check_field(field, earlier, level)
        earlier.append(field[0])


def _check_field(field, earlier, level):
    if not isinstance(field, tuple) or len(field) != 3:
        raise BadSchema("field")
    name, times, kind = field
    if not _is_name(name):
        raise BadSchema("name")
    if name in earlier:
        raise BadSchema("twice")
    # Only strings are looked up: a list or a dict cannot be a key.
    if not isinstance(times, str) or times not in ADDED:
        raise BadSchema("times")
    if isinstance(kind, tuple):
        _check_fields(kind, level + 1)
    elif not isinstance(kind, str) or kind not in KINDS:
        raise BadSchema("kind")


def _is_name(name):
    if not isinstance(name, str) or not 1 <= len(name) <= MOST_NAME:
        return False
    return all([sign in NAME_SIGNS for sign in name])


def columns_of(schema):
    """Return the list of the columns of a schema, in its order."""
    return _columns_below(schema, (), 0, 0)


def _columns_below(fields, before, definition, repetition):
    columns = []
    for name, times, kind in fields:
        path = before + (name,)
        more_definition, more_repetition = ADDED[times]
        deeper = definition + more_definition
        again = repetition + more_repetition
        if isinstance(kind, tuple):
            columns.extend(_columns_below(kind, path, deeper, again))
        else:
            columns.append((path, kind, deeper, again))
    return columns


def paths_of(schema):
    """Return the list of the paths of the columns of a schema."""
    return [column[0] for column in columns_of(schema)]


def column_of(schema, path):
    """Return the column of a path, or raise NoColumn."""
    for column in columns_of(schema):
        if column[0] == path:
            return column
    raise NoColumn(path)


def project_schema(schema, paths):
    """Return the schema with the columns of these paths only, or raise NoColumn."""
    known = {path: True for path in paths_of(schema)}
    for asked in paths:
        if asked not in known:
            raise NoColumn(asked)
    if len(paths) == 0:
        raise NoColumn(())
    return _kept_fields(schema, (), {path: True for path in paths})


def _kept_fields(fields, before, asked):
    kept = []
    for name, times, kind in fields:
        path = before + (name,)
        if isinstance(kind, tuple):
            below = _kept_fields(kind, path, asked)
            # A group stays only if it leads to an asked column.
            if len(below) > 0:
                kept.append((name, times, below))
        elif path in asked:
            kept.append((name, times, kind))
    return tuple(kept)
