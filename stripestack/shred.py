"""Taking records apart into the entries of their columns, and putting them together again."""

from stripestack.errors import BadColumns
from stripestack.schema import paths_of


def shred(schema, records):
    """Return the dict from the paths of the columns, in order, to the lists of their entries."""
    columns = {path: [] for path in paths_of(schema)}
    fields = _fields_over(schema, (), columns)
    for record in records:
        _put_group(fields, record, 0, 0, 0)
    return columns


def _fields_over(fields, before, held):
    """Return for each field its times, the fields in it, and what is held for each column under it.

    The fields in a field that is no group are None.
    """
    over = []
    for name, times, kind in fields:
        path = before + (name,)
        if isinstance(kind, tuple):
            inner = _fields_over(kind, path, held)
            over.append((times, inner, [one for part in inner for one in part[2]]))
        else:
            over.append((times, None, [held[path]]))
    return over


def _put_group(fields, group, repetition, definition, depth):
    """Append the entries of a group to the columns under its fields."""
    for field, value in zip(fields, group):
        _put_field(field, value, repetition, definition, depth)


def _put_field(field, value, repetition, definition, depth):
    """Append the entries of a field, whatever its times, to the columns under it."""
    times = field[0]
    if times == "one":
        _put_value(field, value, repetition, definition, depth)
    elif value is None or times == "many" and len(value) == 0:
        for column in field[2]:
            column.append((repetition, definition, None))
    elif times == "maybe":
        _put_value(field, value, repetition, definition + 1, depth)
    else:
        for part in value:
            _put_value(field, part, repetition, definition + 1, depth + 1)
            # Only the first value stands for the repetition of the field itself.
            repetition = depth + 1


def _put_value(field, value, repetition, definition, depth):
    """Append the entries of a single value of a field to the columns under it."""
    _, inner, columns = field
    if inner is None:
        columns[0].append((repetition, definition, value))
    else:
        _put_group(inner, value, repetition, definition, depth)


class Strip:
    """The entries of one column, taken one after the other."""

    def __init__(self, row):
        self.row = row
        self.at = 0

    def at_end(self):
        """Return True if all entries are taken."""
        return self.at == len(self.row)

    def next_repetition(self):
        """Return the repetition of the next entry, or 0 at the end: the next record begins there, too."""
        if self.at_end():
            return 0
        return self.row[self.at][0]

    def next_definition(self):
        """Return the definition of the next entry."""
        if self.at_end():
            raise BadColumns("too few entries")
        return self.row[self.at][1]

    def take(self, repetition, definition, filled):
        """Take the next entry and return its value; raise BadColumns if another entry belongs here."""
        if self.at_end():
            raise BadColumns("too few entries")
        found_repetition, found_definition, value = self.row[self.at]
        if found_repetition != repetition or found_definition != definition:
            raise BadColumns("another entry belongs here")
        if (value is not None) != filled:
            raise BadColumns("a value, or none, belongs here")
        self.at += 1
        return value


def assemble(schema, columns):
    """Return the list of the records with these columns, or raise BadColumns."""
    strips = {}
    for path in paths_of(schema):
        if path not in columns:
            raise BadColumns("a path is missing")
        strips[path] = Strip(columns[path])
    fields = _fields_over(schema, (), strips)
    first = fields[0][2][0]
    records = []
    while not first.at_end():
        records.append(_take_group(fields, 0, 0, 0))
    for path in strips:
        if not strips[path].at_end():
            raise BadColumns("too many entries")
    return records


def _take_group(fields, repetition, definition, depth):
    """Take the entries of a group from the columns under its fields and return it."""
    return tuple([_take_field(field, repetition, definition, depth) for field in fields])


def _take_field(field, repetition, definition, depth):
    """Take the entries of a field, whatever its times, and return what stands for it in the record."""
    times, _, strips = field
    if times == "one":
        return _take_value(field, repetition, definition, depth)
    # The first column tells how the record goes on; the others have to agree when they are taken.
    first = strips[0]
    if first.next_definition() <= definition:
        for strip in strips:
            strip.take(repetition, definition, False)
        return None if times == "maybe" else ()
    if times == "maybe":
        return _take_value(field, repetition, definition + 1, depth)
    values = [_take_value(field, repetition, definition + 1, depth + 1)]
    while first.next_repetition() == depth + 1:
        values.append(_take_value(field, depth + 1, definition + 1, depth + 1))
    return tuple(values)


def _take_value(field, repetition, definition, depth):
    """Take the entries of a single value of a field and return it."""
    _, inner, strips = field
    if inner is None:
        return strips[0].take(repetition, definition, True)
    return _take_group(inner, repetition, definition, depth)
