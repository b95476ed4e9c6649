"""Records: their form, and what is left of them for a projected schema."""

from stripestack.errors import BadRecord

LEAST_INT = -2147483648
GREATEST_INT = 2147483647
MOST_TEXT = 60
# The one sign between the space and the tilde that no text may have.
BARRED_CODE = 37


def is_value(kind, value):
    """Return True if a value of any kind is a value of the kind int, bool or text."""
    if kind == "int":
        return _is_int(value)
    if kind == "bool":
        return isinstance(value, bool)
    return kind == "text" and _is_text(value)


def _is_int(value):
    # Python counts True and False among the integers, the document does not.
    if not isinstance(value, int) or isinstance(value, bool):
        return False
    return LEAST_INT <= value <= GREATEST_INT


def _is_text(value):
    if not isinstance(value, str) or len(value) > MOST_TEXT:
        return False
    return all([" " <= sign <= "~" and ord(sign) != BARRED_CODE for sign in value])


def check_record(schema, record):
    """Raise BadRecord for the first mistake, from the left, of a value of any kind."""
    if not isinstance(record, tuple) or len(record) != len(schema):
        raise BadRecord("fields")
    for field, value in zip(schema, record):
        _check_times(field[1], field[2], value)


def _check_times(times, kind, value):
    if times == "many":
        if not isinstance(value, tuple):
            raise BadRecord("many")
        for part in value:
            _check_kind(kind, part)
    elif times == "one" or value is not None:
        _check_kind(kind, value)


def _check_kind(kind, value):
    if isinstance(kind, tuple):
        check_record(kind, value)
    elif not is_value(kind, value):
        raise BadRecord("value")


def project_record(schema, wanted, record):
    """Return a record of the schema without the fields that wanted does not have."""
    wanted_kinds = {asked[0]: asked[2] for asked in wanted}
    kept = []
    for field, value in zip(schema, record):
        name, times, kind = field
        if name in wanted_kinds:
            kept.append(_project_value(times, kind, wanted_kinds[name], value))
    return tuple(kept)


def _project_value(times, kind, wanted_kind, value):
    if not isinstance(kind, tuple) or value is None:
        return value
    if times == "many":
        return tuple([project_record(kind, wanted_kind, part) for part in value])
    return project_record(kind, wanted_kind, value)
