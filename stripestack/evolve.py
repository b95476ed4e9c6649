"""Records of an elder schema, read with a newer one."""

from stripestack.errors import NoFit
from stripestack.files import Opened
from stripestack.schema import TIMES, check_schema


def check_fit(elder, newer, path):
    """Raise NoFit for the first field by which records of the elder fields cannot be read with the newer ones."""
    known = {field[0]: field for field in elder}
    for name, times, kind in newer:
        if name in known:
            _check_field(known[name], (name, times, kind), path + (name,))
        elif times == "one":
            raise NoFit(path + (name,))


def _check_field(elder, newer, path):
    _, elder_times, elder_kind = elder
    _, times, kind = newer
    if TIMES.index(elder_times) > TIMES.index(times):
        raise NoFit(path)
    if isinstance(elder_kind, tuple) and isinstance(kind, tuple):
        check_fit(elder_kind, kind, path)
    elif elder_kind != kind:
        raise NoFit(path)


def fits(elder, newer):
    """Return True if records of the elder schema can be read with the newer one."""
    try:
        check_fit(elder, newer, ())
    except NoFit:
        return False
    return True


def change_record(elder, newer, record):
    """Return a record of the elder schema as one of the newer schema, which fits."""
    known = {field[0]: (field, value) for field, value in zip(elder, record)}
    changed = []
    for name, times, kind in newer:
        if name in known:
            field, value = known[name]
            values = [_change_value(field[2], kind, part) for part in _values_in(field[1], value)]
        else:
            values = []
        changed.append(_with_times(times, values))
    return tuple(changed)


def _values_in(times, value):
    """Return the list of the values that an element of a field stands for."""
    if times == "many":
        return list(value)
    if value is None:
        return []
    return [value]


def _with_times(times, values):
    """Return the element of a field that stands for a list of values."""
    if times == "many":
        return tuple(values)
    return values[0] if len(values) > 0 else None


def _change_value(elder_kind, kind, value):
    if isinstance(kind, tuple):
        return change_record(elder_kind, kind, value)
    return value


def read_as(data, schema):
    """Return the records of a file for a newer schema; raise BadSchema, BadFile or NoFit."""
    check_schema(schema)
    opened = Opened(data)
    check_fit(opened.schema, schema, ())
    records = []
    for group in range(len(opened.groups)):
        records.extend([change_record(opened.schema, schema, record) for record in opened.group_records(group)])
    return records
