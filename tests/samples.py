"""Schemas, records and layouts that several tests share; the records come from a source with a seed."""

import random

from stripestack.schema import columns_of

FLAT = (("id", "one", "int"), ("name", "maybe", "text"), ("marks", "many", "int"), ("on", "one", "bool"))
NESTED = (
    ("id", "one", "int"),
    ("tags", "many", (("key", "one", "text"), ("hits", "maybe", "int"), ("flags", "many", "bool"))),
    ("box", "maybe", (("a", "one", "int"), ("inner", "many", (("t", "maybe", "text"),)))),
    ("on", "maybe", "bool"),
)
DEEP = (
    ("g", "many", (
        ("h", "maybe", (
            ("i", "many", (
                ("j", "one", (("x", "one", "int"), ("y", "maybe", "text"))),
                ("z", "many", "bool"),
            )),
        )),
        ("w", "one", "text"),
    )),
    ("v", "one", "int"),
)
ONE = (("a", "one", "int"),)
SCHEMAS = (FLAT, NESTED, DEEP, ONE, (("b", "many", "bool"),), (("t", "maybe", "text"),))

ENCODINGS = {"int": (0, 1, 2), "bool": (0,), "text": (0, 1)}
INTS = (0, 1, -1, 2, 7, 100, -100, 2147483647, -2147483648, 65536)
TEXTS = ("", "a", "b", "ab", "red", "blue", "~ ~", "x" * 60, "\\\"'{}")


def value_of(kind, source):
    if isinstance(kind, tuple):
        return record_of(kind, source)
    if kind == "int":
        return source.choice(INTS) if source.random() < 0.3 else source.randrange(-4, 5)
    if kind == "bool":
        return source.random() < 0.5
    return source.choice(TEXTS)


def record_of(fields, source):
    """Return a record of some fields."""
    record = []
    for _, times, kind in fields:
        if times == "one":
            record.append(value_of(kind, source))
        elif times == "maybe":
            record.append(value_of(kind, source) if source.random() < 0.6 else None)
        else:
            record.append(tuple([value_of(kind, source) for _ in range(source.choice((0, 0, 1, 1, 2, 3)))]))
    return tuple(record)


def records_of(schema, count, seed):
    """Return a list of records of a schema, always the same for the same seed."""
    source = random.Random(seed)
    return [record_of(schema, source) for _ in range(count)]


def layouts_of(schema, size):
    """Return layouts of a size in which each column has each of its encodings at least once."""
    kinds = [column[1] for column in columns_of(schema)]
    return [(size, tuple([ENCODINGS[kind][turn % len(ENCODINGS[kind])] for kind in kinds])) for turn in range(3)]


def groups_of(schema, counts, sizes, seed):
    """Return groups with these numbers of records, with layouts of these sizes in turn."""
    groups = []
    for at, count in enumerate(counts):
        layout = layouts_of(schema, sizes[at % len(sizes)])[at % 3]
        groups.append((records_of(schema, count, seed + at), layout))
    return groups


def broken_forms(data):
    """Return lists of bytes that differ from some by one byte changed, taken away or put in."""
    forms = []
    for at in range(len(data) + 1):
        for byte in (0, 1, 2, 3, 127, 128, 255):
            forms.append(data[:at] + [byte] + data[at:])
        if at < len(data):
            forms.append(data[:at] + data[at + 1:])
            for byte in (0, 1, 2, 3, 37, 127, 128, 255, data[at] ^ 1, (data[at] + 1) % 256, (data[at] - 1) % 256):
                forms.append(data[:at] + [byte] + data[at + 1:])
    return [form for form in forms if form != data]
