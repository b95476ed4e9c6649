"""Files: groups of records as pages with a footer, read as a whole or page by page."""

from stripestack.errors import BadFile, BadLayout, BadSchema, Refused
from stripestack.fields import put_fields, take_fields
from stripestack.numbers import put_number, put_word, take_byte, take_number, take_word
from stripestack.pages import put_page, put_told, take_page, take_told, told_of
from stripestack.records import check_record
from stripestack.schema import check_schema, columns_of
from stripestack.shred import assemble, shred
from stripestack.values import allowed

SEAL = (83, 84, 75, 49)
WORD_BYTES = 4
MOST_SIZE = 1000
MOST_RECORDS = 5000


def check_layout(schema, layout):
    """Raise BadLayout for the first mistake of a layout."""
    size, encodings = layout
    columns = columns_of(schema)
    if not 1 <= size <= MOST_SIZE:
        raise BadLayout("size")
    if len(encodings) != len(columns):
        raise BadLayout("encodings")
    for column, encoding in zip(columns, encodings):
        if encoding not in allowed(column[1]):
            raise BadLayout("encoding")


def plain_layout(schema, size):
    """Return the layout with plain encodings."""
    return size, (0,) * len(columns_of(schema))


def write_groups(schema, groups):
    """Return the bytes of the file of these groups; raise BadSchema, BadLayout or BadRecord."""
    check_schema(schema)
    for records, layout in groups:
        _check_group(schema, records, layout)
    pages = []
    described = []
    for records, layout in groups:
        written, group = _put_group(schema, records, layout)
        pages.extend(written)
        described.append(group)
    return put_file(schema, pages, described)


def _check_group(schema, records, layout):
    check_layout(schema, layout)
    if len(records) > MOST_RECORDS:
        raise BadLayout("records")
    for record in records:
        check_record(schema, record)


def _put_group(schema, records, layout):
    """Return the bytes of the pages of a group, and the triple that put_file takes for it."""
    size, encodings = layout
    columns = shred(schema, records)
    written = []
    described = []
    for column, encoding in zip(columns_of(schema), encodings):
        pages = []
        for entries in _cut_pages(columns[column[0]], size):
            page = put_page(column, entries, encoding)
            pages.append((len(page), told_of(column, entries)))
            written.extend(page)
        described.append(pages)
    return written, (len(records), layout, described)


def _cut_pages(entries, size):
    """Return the entries of a column in lists, each with the entries of so many records."""
    pages = []
    begun = 0
    for entry in entries:
        if entry[0] == 0:
            if begun % size == 0:
                pages.append([])
            begun += 1
        pages[-1].append(entry)
    return pages


def put_file(schema, pages, groups):
    """Return the bytes of the file with the bytes of all its pages.

    Each group is a triple of the number of records, the layout, and for each column the list of
    the pairs (length, told) of its pages.
    """
    footer = _put_footer(schema, groups)
    return list(SEAL) + pages + footer + put_word(len(footer)) + list(SEAL)


def _put_footer(schema, groups):
    columns = columns_of(schema)
    written = put_fields(schema) + put_number(len(groups))
    for count, layout, described in groups:
        size, encodings = layout
        written.extend(put_number(count) + put_number(size) + list(encodings))
        for column, pages in zip(columns, described):
            for length, told in pages:
                written.extend(put_number(length) + put_told(column, told))
    return written


def read_groups(data):
    """Return the schema and the list of the groups of a file; raise BadFile for all other bytes."""
    opened = Opened(data)
    groups = []
    try:
        for number, group in enumerate(opened.groups):
            groups.append((opened.group_records(number), group[1]))
        written = write_groups(opened.schema, groups)
    except Refused:
        raise BadFile("pages") from None
    # Other bytes may tell of the same groups: one form only is a file.
    if written != data:
        raise BadFile("form")
    return opened.schema, groups


class Opened:
    """A file whose footer is read, and whose pages are read one by one.

    groups has for each group the number of records, the layout, and for each column the triples
    (place, length, told) of its pages.
    """

    def __init__(self, data):
        start, footer = _footer_of(data)
        self.before_footer = data[:start]
        try:
            self.schema, self.groups = _take_footer(footer, start)
        except (BadSchema, BadLayout):
            raise BadFile("footer") from None
        self.columns = columns_of(self.schema)

    def page_bytes(self):
        """Return the bytes of all pages."""
        return self.before_footer[len(SEAL):]

    def records_in(self, group, page):
        """Return the number of the records of the pages with this number."""
        count, layout, _ = self.groups[group]
        return min(layout[0], count - page * layout[0])

    def entries(self, group, column, page):
        """Return the entries of a page; raise BadFile if there is none or if its bytes are spoilt."""
        _, layout, described = _picked(self.groups, group)
        place, length, told = _picked(_picked(described, column), page)
        data = self.before_footer[place:place + length]
        found = take_page(self.columns[column], data, layout[1][column])
        if not _begin_records(found, self.records_in(group, page)):
            raise BadFile("records of a page")
        if told_of(self.columns[column], found) != told:
            raise BadFile("told of a page")
        if put_page(self.columns[column], found, layout[1][column]) != data:
            raise BadFile("form of a page")
        return found

    def group_records(self, group):
        """Return the records of a group; raise BadFile or BadColumns if its pages are spoilt."""
        _, _, described = _picked(self.groups, group)
        columns = {}
        for number, column in enumerate(self.columns):
            row = []
            for page in range(len(described[number])):
                row.extend(self.entries(group, number, page))
            columns[column[0]] = row
        return assemble(self.schema, columns)


def _picked(rows, number):
    """Return a row by its number from 0, or raise BadFile."""
    if not 0 <= number < len(rows):
        raise BadFile("no such number")
    return rows[number]


def _begin_records(entries, many):
    """Return True if entries begin with a record, and so many records begin in them."""
    repetitions = [entry[0] for entry in entries]
    return repetitions[:1] == [0] and repetitions.count(0) == many


def _footer_of(data):
    """Return the place of the footer and its bytes, or raise BadFile."""
    end = len(data) - WORD_BYTES - len(SEAL)
    if end < len(SEAL) or data[:len(SEAL)] != list(SEAL) or data[end + WORD_BYTES:] != list(SEAL):
        raise BadFile("first and last bytes")
    length, _ = take_word(data, end)
    if length > end - len(SEAL):
        raise BadFile("length of the footer")
    return end - length, data[end - length:end]


def _take_footer(footer, pages_end):
    """Return the schema and the groups of a footer; raise BadFile, BadSchema or BadLayout."""
    schema, at = take_fields(footer, 0, 1)
    check_schema(schema)
    many, at = take_number(footer, at)
    place = len(SEAL)
    groups = []
    for _ in range(many):
        group, at, place = _take_group(schema, footer, at, place)
        groups.append(group)
    if at != len(footer):
        raise BadFile("bytes behind the groups")
    if place != pages_end:
        raise BadFile("length of the pages")
    return schema, groups


def _take_group(schema, footer, at, place):
    """Return the triple of a group, the index after it, and the place after its pages."""
    columns = columns_of(schema)
    count, at = take_number(footer, at)
    size, at = take_number(footer, at)
    encodings = []
    for _ in columns:
        encoding, at = take_byte(footer, at)
        encodings.append(encoding)
    layout = (size, tuple(encodings))
    check_layout(schema, layout)
    if count > MOST_RECORDS:
        raise BadFile("too many records")
    described = []
    for column in columns:
        pages = []
        for _ in range(0, count, size):
            length, at = take_number(footer, at)
            told, at = take_told(column, footer, at)
            pages.append((place, length, told))
            place += length
        described.append(pages)
    return (count, layout, described), at, place
