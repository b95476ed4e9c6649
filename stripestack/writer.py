"""Writing a file in pieces, and joining files."""

from stripestack.errors import BadLayout
from stripestack.files import MOST_RECORDS, Opened, check_layout, put_file, write_groups
from stripestack.records import check_record
from stripestack.schema import check_schema


class Writer:
    """Takes records one after the other and makes the file of their groups."""

    def __init__(self, schema, layout, *, group_size):
        check_schema(schema)
        check_layout(schema, layout)
        if not 1 <= group_size <= MOST_RECORDS:
            raise BadLayout("group")
        self.schema = schema
        self.layout = layout
        self.group_size = group_size
        self.ended = []
        self.records = []
        self.closed = False

    def add(self, record):
        """Take one more record, or raise BadRecord."""
        self._refuse_if_closed()
        check_record(self.schema, record)
        self.records.append(record)
        if len(self.records) == self.group_size:
            self.flush()

    def flush(self):
        """End the group if it has records."""
        self._refuse_if_closed()
        if len(self.records) > 0:
            self.ended.append((self.records, self.layout))
            self.records = []

    def finish(self):
        """Return the bytes of the file; the writer takes nothing after it."""
        self.flush()
        self.closed = True
        return write_groups(self.schema, self.ended)

    def _refuse_if_closed(self):
        if self.closed:
            raise BadLayout("closed")


def merge(files):
    """Return the bytes of the file with all groups of some files; raise BadLayout or BadFile."""
    if len(files) == 0:
        raise BadLayout("files")
    parts = [Opened(data) for data in files]
    schema = parts[0].schema
    pages = []
    groups = []
    for part in parts:
        if part.schema != schema:
            raise BadLayout("schema")
        pages.extend(part.page_bytes())
        groups.extend([_without_places(group) for group in part.groups])
    return put_file(schema, pages, groups)


def _without_places(group):
    """Return a group of an opened file as put_file takes it: in another file its pages stand elsewhere."""
    count, layout, described = group
    return count, layout, [[(length, told) for _, length, told in pages] for pages in described]
