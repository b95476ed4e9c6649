"""Reading: the asked fields of the records for which a condition holds, from as few pages as may be."""

from stripestack.conditions import check_condition, condition_paths, holds, verdict
from stripestack.files import Opened
from stripestack.schema import columns_of, paths_of, project_schema
from stripestack.shred import assemble


def read(data, paths, *, condition=None):
    """Return the list of the projected records of a file for which the condition holds."""
    reading = Reading(data, paths, condition)
    records = []
    for group, page in reading.page_numbers():
        records.extend(reading.chosen_records(group, page))
    return records


def touched_pages(data, paths, *, condition=None):
    """Return the ascending list of the triples (group, column, page) of the pages that read looks into."""
    reading = Reading(data, paths, condition)
    touched = []
    for group, page in reading.page_numbers():
        held, columns = reading.judge(group, page)
        looked = list(columns)
        if any(held):
            looked.extend([path for path in reading.asked if path not in columns])
        touched.extend([(group, reading.numbers[path], page) for path in looked])
    return sorted(touched)


class Reading:
    """A file opened for some of its columns and a condition, or None."""

    def __init__(self, data, paths, condition):
        self.opened = Opened(data)
        self.wanted = project_schema(self.opened.schema, paths)
        if condition is not None:
            check_condition(self.opened.schema, condition)
        self.asked = paths_of(self.wanted)
        self.condition = condition
        columns = columns_of(self.opened.schema)
        self.kinds = {column[0]: column[1] for column in columns}
        self.numbers = {column[0]: number for number, column in enumerate(columns)}

    def page_numbers(self):
        """Return the list of the pairs of the number of a group and of pages in it, in order."""
        numbers = []
        for group, (_, _, described) in enumerate(self.opened.groups):
            numbers.extend([(group, page) for page in range(len(described[0]))])
        return numbers

    def entries(self, group, path, page):
        """Return the entries of the page of a path."""
        return self.opened.entries(group, self.numbers[path], page)

    def chosen_records(self, group, page):
        """Return the projected records of the pages with a number for which the condition holds."""
        held, columns = self.judge(group, page)
        if not any(held):
            return []
        for path in self.asked:
            if path not in columns:
                columns[path] = self.entries(group, path, page)
        return [record for record, chosen in zip(assemble(self.wanted, columns), held) if chosen]

    def judge(self, group, page):
        """Return the list that tells for each record of the pages with a number if it is chosen.

        Beside it stands the dict from paths to entries of the pages that had to be looked into for this.
        """
        many = self.opened.records_in(group, page)
        if self.condition is None:
            return [True] * many, {}
        described = self.opened.groups[group][2]
        paths = condition_paths(self.condition)
        told = {path: described[self.numbers[path]][page][2] for path in paths}
        word = verdict(self.condition, self.kinds, told)
        if word != "perhaps":
            return [word == "always"] * many, {}
        columns = {path: self.entries(group, path, page) for path in paths}
        values = {path: _values_by_record(columns[path]) for path in paths}
        held = [holds(self.condition, {path: values[path][at] for path in paths}) for at in range(many)]
        return held, columns


def _values_by_record(entries):
    """Return for each record the list of the values that a column has in it."""
    values = []
    for repetition, _, value in entries:
        if repetition == 0:
            values.append([])
        if value is not None:
            values[-1].append(value)
    return values
