"""Indexes over the rows of a relation."""


class Index:
    """Finds the rows of a relation by their values in some columns."""

    def __init__(self, relation, columns):
        self.columns = tuple(columns)
        self.rows_by_values = {}
        for row, region in relation:
            self.put(row, region)

    def rows_for(self, values):
        """The pairs of a row and its region with these values in the columns, in ascending order."""
        rows = self.rows_by_values.get(tuple(values), {})
        return [(row, [(j, k, list(spans)) for j, k, spans in rows[row]]) for row in sorted(rows)]

    def put(self, row, region):
        """Gives the row this region; takes it out of the index if the region is empty."""
        values = tuple([row[column] for column in self.columns])
        rows = self.rows_by_values.setdefault(values, {})
        if region:
            # Tuples cannot be changed from outside, as the lists of the region can.
            rows[row] = tuple([(j, k, tuple(spans)) for j, k, spans in region])
        elif row in rows:
            del rows[row]
