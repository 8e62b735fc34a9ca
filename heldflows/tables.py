"""Tables, which tell where the buckets are (points 500 to 502)."""


class Table:
    """The newest row of each bucket that came."""

    def __init__(self):
        self._rows = {}

    def take(self, rows):
        """Takes the rows of a tuple, in order."""
        for row in rows:
            bucket, version, _ = row
            if bucket not in self._rows or version > self._rows[bucket][1]:
                self._rows[bucket] = row

    def birth(self, bucket):
        """Returns the birth in the row of a bucket, or None."""
        if bucket not in self._rows:
            return None
        return self._rows[bucket][2]

    def rows(self):
        """Returns the tuple of all rows, in ascending order of the buckets."""
        return tuple([self._rows[bucket] for bucket in sorted(self._rows)])

    def forget(self):
        """Empties the table."""
        self._rows = {}
