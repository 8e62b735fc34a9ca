"""What a birth of an agent knows of buckets (points 604 to 606, 608 and 613)."""

from heldflows.forms import bucket_of


class Ledger:
    """The versions, directories and pointers of buckets, and the grants and owned versions to tell, by the bucket.

    The birth is the creator of the buckets that have a directory, and of no others.
    """

    def __init__(self, me):
        self._me = me
        self._versions = {}
        self._directories = {}
        self._pointers = {}
        self._grants = {}
        self._owned = {}

    def version(self, bucket):
        """Returns the known version of a bucket."""
        return self._versions.get(bucket, 0)

    def is_creator(self, bucket):
        """Tells whether the birth is the creator of a bucket."""
        return bucket in self._directories

    def creates(self):
        """Returns the list of the pairs of a bucket that it creates and its version, in ascending order."""
        return [(bucket, self.version(bucket)) for bucket in sorted(self._directories)]

    def directory(self, bucket):
        """Returns the tuple of the rows of a bucket, in ascending order, or None if it is not its creator."""
        if not self.is_creator(bucket):
            return None
        rows = self._directories[bucket]
        return tuple([(flow,) + rows[flow] for flow in sorted(rows)])

    def row(self, bucket, flow):
        """Returns the triple of the life, the epoch and the place of a flow in a directory, or None."""
        if not self.is_creator(bucket):
            return None
        return self._directories[bucket].get(flow)

    def pointer(self, bucket):
        """Returns the birth to which a bucket was given, or None."""
        return self._pointers.get(bucket)

    def put(self, bucket, flow, row):
        """Puts the triple of a flow into the directory of a bucket that it creates."""
        self._directories[bucket][flow] = row

    def give(self, bucket, version, receiver, rows):
        """Gives a bucket that it creates to another birth; returns the grant, which has to be told."""
        grant = ("grant", self._me, receiver, bucket, version, rows)
        self._renew(bucket, version)
        self._pointers[bucket] = receiver
        self._grants[bucket] = grant
        return grant

    def take(self, bucket, version, rows):
        """Becomes the creator of a bucket, with these rows, if the version is newer."""
        if self.version(bucket) >= version:
            return
        self._renew(bucket, version)
        self._directories[bucket] = {flow: (life, epoch, place) for flow, life, epoch, place in rows}
        self._owned[bucket] = version

    def stop(self, bucket, version):
        """Forgets a bucket if the version is newer; returns False if it is older than the known one."""
        if self.version(bucket) < version:
            self._renew(bucket, version)
        return self.version(bucket) == version

    def grants(self):
        """Returns the list of the grants to tell, in ascending order of the bucket."""
        return [self._grants[bucket] for bucket in sorted(self._grants)]

    def owns(self):
        """Returns the list of the pairs of a bucket and a version to tell, in ascending order."""
        return [(bucket, self._owned[bucket]) for bucket in sorted(self._owned)]

    def granted(self, bucket, version):
        """Takes it that a grant does not have to be told any more."""
        if bucket in self._grants and self._grants[bucket][4] == version:
            del self._grants[bucket]

    def known(self, bucket, version):
        """Takes it that the ownership of a bucket does not have to be told any more."""
        if self._owned.get(bucket) == version:
            del self._owned[bucket]

    def note(self, notice):
        """Takes a message `moved` or `ended` into the row of its flow, if there is one with this life."""
        flow, life, epoch = notice[2:5]
        bucket = bucket_of(flow)
        row = self.row(bucket, flow)
        if row is None or row[0] != life:
            return
        if notice[0] == "ended":
            del self._directories[bucket][flow]
        elif row[1] < epoch:
            self.put(bucket, flow, (life, epoch, notice[5]))

    def _renew(self, bucket, version):
        """Forgets all that belongs to an older version of the bucket."""
        self._versions[bucket] = version
        self._directories.pop(bucket, None)
        self._pointers.pop(bucket, None)
        self._grants.pop(bucket, None)
        self._owned.pop(bucket, None)
