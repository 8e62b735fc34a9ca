"""The directory of a bucket from what births report of it (point 703)."""


def directory_of(reports, births):
    """Returns the directory, in ascending order, with the rows whose places are among the births."""
    counting = {}
    for report in reports:
        for row in report:
            name = row[:2]
            if name not in counting or _counts_more(row, counting[name]):
                counting[name] = row
    directory = {}
    # The flows come in ascending order, and of each flow the greatest life last, so that it stays.
    for name in sorted(counting):
        if counting[name][3] in births:
            directory[name[0]] = counting[name]
    return tuple(directory.values())


def _counts_more(row, other):
    epoch, place = row[2:]
    return epoch > other[2] or (epoch == other[2] and place is None)
