"""Names: rows of labels, from the root on. The root is the empty row."""

MOST_LABELS = 6
HIGHEST_LABEL = 99


def is_name(row):
    # The length goes first: a row of a thousand numbers need not be looked through.
    if len(row) > MOST_LABELS:
        return False
    return all([1 <= label <= HIGHEST_LABEL for label in row])


def is_for_all_others(row):
    return len(row) > 0 and row[-1] == 0


def is_record_name(row):
    if is_for_all_others(row):
        return len(row) <= MOST_LABELS and is_name(row[:-1])
    return is_name(row)


def begins_with(row, beginning):
    return row[:len(beginning)] == beginning
