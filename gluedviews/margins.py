"""Margins, and whether views agree. Counts tell of each row of answers how often it was seen."""

from gluedviews.questions import least_world, row_count, shown_row


def margin(asked, counts, part):
    summed = [0 for row in range(row_count(part))]
    for row, count in enumerate(counts):
        summed[shown_row(part, least_world(asked, row))] += count
    return summed


# Multiplied crosswise, so that no fraction need be made.
def equally_likely(counts, others):
    all_counts = sum(counts)
    all_others = sum(others)
    for count, other in zip(counts, others):
        if count * all_others != other * all_counts:
            return False
    return True


def agree(view, other):
    common = view.asked & other.asked
    return equally_likely(margin(view.asked, view.table, common), margin(other.asked, other.table, common))


def first_apart(views):
    for i in range(len(views)):
        for j in range(i + 1, len(views)):
            if not agree(views[i], views[j]):
                return (i, j)
    return None
