"""The glued whole of views that are a tree and all agree: how likely each world is."""

from gluedviews.margins import margin
from gluedviews.questions import members, row_count, shown_row, world_count
from gluedviews.ratios import lowest, product, total
from gluedviews.taking import steps_off, views_left


# Each piece is (a view, what it has in common with the view onto which it's put). The view that's left is put
# onto none: of no questions the margin is all of its table, so it's reckoned like the others.
def pieces_of(views):
    sets = [view.asked for view in views]
    steps = steps_off(sets)
    pieces = [(views[i], 0) for i in views_left(sets, steps)]
    for step in steps:
        pieces.append((views[step[0]], sets[step[0]] & sets[step[1]]))
    return pieces


def piece_ratio(view, common, world):
    below = margin(view.asked, view.table, common)[shown_row(common, world)]
    if below == 0:
        return (0, 1)
    return lowest(view.times_seen(world), below)


def halves(question_count, views):
    asked = 0
    for view in views:
        asked = asked | view.asked
    return (1, 1 << (question_count - len(members(asked))))


def glued_ratio(pieces, unasked, world):
    ratio = unasked
    for view, common in pieces:
        ratio = product(ratio, piece_ratio(view, common, world))
    return ratio


def glued_whole(question_count, views):
    pieces = pieces_of(views)
    unasked = halves(question_count, views)
    return [glued_ratio(pieces, unasked, world) for world in range(world_count(question_count))]


def whole_margin(whole, part):
    summed = [(0, 1) for row in range(row_count(part))]
    for world, ratio in enumerate(whole):
        row = shown_row(part, world)
        summed[row] = total(summed[row], ratio)
    return summed
