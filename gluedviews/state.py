"""What the calls of one list work on: how many questions there are, and the views with their tables."""

from gluedviews.questions import row_count, shown_row

MOST_SEEN = 100


class View:
    def __init__(self, asked):
        self.asked = asked
        self.table = [1 for row in range(row_count(asked))]

    def see(self, world):
        row = shown_row(self.asked, world)
        self.table[row] = min(self.table[row] + 1, MOST_SEEN)

    def times_seen(self, world):
        return self.table[shown_row(self.asked, world)]


class Desk:
    def __init__(self):
        # 0 stands for "not begun yet": a begin that is answered 0 never leaves 0 here.
        self.question_count = 0
        self.views = []

    def has_begun(self):
        return self.question_count > 0

    def has_view(self, i):
        return i < len(self.views)

    def asked_sets(self):
        return [view.asked for view in self.views]
