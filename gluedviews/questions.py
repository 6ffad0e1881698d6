"""Sets of questions and worlds: numbers in which question i counts 2 to the power of i."""


def members(questions):
    found = []
    question = 0
    rest = questions
    while rest > 0:
        if rest % 2 == 1:
            found.append(question)
        rest = rest // 2
        question += 1
    return found


# Worlds and sets of questions are told alike, so this is how many there are of either.
def world_count(question_count):
    return 1 << question_count


def all_questions(question_count):
    return world_count(question_count) - 1


def row_count(questions):
    return 1 << len(members(questions))


def is_within(part, whole):
    return (part & whole) == part


def shown_row(questions, world):
    row = 0
    for place, question in enumerate(members(questions)):
        row += ((world >> question) & 1) << place
    return row


# Of the worlds that show the row, the one that answers 0 to all else.
def least_world(questions, row):
    world = 0
    for place, question in enumerate(members(questions)):
        world += ((row >> place) & 1) << question
    return world
