"""Which houses hang together by ties."""


def merged(marks, one, other):
    """The marks of houses, one of each group, when a tie joins the groups of two houses."""
    return [marks[one] if mark == marks[other] else mark for mark in marks]


def group_marks(many, pairs):
    """A mark for each house, alike for just those that hang together by the pairs."""
    marks = list(range(many))
    for one, other in pairs:
        marks = merged(marks, one, other)
    return marks


def is_joined(many, pairs):
    """Whether one comes from each house to each other one by the pairs."""
    return len(set(group_marks(many, pairs))) == 1
