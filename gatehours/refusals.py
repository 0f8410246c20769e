"""The answers of calls that are refused: an error code alone."""


def no_planner():
    return [-11]


def no_such_minute():
    return [-2]


def no_minutes():
    return [-6]


def out_of_range():
    return [-22]


def too_many_minutes():
    return [-28]


def none_found():
    return [-33]
