"""Marks of a text: of each scalar what is behind it."""

NONE = 0
CHANCE = 1
MUST = 2


# An empty text has no marks, and so no last one.
def are_marks(marks, text):
    if len(marks) != len(text) or any([mark > MUST for mark in marks]):
        return False
    return len(marks) == 0 or marks[-1] == MUST


# There is one behind every place but the text's end, since the last mark is one.
def first_must(marks, begin):
    at = begin
    while marks[at] != MUST:
        at += 1
    return at + 1


# The chances behind a place, up to the first must, which is the last of them.
def chances_behind(marks, begin):
    must = first_must(marks, begin)
    return [place for place in range(begin + 1, must + 1) if marks[place - 1] != NONE]
