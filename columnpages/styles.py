"""The style of pages, and of each class of insertions."""

from columnpages.things import LONGEST


class Style:
    def __init__(self, height, max_depth, top):
        self.height = height
        self.max_depth = max_depth
        self.top = top


class ClassStyle:
    def __init__(self, skip, factor, most, late):
        self.skip = skip
        self.factor = factor
        self.most = most
        self.late = late


def first_style():
    return Style(0, 0, [0, 0, 0, 0, 0])


# What's told of a class, or what holds as long as nothing is.
def class_style(told, number):
    if number in told:
        return told[number]
    return ClassStyle([0, 0, 0, 0, 0], 1000, LONGEST, False)
