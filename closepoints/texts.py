"""Points written as a text, and read back."""

from closepoints.checks import need_points
from closepoints.errors import NoText

NOTHING = "none"
FIGURES = "0123456789"
MOST_FIGURES = 15


def is_figures(word, most):
    if not word or len(word) > most:
        return False
    if word[0] == "0" and len(word) > 1:
        return False
    return all([sign in FIGURES for sign in word])


def is_number(word):
    if word.startswith("-"):
        return word != "-0" and is_figures(word[1:], MOST_FIGURES)
    return is_figures(word, MOST_FIGURES)


def is_point(word):
    """Whether a word is numbers parted by commas; how many they are is asked apart from this."""
    return all([is_number(part) for part in word.split(",")])


def point_from(word):
    return tuple([int(part) for part in word.split(",")])


def point_text(point):
    return ",".join([str(number) for number in point])


def points_text(points):
    need_points(points)
    if not points:
        return NOTHING
    return " ".join([point_text(point) for point in points])


def read_points(text):
    if text == NOTHING:
        return []
    words = text.split(" ")
    # The whole form is looked at first, for NoText goes ahead of NoPoints.
    if not all([is_point(word) for word in words]):
        raise NoText("the text is not one of points")
    points = [point_from(word) for word in words]
    need_points(points)
    return points
