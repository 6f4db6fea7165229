"""Profiles of runs."""

from nearanswer.moving import many_answerers
from nearanswer.rewriting import path_of
from nearanswer.running import Course
from nearanswer.runs import check_run


def profile(program, most):
    """How many steps had each word, and each deed was answered, the greatest size, and the most answerers around."""
    check_run(program, most)
    course = Course(program)
    words = {}
    deeds = {}
    size = course.size
    around = many_answerers(course.trail)
    many = 0
    while many < most and course.ending() is None:
        spot = course.spot
        word = course.advance()
        words[word] = words.get(word, 0) + 1
        if word == "deed":
            deeds[spot[1]] = deeds.get(spot[1], 0) + 1
        size = max(size, course.size)
        around = max(around, many_answerers(course.trail))
        many = many + 1
    return (tuple(sorted(list(words.items()))), tuple(sorted(list(deeds.items()))), size, around)


def places_worked(program, most):
    """The ascending list of the pairs (path, many) of how many steps were done at each next place."""
    check_run(program, most)
    course = Course(program)
    places = {}
    many = 0
    while many < most and course.ending() is None:
        path = path_of(course.trail)
        places[path] = places.get(path, 0) + 1
        course.advance()
        many = many + 1
    return sorted(list(places.items()))
