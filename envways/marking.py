"""Programs with their sites in place of their names' numbers.

A marked expression is as in the program, except for ("name", site),
("let", site, e, e) and ("fun", site, e).
"""

from envways.checks import is_whole
from envways.errors import BadProgram

HIGHEST_NUMBER = 999
HIGHEST_NAME = 9
MOST_EXPRESSIONS = 60
MOST_AROUND = 7

FORMS = {
    "num": ("number",),
    "name": ("name",),
    "plus": ("part", "part"),
    "let": ("name", "part", "part"),
    "fun": ("name", "part"),
    "call": ("part", "part"),
    "if": ("part", "part", "part"),
}


def marked(program):
    """The marked expression of a program; BadProgram, if it is none."""
    return Marker().mark(program, {}, 0)


class Marker:
    """Counts the expressions and the sites of one program as they come."""

    def __init__(self):
        self.expressions = 0
        self.sites = 0

    def mark(self, part, around, depth):
        """Mark what stands within depth others; around has the sites of the names bound there."""
        self.expressions += 1
        if depth > MOST_AROUND or self.expressions > MOST_EXPRESSIONS:
            raise BadProgram("a program is too deep or too long")
        need_form(part)
        match part:
            case ("name", k):
                if k not in around:
                    raise BadProgram(f"name {k} is not bound")
                return ("name", around[k])
            case ("num", n):
                return ("num", n)
            case ("let", k, first, second):
                # The site is numbered ahead of those in the parts.
                site = self.next_site()
                worth = self.mark(first, around, depth + 1)
                return ("let", site, worth, self.mark(second, {**around, k: site}, depth + 1))
            case ("fun", k, body):
                site = self.next_site()
                return ("fun", site, self.mark(body, {**around, k: site}, depth + 1))
            case (word, *inner):
                return (word, *[self.mark(each, around, depth + 1) for each in inner])

    def next_site(self):
        """The number of the site that comes next in the text."""
        site = self.sites
        self.sites += 1
        return site


def need_form(part):
    """BadProgram, unless word, numbers and the count of the parts are those of an expression."""
    if not isinstance(part, tuple) or len(part) == 0:
        raise BadProgram("an expression is a tuple with a word ahead")
    word = part[0]
    if not isinstance(word, str) or word not in FORMS:
        raise BadProgram("no such word")
    form = FORMS[word]
    if len(part) != 1 + len(form):
        raise BadProgram(f"{word} has {len(form)} parts")
    for kind, worth in zip(form, part[1:]):
        if kind == "number" and not is_whole(worth, 0, HIGHEST_NUMBER):
            raise BadProgram(f"a number is whole, from 0 to {HIGHEST_NUMBER}")
        if kind == "name" and not is_whole(worth, 0, HIGHEST_NAME):
            raise BadProgram(f"a name's number is whole, from 0 to {HIGHEST_NAME}")
