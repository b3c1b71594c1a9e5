"""What a program is, and what its functions use from outside."""

from envways.marking import marked


def need_program(program):
    """BadProgram, unless it is a program."""
    marked(program)


def uses(program):
    """For each fun, rising: (site, the sites that it uses from outside, rising)."""
    parts = parts_of(marked(program))
    return [(part[1], used_from_outside(part)) for part in parts if part[0] == "fun"]


def used_from_outside(fun):
    """The sites that a marked fun uses from outside, rising."""
    # A name's site stands around the name, so it is ahead of the fun in the
    # text just if it is neither the fun itself nor within it.
    return sorted({part[1] for part in parts_of(fun) if part[0] == "name" and part[1] < fun[1]})


def parts_of(expression):
    """The expression and all within it, as they stand in the text."""
    parts = [expression]
    for inner in expression:
        if isinstance(inner, tuple):
            parts.extend(parts_of(inner))
    return parts
