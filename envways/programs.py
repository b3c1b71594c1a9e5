"""What a program is, and what its functions use from outside."""

from envways.layout import layouts_of
from envways.marking import marked


def need_program(program):
    """BadProgram, unless it is a program."""
    marked(program)


def uses(program):
    """For each fun, rising: (site, the sites that it uses from outside, rising)."""
    layouts = list(layouts_of(marked(program)).values())
    # The first one is that of the whole program, which is no fun.
    return [(layout.site, layout.used) for layout in layouts[1:]]
