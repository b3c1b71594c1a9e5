"""Programs made into pieces that keep copies, and runs of the pieces."""

from envways.checks import need_most
from envways.layout import layouts_of
from envways.machine import Function, Machine
from envways.marking import marked


def pieces(program):
    """(site, used, body) of the whole program, its site being None, then of each fun, rising."""
    layouts = layouts_of(marked(program))
    return [(layout.site, tuple(layout.used), cut(layout.body, layout, layouts)) for layout in layouts.values()]


def cut(part, layout, layouts):
    """A part of the marked body that the layout is of, as it stands in the piece."""
    match part:
        case ("num", n):
            return ("num", n)
        case ("name", site):
            return source_of(site, layout)
        case ("let", site, first, second):
            return ("let", site, cut(first, layout, layouts), cut(second, layout, layouts))
        case ("fun", site, _):
            return ("make", site, tuple([source_of(used, layout) for used in layouts[site].used]))
        case (word, *inner):
            return (word, *[cut(each, layout, layouts) for each in inner])


def source_of(site, layout):
    """Where a piece finds what the site is bound to."""
    if site in layout.sites:
        return ("own", site)
    return ("copy", layout.used.index(site))


def run_pieces(some, most):
    """How the run of pieces ends, if most activations may begin."""
    need_most(most)
    run = PieceRun(some, most)
    run.finish()
    return run.ending


class PieceRun(Machine):
    """A run of pieces; what a function has from outside is the list of its copies."""

    def __init__(self, some, most):
        self.bodies = {site: body for site, _, body in some}
        super().__init__(self.bodies[None], [], most)

    def worth_of(self, part, activation):
        match part:
            case ("own", site):
                return activation.bound[site]
            case ("copy", j):
                return activation.outside[j]
            case ("make", site, sources):
                copies = [self.worth_of(source, activation) for source in sources]
                return Function(site, self.bodies[site], copies)
            case _:
                return super().worth_of(part, activation)
