"""Runs of programs, and what they leave behind to be told of."""

from envways.checks import need_most, need_way
from envways.layout import layouts_of
from envways.machine import Function, Machine
from envways.marking import marked
from envways.programs import need_program


def ran(program, most):
    """How the run of a program ends, if most activations may begin."""
    return run_of(program, most).ending


def run_of(program, most):
    """The run of a program, up to its end; what is none is refused in the order in which it comes."""
    tree = marked(program)
    need_most(most)
    run = Run(tree, most)
    run.finish()
    return run


def run_by(program, way, most):
    """The run of a program that is asked about by a way, with the way refused between the other two."""
    need_program(program)
    need_way(way)
    return run_of(program, most)


class Run(Machine):
    """A run of a marked program, with all functions made and all looks, as they come.

    What a function has from outside is the activation that made it (so
    activation 0 has None). A look is (path, site), its path as path_to tells it.
    """

    def __init__(self, tree, most):
        super().__init__(tree, None, most)
        self.layouts = layouts_of(tree)
        self.functions = []
        self.looks = []

    def worth_of(self, part, activation):
        match part:
            case ("name", site):
                path = path_to(site, activation)
                self.looks.append((path, site))
                return path[-1].bound[site]
            case ("fun", site, body):
                function = Function(site, body, activation)
                self.functions.append(function)
                return function
            case _:
                return super().worth_of(part, activation)


def path_to(site, activation):
    """The activations from this one up to the one that has bound the site, both of them in it."""
    path = [activation]
    # A site that is not the activation's own belongs to a fun around its fun,
    # or to no fun: to one of the activations that made the functions, going up.
    while site not in path[-1].bound:
        path.append(path[-1].outside)
    return path


def going_up(activation):
    """The activation, the one that made its function, and so on up to activation 0."""
    path = [activation]
    while path[-1].outside is not None:
        path.append(path[-1].outside)
    return path
