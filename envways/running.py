"""Runs of programs."""

from envways.checks import need_most
from envways.marking import marked


def ran(program, most):
    """How the run of a program ends, if most activations may begin."""
    tree = marked(program)
    need_most(most)
    run = Run(tree, most)
    while run.ending is None:
        run.step()
    return run.ending


class Function:
    """A function: its fun's site and body, and the activation that made it."""

    def __init__(self, site, body, maker):
        self.site = site
        self.body = body
        self.maker = maker


class Activation:
    """What an activation has bound so far, by sites, and the one that made its function."""

    def __init__(self, maker):
        self.maker = maker
        self.bound = {}


class Run:
    """A run of a marked program.

    The jobs that are still to be done stand in a list, the next one last,
    and what the expressions done came to in another one: a run may be within
    more calls and expressions at once than Python's own recursion bears.
    """

    def __init__(self, tree, most):
        self.most = most
        self.begun = 0
        self.jobs = [("do", tree, Activation(None))]
        self.worths = []
        self.ending = None

    def step(self):
        """Do the next job; without one, the run ends with what the program came to."""
        if len(self.jobs) == 0:
            self.ending = told(self.worths.pop())
            return
        job = self.jobs.pop()
        match job:
            case ("do", part, activation):
                self.begin(part, activation)
            case ("add",):
                self.add_two()
            case ("bind", site, activation):
                activation.bound[site] = self.worths.pop()
            case ("choose", second, third, activation):
                self.choose(second, third, activation)
            case ("enter",):
                self.enter()

    def begin(self, part, activation):
        """Come to the worth of an expression, or plan the jobs that do."""
        match part:
            case ("num", n):
                self.worths.append(n)
            case ("name", site):
                self.worths.append(looked_up(site, activation))
            case ("fun", site, body):
                self.worths.append(Function(site, body, activation))
            case ("plus", first, second):
                self.plan([("do", first, activation), ("do", second, activation), ("add",)])
            case ("call", first, second):
                self.plan([("do", first, activation), ("do", second, activation), ("enter",)])
            case ("let", site, first, second):
                bind = ("bind", site, activation)
                self.plan([("do", first, activation), bind, ("do", second, activation)])
            case ("if", first, second, third):
                self.plan([("do", first, activation), ("choose", second, third, activation)])

    def plan(self, jobs):
        """Put jobs, given in their order, ahead of all others."""
        self.jobs.extend(jobs[::-1])

    def add_two(self):
        """Put the sum of the last two worths in their place."""
        second = self.worths.pop()
        first = self.worths.pop()
        if isinstance(first, Function) or isinstance(second, Function):
            self.ending = ("fault", "number")
        else:
            self.worths.append((first + second) % 1000)

    def choose(self, second, third, activation):
        """Plan one of two expressions by the last worth."""
        test = self.worths.pop()
        if isinstance(test, Function):
            self.ending = ("fault", "number")
        elif test != 0:
            self.plan([("do", second, activation)])
        else:
            self.plan([("do", third, activation)])

    def enter(self):
        """Begin an activation for the function and the worth that came last."""
        worth = self.worths.pop()
        function = self.worths.pop()
        # To call a number begins no activation, so this fault goes ahead of the limit.
        if not isinstance(function, Function):
            self.ending = ("fault", "function")
        elif self.begun == self.most:
            self.ending = ("still",)
        else:
            self.begun += 1
            activation = Activation(function.maker)
            activation.bound[function.site] = worth
            self.plan([("do", function.body, activation)])


def looked_up(site, activation):
    """What the site is bound to for a name that this activation looks at."""
    place = activation
    # A site that is not the activation's own belongs to a fun around its fun,
    # or to no fun: to one of the activations that made the functions, going up.
    while site not in place.bound:
        place = place.maker
    return place.bound[site]


def told(worth):
    """How a run that comes to this worth ends."""
    if isinstance(worth, Function):
        return ("function", worth.site)
    return ("end", worth)
