"""What runs of programs and runs of pieces have in common."""


class Function:
    """A function: its fun's site, its body, and what its kind of run keeps for it from outside."""

    def __init__(self, site, body, outside):
        self.site = site
        self.body = body
        self.outside = outside


class Activation:
    """What an activation has bound so far, by sites, and what its function has from outside.

    site is that of its fun, None for activation 0.
    """

    def __init__(self, number, site, outside):
        self.number = number
        self.site = site
        self.outside = outside
        self.bound = {}


class Machine:
    """A run of an expression in activation 0, in which most others may begin.

    The jobs that are still to be done stand in a list, the next one last,
    and what the expressions done came to in another one: a run may be within
    more calls and expressions at once than Python's own recursion bears.
    """

    def __init__(self, body, outside, most):
        first = Activation(0, None, outside)
        self.most = most
        self.activations = [first]
        self.jobs = [("do", body, first)]
        self.worths = []
        self.result = None
        self.ending = None

    def finish(self):
        """Do all jobs, up to the end of the run."""
        while self.ending is None:
            self.step()

    def step(self):
        """Do the next job; without one, the run ends with what the program came to."""
        if len(self.jobs) == 0:
            self.result = self.worths.pop()
            self.ending = told(self.result)
            return
        job = self.jobs.pop()
        match job:
            case ("do", part, activation):
                self.begin(part, activation)
            case ("add",):
                self.add_two()
            case ("bind", site, activation):
                activation.bound[site] = self.worths.pop()
            case ("choose", second, third, activation):
                self.choose(second, third, activation)
            case ("enter",):
                self.enter()

    def begin(self, part, activation):
        """Come to the worth of an expression, or plan the jobs that do."""
        match part:
            case ("plus", first, second):
                self.plan([("do", first, activation), ("do", second, activation), ("add",)])
            case ("call", first, second):
                self.plan([("do", first, activation), ("do", second, activation), ("enter",)])
            case ("let", site, first, second):
                bind = ("bind", site, activation)
                self.plan([("do", first, activation), bind, ("do", second, activation)])
            case ("if", first, second, third):
                self.plan([("do", first, activation), ("choose", second, third, activation)])
            case _:
                self.worths.append(self.worth_of(part, activation))

    def worth_of(self, part, activation):
        """What a num comes to; each kind of run adds its own words for names and funs."""
        return part[1]

    def plan(self, jobs):
        """Put jobs, given in their order, ahead of all others."""
        self.jobs.extend(jobs[::-1])

    def add_two(self):
        """Put the sum of the last two worths in their place."""
        second = self.worths.pop()
        first = self.worths.pop()
        if isinstance(first, Function) or isinstance(second, Function):
            self.ending = ("fault", "number")
        else:
            self.worths.append((first + second) % 1000)

    def choose(self, second, third, activation):
        """Plan one of two expressions by the last worth."""
        test = self.worths.pop()
        if isinstance(test, Function):
            self.ending = ("fault", "number")
        elif test != 0:
            self.plan([("do", second, activation)])
        else:
            self.plan([("do", third, activation)])

    def enter(self):
        """Begin an activation for the function and the worth that came last."""
        worth = self.worths.pop()
        function = self.worths.pop()
        # Activation 0 stands among the activations, but is none that begins by a call.
        begun = len(self.activations) - 1
        # To call a number begins no activation, so this fault goes ahead of the limit.
        if not isinstance(function, Function):
            self.ending = ("fault", "function")
        elif begun == self.most:
            self.ending = ("still",)
        else:
            activation = Activation(begun + 1, function.site, function.outside)
            activation.bound[function.site] = worth
            self.activations.append(activation)
            self.plan([("do", function.body, activation)])


def told(worth):
    """How a run that comes to this worth ends."""
    if isinstance(worth, Function):
        return ("function", worth.site)
    return ("end", worth)
