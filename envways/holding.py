"""Which bindings the result of a run holds, and when bindings are looked at last."""

from envways.machine import Function
from envways.running import going_up, run_by, run_of


def kept(program, way, most):
    """The bindings that the result of a run holds by a way, rising."""
    return held(run_by(program, way, most), way)


def idle(program, way, most):
    """The bindings that the result of a run holds by a way, and not by "flat", rising."""
    run = run_by(program, way, most)
    needed = held(run, "flat")
    return [binding for binding in held(run, way) if binding not in needed]


def lasts(program, most):
    """All bindings of a run, rising, each with the number of the last look at it, or None."""
    run = run_of(program, most)
    last = {}
    for when, (path, site) in enumerate(run.looks):
        last[path[-1].number, site] = when
    bindings = [(place.number, site) for place in run.activations for site in place.bound]
    return [(number, site, last.get((number, site))) for number, site in sorted(bindings)]


def held(run, way):
    """The bindings that the result of a run holds by a way, rising; none, if it is no function."""
    found = {}
    waiting = []
    if isinstance(run.result, Function):
        waiting.append(run.result)
    while len(waiting) > 0:
        function = waiting.pop()
        for place, site in held_straight(function, way, run.layouts):
            # Functions may hold one another in rings.
            if (place.number, site) not in found:
                found[place.number, site] = True
                if isinstance(place.bound[site], Function):
                    waiting.append(place.bound[site])
    return sorted(found)


def held_straight(function, way, layouts):
    """(activation, site) for each binding that a function holds, those through bindings aside."""
    rows = []
    for place in going_up(function.outside):
        reached = reached_sites(layouts[function.site], layouts[place.site], way)
        rows.extend([(place, site) for site in place.bound if site in reached])
    return rows


def reached_sites(own, around, way):
    """The sites whose bindings a function holds of an activation that it comes to, by their layouts."""
    if way == "flat":
        return own.used
    if way == "tied":
        return around.sites
    return around.housed
