"""How many looks at names and how much room each way takes."""

from envways.running import run_by


def looked(program, way, most):
    """How many all looks of a run take by a way, up to its end."""
    run = run_by(program, way, most)
    return sum([taken(path, way, run.layouts) for path, _ in run.looks])


def taken(path, way, layouts):
    """How many a look takes that goes up this path of activations."""
    if len(path) == 1:
        return 1
    if way == "flat":
        return 2
    if way == "tied":
        return len(path)
    # The running activation's own house, if it has one, is not gone through.
    return 1 + len([place for place in path[1:] if len(layouts[place.site].housed) > 0])


def roomed(program, way, most):
    """How much room is taken by a way in a run."""
    run = run_by(program, way, most)
    if way == "flat":
        return sum([1 + len(run.layouts[function.site].used) for function in run.functions])
    rooms = [room_of(run.layouts[activation.site], way) for activation in run.activations]
    return 2 * len(run.functions) + sum(rooms)


def room_of(layout, way):
    """The room that an activation's frame or house takes."""
    if way == "tied":
        return 1 + len(layout.sites)
    # A house that nothing would stand in is not built.
    return 1 + len(layout.housed) if len(layout.housed) > 0 else 0
