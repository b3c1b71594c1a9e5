"""A second, slow way to what is told of runs: it keeps copies, frames and houses, all three at once.

Each look goes by all three ways, and they have to find the very same worth.
Sites are paths here, until they are told.
"""

from model import Stop, binder_path, deep_recursion, parts_with_paths, sites_by_path

WAYS = ("flat", "tied", "shared")


class Place:
    """A frame or a house: the places that a function goes up by."""

    def __init__(self, number, paths, up):
        self.number = number
        self.paths = paths
        self.up = up
        self.bound = {}


class Made:
    """A function, with what it has by each way: copies, a frame, a house or None."""

    def __init__(self, path, part, copies, frame, house):
        self.path = path
        self.part = part
        self.copies = copies
        self.frame = frame
        self.house = house


class Acting:
    """An activation: its copies, its frame, its house (or None), and the house that its function is tied to."""

    def __init__(self, copies, frame, house, above):
        self.copies = copies
        self.frame = frame
        self.house = house
        self.above = above


class Texts:
    """What can be told of a program without a run."""

    def __init__(self, program):
        self.rows = parts_with_paths(program)
        self.parts = dict(self.rows)
        self.sites = sites_by_path(program)
        self.binders = {}
        for path, part in self.rows:
            if part[0] == "name":
                self.binders[path] = binder_path(program, path, part[1])
        self.funs = [path for path, part in self.rows if part[0] == "fun"]
        self.outside = {path: self.used_by(path) for path in self.funs}

    def used_by(self, fun):
        found = [binder for path, binder in self.binders.items()
                 if path[:len(fun)] == fun and binder[:len(fun)] != fun]
        return sorted(set(found), key=self.sites.get)

    def bound_by(self, fun):
        """What an activation of a fun binds; None tells of activation 0."""
        own = []
        for path in sorted(self.sites, key=self.sites.get):
            around = [path[:many] for many in range(len(path)) if self.parts[path[:many]][0] == "fun"]
            nearest = around[-1] if around else None
            if path == fun or self.parts[path][0] == "let" and nearest == fun:
                own.append(path)
        return own

    def shared_by(self, fun):
        used = [path for other in self.funs for path in self.outside[other]]
        return [path for path in self.bound_by(fun) if path in used]


class Trace:
    def __init__(self, program, most):
        self.texts = Texts(program)
        self.program = program
        self.most = most
        self.begun = -1
        self.looked = {way: 0 for way in WAYS}
        self.roomed = {way: 0 for way in WAYS}
        self.bindings = {}
        self.last = {}
        self.looks = 0
        self.result = None
        try:
            with deep_recursion():
                self.result = self.do((), self.acting(None))
            self.ending = ("end", self.result)
            if isinstance(self.result, Made):
                self.ending = ("function", self.texts.sites[self.result.path])
        except Stop as stop:
            self.ending = stop.args[0]

    def acting(self, made):
        self.begun += 1
        fun = made.path if made else None
        own = self.texts.bound_by(fun)
        self.roomed["tied"] += 1 + len(own)
        frame = Place(self.begun, own, made.frame if made else None)
        above = made.house if made else None
        house = None
        shared = self.texts.shared_by(fun)
        if shared:
            house = Place(self.begun, shared, above)
            self.roomed["shared"] += 1 + len(shared)
        return Acting(made.copies if made else {}, frame, house, above)

    def bind(self, path, worth, acting):
        assert path in acting.frame.paths
        acting.frame.bound[path] = worth
        if acting.house and path in acting.house.paths:
            acting.house.bound[path] = worth
        self.bindings[acting.frame.number, path] = worth

    def do(self, path, acting):
        part = self.texts.parts[path]
        word = part[0]
        if word == "num":
            return part[1]
        if word == "name":
            return self.look(self.texts.binders[path], acting)
        if word == "fun":
            return self.make(path, part, acting)
        if word == "let":
            self.bind(path, self.do(path + (2,), acting), acting)
            return self.do(path + (3,), acting)
        first = self.do(path + (1,), acting)
        if word == "if":
            if isinstance(first, Made):
                raise Stop(("fault", "number"))
            return self.do(path + ((2,) if first else (3,)), acting)
        second = self.do(path + (2,), acting)
        if word == "plus":
            if isinstance(first, Made) or isinstance(second, Made):
                raise Stop(("fault", "number"))
            return (first + second) % 1000
        if not isinstance(first, Made):
            raise Stop(("fault", "function"))
        if self.begun == self.most:
            raise Stop(("still",))
        inner = self.acting(first)
        self.bind(first.path, second, inner)
        return self.do(first.path + (2,), inner)

    def look(self, binder, acting):
        number = acting.frame.number
        if binder in acting.frame.bound:
            worth = acting.frame.bound[binder]
            took = {way: 1 for way in WAYS}
        else:
            number, worth = acting.copies[binder]
            took = {"flat": 2}
            took["tied"], by_frames = self.climbed(acting.frame, binder)
            houses, by_houses = self.climbed(acting.above, binder)
            took["shared"] = houses + 1
            assert worth is by_frames and worth is by_houses
        for way in WAYS:
            self.looked[way] += took[way]
        self.last[number, binder] = self.looks
        self.looks += 1
        return worth

    def climbed(self, place, binder):
        many = 1
        while binder not in place.bound:
            place = place.up
            many += 1
        return many, place.bound[binder]

    def make(self, path, part, acting):
        copies = {}
        for used in self.texts.outside[path]:
            if used in acting.frame.bound:
                copies[used] = (acting.frame.number, acting.frame.bound[used])
            else:
                copies[used] = acting.copies[used]
        self.roomed["flat"] += 1 + len(copies)
        self.roomed["tied"] += 2
        self.roomed["shared"] += 2
        house = acting.house if acting.house else acting.above
        return Made(path, part, copies, acting.frame, house)

    def kept(self, way):
        found = set()

        def hold(worth):
            if isinstance(worth, Made):
                for number, path in straight(worth, way):
                    if (number, path) not in found:
                        found.add((number, path))
                        hold(self.bindings[number, path])

        with deep_recursion():
            hold(self.result)
        return sorted((number, self.texts.sites[path]) for number, path in found)

    def idle(self, way):
        return sorted(set(self.kept(way)) - set(self.kept("flat")))

    def lasts(self):
        told = {(number, self.texts.sites[path]): self.last.get((number, path)) for number, path in self.bindings}
        return [key + (told[key],) for key in sorted(told)]


def straight(made, way):
    """The bindings, by paths, that a function holds by itself."""
    if way == "flat":
        return [(number, path) for path, (number, _) in made.copies.items()]
    rows = []
    place = made.frame if way == "tied" else made.house
    while place is not None:
        rows.extend((place.number, path) for path in place.bound)
        place = place.up
    return rows


def model_pieces(program):
    """Pieces, written out by paths."""
    texts = Texts(program)

    def where(binder, fun):
        if binder in texts.bound_by(fun):
            return ("own", texts.sites[binder])
        return ("copy", texts.outside[fun].index(binder))

    def written(path, fun):
        part = texts.parts[path]
        if part[0] == "name":
            return where(texts.binders[path], fun)
        if part[0] == "fun":
            return ("make", texts.sites[path], tuple(where(used, fun) for used in texts.outside[path]))
        row = []
        for at, inner in enumerate(part):
            row.append(written(path + (at,), fun) if isinstance(inner, tuple) else inner)
        if part[0] == "let":
            row[1] = texts.sites[path]
        return tuple(row)

    told = [(None, (), written((), None))]
    for fun in texts.funs:
        used = tuple(texts.sites[path] for path in texts.outside[fun])
        told.append((texts.sites[fun], used, written(fun + (2,), fun)))
    return told
