"""Builders of programs, and a second, slow way to what the package tells.

The model runs by names and copied surroundings and by Python's own recursion,
and finds sites by paths, so that it shares no way of working with the package.
"""

from contextlib import contextmanager
import sys


def num(n):
    return ("num", n)


def name(k):
    return ("name", k)


def plus(first, second):
    return ("plus", first, second)


def let(k, first, second):
    return ("let", k, first, second)


def fun(k, body):
    return ("fun", k, body)


def call(first, second):
    return ("call", first, second)


def choice(first, second, third):
    return ("if", first, second, third)


SELF_CALL = fun(0, call(name(0), name(0)))
ENDLESS = call(SELF_CALL, SELF_CALL)
NUMBER_FAULT = plus(SELF_CALL, num(1))
FUNCTION_FAULT = call(num(1), num(2))


def counting_down(n, last=None):
    """A program that adds up n, n - 1 .. 1 with 2 * n + 2 activations, then perhaps one for a last fun."""
    again = call(call(name(0), name(0)), plus(name(1), num(999)))
    step = fun(0, fun(1, choice(name(1), plus(name(1), again), num(0))))
    counted = call(call(name(2), name(2)), num(n))
    return let(2, step, counted if last is None else call(last, counted))


def sized(many):
    """A program of so many expressions, as flat as can be."""
    if many == 1:
        return num(1)
    if many == 2:
        return fun(0, num(1))
    left = (many - 1) // 2
    return plus(sized(left), sized(many - 1 - left))


def added(parts):
    """All parts added up, as flat as can be."""
    if len(parts) == 1:
        return parts[0]
    half = len(parts) // 2
    return plus(added(parts[:half]), added(parts[half:]))


# Sixty expressions, that come to 14 by as many calls.
FULL = let(0, fun(1, name(1)), added([call(name(0), num(1))] * 14 + [num(0)]))


def parts_with_paths(part, path=()):
    """All (path, part) as they stand in the text; a path tells which part of which part."""
    found = [(path, part)]
    for at, inner in enumerate(part):
        if isinstance(inner, tuple):
            found.extend(parts_with_paths(inner, path + (at,)))
    return found


def sites_by_path(program):
    paths = [path for path, part in parts_with_paths(program) if part[0] in ("let", "fun")]
    return {path: at for at, path in enumerate(paths)}


def binder_path(program, path, k):
    """The path of the innermost let or fun that binds k at a path."""
    parts = dict(parts_with_paths(program))
    for many in range(len(path) - 1, -1, -1):
        part = parts[path[:many]]
        last = {"let": 3, "fun": 2}.get(part[0])
        if path[many] == last and part[1] == k:
            return path[:many]
    raise AssertionError("a name that is not bound")


def model_uses(program):
    sites = sites_by_path(program)
    rows = parts_with_paths(program)
    told = []
    for path, part in rows:
        if part[0] != "fun":
            continue
        used = set()
        for where, inner in rows:
            if inner[0] == "name" and where[:len(path)] == path:
                binder = binder_path(program, where, inner[1])
                if binder[:len(path)] != path:
                    used.add(sites[binder])
        told.append((sites[path], sorted(used)))
    return told


class Stop(Exception):
    pass


@contextmanager
def deep_recursion():
    before = sys.getrecursionlimit()
    sys.setrecursionlimit(20000)
    try:
        yield
    finally:
        sys.setrecursionlimit(before)


def model_ran(program, most):
    sites = sites_by_path(program)
    begun = []

    def do(part, path, around):
        word = part[0]
        if word == "num":
            return part[1]
        if word == "name":
            return around[part[1]]
        if word == "fun":
            return (path, part, dict(around))
        first_at = 2 if word == "let" else 1
        first = do(part[first_at], path + (first_at,), around)
        if word == "let":
            return do(part[3], path + (3,), {**around, part[1]: first})
        if word == "if":
            if isinstance(first, tuple):
                raise Stop(("fault", "number"))
            at = 2 if first != 0 else 3
            return do(part[at], path + (at,), around)
        second = do(part[2], path + (2,), around)
        if word == "plus":
            if isinstance(first, tuple) or isinstance(second, tuple):
                raise Stop(("fault", "number"))
            return (first + second) % 1000
        if not isinstance(first, tuple):
            raise Stop(("fault", "function"))
        if len(begun) == most:
            raise Stop(("still",))
        begun.append(path)
        made_at, made, kept = first
        return do(made[2], made_at + (2,), {**kept, made[1]: second})

    try:
        with deep_recursion():
            worth = do(program, (), {})
    except Stop as stop:
        return stop.args[0]
    if isinstance(worth, tuple):
        return ("function", sites[worth[0]])
    return ("end", worth)


class Writer:
    """Writes programs by chance from a seeded source; most of them end well."""

    # What each kind of worth takes and gives: "n" is a number.
    KINDS = {"f": ("n", "n"), "g": ("f", "n"), "h": ("n", "f")}

    def __init__(self, chance):
        self.chance = chance

    def program(self):
        while True:
            kind = self.chance.choice("nnnfgh")
            made = self.part(kind, {}, self.chance.randint(2, 7))
            paths = [path for path, part in parts_with_paths(made)]
            if len(paths) <= 60 and max(map(len, paths)) <= 7:
                return made

    def part(self, kind, around, depth):
        if self.chance.random() < 0.02:
            kind = self.chance.choice("nfgh")
        ways = []
        if depth > 0:
            ways += ["let", "call", "call", "if"]
            ways += ["plus"] * 2 if kind == "n" else []
        fitting = [k for k in around if around[k] == kind]
        ways += ["name"] * 3 if fitting else []
        if not ways or self.chance.random() < 0.1 or kind != "n" and self.chance.random() < 0.4:
            return self.made(kind, around, depth)
        way = self.chance.choice(ways)
        if way == "name":
            return name(self.chance.choice(fitting))
        return self.built(way, kind, around, depth - 1)

    def made(self, kind, around, depth):
        if kind == "n":
            return num(self.chance.choice((0, 0, 1, 2, 500, 998, 999)))
        taken, given = self.KINDS[kind]
        k = self.chance.randint(0, 3)
        return fun(k, self.part(given, {**around, k: taken}, depth - 1))

    def built(self, way, kind, around, depth):
        if way == "plus":
            return plus(self.part("n", around, depth), self.part("n", around, depth))
        if way == "if":
            test = self.part("n", around, depth)
            return choice(test, self.part(kind, around, depth), self.part(kind, around, depth))
        if way == "let":
            k = self.chance.randint(0, 3)
            inner = self.chance.choice("nfgh")
            first = self.part(inner, around, depth)
            return let(k, first, self.part(kind, {**around, k: inner}, depth))
        callee = self.chance.choice({"n": "fg", "f": "h"}.get(kind, "fgh"))
        return call(self.part(callee, around, depth), self.part(self.KINDS[callee][0], around, depth))


class Nester:
    """Writes programs by chance of funs within funs, which it calls one after the other."""

    def __init__(self, chance):
        self.chance = chance

    def program(self):
        while True:
            made = self.outer()
            paths = [path for path, part in parts_with_paths(made)]
            if len(paths) <= 60 and max(map(len, paths)) <= 7:
                return made

    def outer(self):
        many = self.chance.randint(1, 5)
        first = self.layers(many, [])
        called = name(9)
        for _ in range(self.chance.choice((many, many, many - 1, many - 1, many + 1, 1))):
            called = call(called, self.atom([9]))
        # Now and then what a call came to is bound, and called anew.
        if self.chance.random() < 0.3:
            called = let(8, called, call(name(8), self.atom([8, 9])))
        return let(9, first, called)

    def layers(self, many, around):
        if many == 0:
            return self.body(around)
        k = self.chance.randint(0, 5)
        way = self.chance.random()
        if way < 0.6:
            return fun(k, self.layers(many - 1, around + [k]))
        if way < 0.85:
            return let(k, self.atom(around), self.layers(many - 1, around + [k]))
        if way < 0.93:
            return call(fun(k, self.layers(many - 1, around + [k])), self.atom(around))
        return choice(self.atom(around), self.layers(many - 1, around), self.layers(many - 1, around))

    def body(self, around):
        way = self.chance.random()
        if way < 0.5:
            return plus(self.atom(around), self.atom(around))
        if way < 0.7:
            return fun(6, self.atom(around + [6]))
        if way < 0.85:
            return call(self.atom(around), self.atom(around))
        return self.atom(around)

    def atom(self, around):
        way = self.chance.random()
        if around and way < 0.7:
            return name(self.chance.choice(around))
        if way < 0.9:
            return num(self.chance.choice((0, 1, 2, 999)))
        return fun(7, name(self.chance.choice(around + [7])))
