"""What the text of a program settles for all activations of one fun, and for activation 0."""


class Layout:
    """Of a fun, or of the whole program: what its activations do, bind and share.

    site is None for the whole program. used are the sites that the fun uses
    from outside, sites those that its activations bind, and housed those of
    them that some fun within it uses from outside; all of them rising.
    """

    def __init__(self, site, body):
        inner = [used_from_outside(part[1], part[2]) for part in parts_of(body) if part[0] == "fun"]
        self.site = site
        self.body = body
        self.used = []
        self.sites = lets_of(body)
        if site is not None:
            self.used = used_from_outside(site, body)
            self.sites = [site, *self.sites]
        self.housed = [own for own in self.sites if any([own in used for used in inner])]


def layouts_of(tree):
    """The layouts of a marked program by their sites: first its own, by None, then its funs', rising."""
    layouts = {None: Layout(None, tree)}
    for part in parts_of(tree):
        if part[0] == "fun":
            layouts[part[1]] = Layout(part[1], part[2])
    return layouts


def used_from_outside(fun, body):
    """The sites that the fun with this site and this marked body uses from outside, rising."""
    # A name's site stands around the name, so it is ahead of the fun in the
    # text just if it is neither the fun itself nor within it.
    return sorted({part[1] for part in parts_of(body) if part[0] == "name" and part[1] < fun})


def lets_of(expression):
    """The sites of the lets of a marked expression that stand in no fun within it, rising."""
    if expression[0] == "fun":
        return []
    sites = [expression[1]] if expression[0] == "let" else []
    for inner in expression:
        if isinstance(inner, tuple):
            sites.extend(lets_of(inner))
    return sites


def parts_of(expression):
    """The expression and all within it, as they stand in the text."""
    parts = [expression]
    for inner in expression:
        if isinstance(inner, tuple):
            parts.extend(parts_of(inner))
    return parts
