"""Nets that are put together from what the lines of a text tell, and from the pieces that they use."""

from ballchutes.errors import BadPiece
from ballchutes.nets import Net
from ballchutes.reading import Inlet, Knot, Outlet

MOST_DEEP = 5


class Scope:
    """What is told under names of its own: by the net's own lines, or by those of a piece for one use of it."""

    def __init__(self, outside, name, outlets, links):
        self.outside = outside
        self.prefix = "" if outside is None else f"{outside.prefix}{name}."
        self.depth = 0 if outside is None else outside.depth + 1
        self.outlets = list(outlets)
        self.links = dict(links)
        self.knots = {}
        self.inlets = {}
        self.uses = {}


def net_of(body, pieces):
    """The net of what these lines tell, with the pieces that they use; BadPiece, then BadNet."""
    known = {}
    for piece in pieces:
        if piece.name in known:
            raise BadPiece(piece.line, "twice")
        known[piece.name] = piece
    whole = Scope(None, "", [], {})
    knots = {}
    for scope, knot in unfolded(whole, body, known):
        knots[scope.prefix + knot.name] = (row_of(scope, knot.front, knot.line), row_of(scope, knot.turn, knot.line))
    inlets = {name: end_of(whole, inlet.target, inlet.line) for name, inlet in whole.inlets.items()}
    return Net(knots, inlets, whole.outlets)


def unfolded(scope, body, pieces):
    """Pairs of a scope and a knot, for all knots that these lines and the pieces they use tell, in their order.

    All that is told is put into the scopes, too; BadPiece for the first line that is wrong by itself.
    """
    knots = []
    for told in body:
        check_new(scope, told)
        if isinstance(told, Inlet):
            scope.inlets[told.name] = told
        elif isinstance(told, Knot):
            scope.knots[told.name] = told
            knots.append((scope, told))
        elif not isinstance(told, Outlet):
            knots.extend(unfolded_use(scope, told, pieces))
        elif scope.outside is None:
            scope.outlets.append(told.name)
        else:
            raise BadPiece(told.line, "outlet")
    return knots


def check_new(scope, told):
    """Raises BadPiece if a line tells a name that is told already."""
    if isinstance(told, Inlet):
        twice = told.name in scope.inlets
    else:
        twice = told.name in scope.knots or told.name in scope.outlets or told.name in scope.uses
    if twice:
        raise BadPiece(told.line, "twice")


def unfolded_use(scope, use, pieces):
    """What unfolded returns for the lines of a piece, for a use of it."""
    piece = pieces.get(use.piece)
    if piece is None or piece.last > use.line:
        raise BadPiece(use.line, "piece")
    if sorted([outlet for outlet, _ in use.links]) != sorted(piece.outlets):
        raise BadPiece(use.line, "outlets")
    if scope.depth >= MOST_DEEP:
        raise BadPiece(use.line, "deep")
    inner = Scope(scope, use.name, piece.outlets, use.links)
    scope.uses[use.name] = inner
    knots = unfolded(inner, piece.body, pieces)
    if sorted(inner.inlets) != sorted(piece.inlets):
        raise BadPiece(piece.line, "inlets")
    return knots


def row_of(scope, row, line):
    """A row of drops to the knots and outlets that the targets told at this line come to."""
    return tuple([tuple([end_of(scope, target, line) for target in drop]) for drop in row])


def end_of(scope, target, line):
    """The knot or outlet that a target comes to, over uses and inlets of pieces; BadPiece if there is none."""
    met = {}
    while (scope, target) not in met:
        met[scope, target] = True
        name = target[0]
        if len(target) == 2:
            inner = scope.uses.get(name)
            if inner is None or target[1] not in inner.inlets:
                raise BadPiece(line, "name")
            scope, target = inner, inner.inlets[target[1]].target
        elif name in scope.knots:
            return scope.prefix + name
        elif name not in scope.outlets:
            raise BadPiece(line, "name")
        elif scope.outside is None:
            return name
        else:
            scope, target = scope.outside, scope.links[name]
    raise BadPiece(line, "loop")
