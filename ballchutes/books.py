"""Books of named nets, and claims about them that are kept."""

from ballchutes.alikes import judge_alike
from ballchutes.checking import check_net
from ballchutes.errors import NoPart, NothingDone
from ballchutes.nets import copy_of
from ballchutes.shares import share_of


class AlikeClaim:
    """The claim that two nets of a book are alike."""

    def __init__(self, one, other):
        self.names = (one, other)

    def breach(self, nets):
        """The Told by which these nets break the claim, None if they keep it."""
        one, other = self.names
        found = judge_alike(nets[one], nets[other])
        return None if found else found


class ShareClaim:
    """The claim that an outlet of a net of a book has a share."""

    def __init__(self, name, entry, outlet, share):
        self.names = (name,)
        self.entry = entry
        self.outlet = outlet
        self.share = share

    def breach(self, nets):
        """The pair of the share that is claimed and of that in these nets, None if they keep the claim."""
        share = share_of(nets[self.names[0]], self.entry, self.outlet)
        return None if share == self.share else (self.share, share)


class Trial:
    """Work on a book; if an error ends it, the book is as it was when the work began."""

    def __init__(self, book):
        self.book = book

    def __enter__(self):
        # A book never changes these in place: so they need no copies.
        self.nets = self.book.nets
        self.claims = self.book.claims
        self.done = self.book.done
        return self.book

    def __exit__(self, kind, value, trace):
        book = self.book
        if kind is not None:
            book.nets = self.nets
            book.claims = self.claims
            book.done = self.done


class Book:
    """Named nets, the claims about them, and the nets ahead of each put or drop that can be undone."""

    MOST = 12

    def __init__(self):
        self.nets = {}
        self.claims = []
        self.done = []

    def __getitem__(self, name):
        return copy_of(self.net_named(name))

    def __contains__(self, name):
        return isinstance(name, str) and name in self.nets

    def __len__(self):
        return len(self.nets)

    def __iter__(self):
        raise TypeError("a book cannot be walked; titles tells its names")

    def titles(self):
        """The names of the nets, ascending."""
        return sorted(self.nets)

    def net_named(self, name):
        """The net of this name; NoPart if there is none."""
        if not isinstance(name, str) or name not in self.nets:
            raise NoPart(name)
        return self.nets[name]

    def put(self, name, net):
        """Puts a net, if all claims are kept then; otherwise returns what breaks the first claim."""
        check_net(net)
        if name not in self.nets and len(self.nets) >= Book.MOST:
            raise NoPart(None)
        nets = {**self.nets, name: copy_of(net)}
        breach = self.first_breach(nets)
        if breach is None:
            self.done = [*self.done, self.nets]
            self.nets = nets
        return breach

    def drop(self, name):
        """Takes out a net that no claim names, and returns it."""
        net = self.net_named(name)
        if any([name in claim.names for claim in self.claims]):
            raise NoPart(name)
        self.done = [*self.done, self.nets]
        self.nets = {other: self.nets[other] for other in self.nets if other != name}
        return copy_of(net)

    def undo(self):
        """Goes back to the nets ahead of the last put or drop not undone, if all claims are kept; whether it did."""
        if len(self.done) == 0:
            raise NothingDone("no put and no drop is left that can be undone")
        nets = self.done[-1]
        if not all([name in nets for claim in self.claims for name in claim.names]):
            return False
        if self.first_breach(nets) is not None:
            return False
        self.nets = nets
        self.done = self.done[:-1]
        return True

    def first_breach(self, nets):
        """What breaks the first claim that other nets, of the same names, do not keep; None if they keep all."""
        for claim in self.claims:
            # Claims about nets that stay the same stay kept.
            if any([nets[name] != self.nets[name] for name in claim.names]):
                breach = claim.breach(nets)
                if breach is not None:
                    return breach
        return None

    def claim_alike(self, one, other):
        """Judges whether two nets are alike, and claims that they are, if so."""
        found = judge_alike(self.net_named(one), self.net_named(other))
        if found:
            self.claims = [*self.claims, AlikeClaim(one, other)]
        return found

    def claim_share(self, name, entry, outlet):
        """The share of an outlet, from a knot or inlet of a net, which is claimed then."""
        share = share_of(self.net_named(name), entry, outlet)
        self.claims = [*self.claims, ShareClaim(name, entry, outlet, share)]
        return share

    def trial(self):
        """Work on the book by `with`, which leaves it as it was if an error ends it."""
        return Trial(self)

    def attempt(self, deed):
        """What a deed returns that is done to the book in a trial."""
        with self.trial() as same:
            return deed(same)
