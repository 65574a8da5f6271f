"""How far an outlet ever falls behind another one, whatever balls come, with evidence for both."""

from ballchutes.checking import is_number, is_standing
from ballchutes.errors import BadBalls
from ballchutes.evenness import check_outlets
from ballchutes.pairing import inlets_to
from ballchutes.walking import Walk, places_of, standing_at

MOST_BEHIND = 100


class Keeps:
    """Evidence that an outlet never falls too far behind: standings, with how much further it may fall from them on."""

    def __init__(self, heights):
        self.heights = [(dict(standing), height) for standing, height in heights]

    def shows(self, net, one, other, most):
        """Whether these standings and heights are as described for two outlets and most."""
        check_behind(net, one, other, most)
        if not all([is_standing(net, standing) and height >= 0 for standing, height in self.heights]):
            return False
        least = {}
        for standing, height in self.heights:
            places = places_of(net, standing)
            # What holds for the least height of a standing holds for its others, too.
            least[places] = min(height, least.get(places, height))
        if least.get(places_of(net, net.start()), most + 1) > most:
            return False
        leads = Leads(net, one, other)
        return all([leads.stay_above(places, height, least) for places, height in least.items()])

    def __bool__(self):
        return True

    def __eq__(self, other):
        return isinstance(other, Keeps) and self.heights == other.heights


class Falls:
    """Evidence that an outlet falls too far behind: inlets of as few balls as can be, behind which it is."""

    def __init__(self, inlets):
        self.inlets = list(inlets)

    def shows(self, net, one, other, most):
        """Whether the first outlet is more than most behind the other one behind these balls, and by no fewer."""
        check_behind(net, one, other, most)
        if not all([inlet in net.inlets for inlet in self.inlets]):
            return False
        leads = Leads(net, one, other)
        found = leads.first_behind(most)
        return found is not None and len(self.inlets) == len(found) and leads.lead_behind(self.inlets) < -most

    def __bool__(self):
        return False

    def __eq__(self, other):
        return isinstance(other, Falls) and self.inlets == other.inlets


class Leads:
    """By how much an outlet of a net is ahead of another one, from the start on.

    `least` has, for the places of the standings that first_behind met, the least such number behind balls that lead
    there, as far as it looked.
    """

    def __init__(self, net, one, other):
        self.walk = Walk(net)
        self.one = net.outlets.index(one)
        self.other = net.outlets.index(other)
        self.first = places_of(net, net.start())
        self.least = {}

    def steps_at(self, places):
        """For each inlet the places behind a ball there, and by how much the one outlet is further ahead then."""
        return {inlet: (behind, row[self.one] - row[self.other])
                for inlet, (behind, row) in self.walk.steps_at(places).items()}

    def stay_above(self, places, height, least):
        """Whether a ball at any inlet leads to places that have at most this height, with what is gained by it."""
        return all([behind in least and least[behind] <= height + gain
                    for behind, gain in self.steps_at(places).values()])

    def lead_behind(self, inlets):
        """By how much the one outlet is ahead behind balls at these inlets."""
        places, lead = self.first, 0
        for inlet in inlets:
            places, gain = self.steps_at(places)[inlet]
            lead += gain
        return lead

    def first_behind(self, most):
        """The inlets of as few balls as can be behind which the one outlet is more than most behind, or None."""
        self.least = {self.first: 0}
        led = {(self.first, 0): None}
        near = list(led)
        while near:
            far = []
            for places, lead in near:
                for inlet, (behind, gain) in self.steps_at(places).items():
                    now = lead + gain
                    # A standing to which no more balls led no less behind is passed over: it falls behind no sooner.
                    if now < self.least.get(behind, now + 1):
                        self.least[behind] = now
                        led[behind, now] = ((places, lead), inlet)
                        far.append((behind, now))
                        if now < -most:
                            return inlets_to(led, (behind, now))
            near = [(places, lead) for places, lead in far if lead == self.least[places]]
        return None


def check_behind(net, one, other, most):
    """Raises BadNet, NeverEnds, NoPart or BadBalls if this cannot be asked."""
    check_outlets(net, one, other)
    if not is_number(most) or not 0 <= most <= MOST_BEHIND:
        raise BadBalls("most is an integer from 0 to 100")


def judge_behind(net, one, other, most):
    """A Keeps if the first outlet is never more than most behind the other one, otherwise a Falls."""
    check_behind(net, one, other, most)
    leads = Leads(net, one, other)
    inlets = leads.first_behind(most)
    if inlets is not None:
        return Falls(inlets)
    return Keeps([(standing_at(net, places), most + lead) for places, lead in leads.least.items()])


def least_behind(net, one, other):
    """The least number, up to 100, that the first outlet is never more than behind the other one, or None."""
    check_outlets(net, one, other)
    leads = Leads(net, one, other)
    if leads.first_behind(MOST_BEHIND) is not None:
        return None
    return -min(list(leads.least.values()))
