"""The call same: whether two nets differ in nothing but their agents' numbers."""

from pairnets.records import FIRST_NAME, NAME_COUNT, PORTS_APART, joined_to


# Agents that hang together are matched at one go: once one of them has its partner, the ports tell all the others'.
class Matching:
    def __init__(self, left, right):
        self.left = left
        self.right = right
        self.partners = {}
        # The right agents that are partners already; none may be twice.
        self.taken = {}
        # Left agents whose ports are still to be compared.
        self.waiting = []


def tell_same(left, right):
    if is_same_net(left, right):
        return [0, 1]
    return [0, 0]


def is_same_net(left, right):
    if len(left.agents) != len(right.agents) or not names_fit(left, right):
        return False
    # Which of several alike parts is matched with which doesn't matter, so none is ever taken back.
    taken = {}
    seen = {}
    for agent in left.agents:
        if agent not in seen:
            matching = match_part(left, right, agent, taken)
            if matching is None:
                return False
            seen.update(matching.partners)
            taken.update(matching.taken)
    return True


# A name at a port is compared when that port is.
def names_fit(left, right):
    for name in range(FIRST_NAME, FIRST_NAME + NAME_COUNT):
        x = joined_to(left, name)
        y = joined_to(right, name)
        if x != y and not (is_port(x) and is_port(y)):
            return False
    return True


# NOTHING stands above the names: it's no port either.
def is_port(point):
    return point < FIRST_NAME


def match_part(left, right, agent, taken):
    for other in right.agents:
        if other not in taken:
            matching = Matching(left, right)
            if match_agents(matching, agent, other) and match_waiting(matching):
                return matching
    return None


def match_agents(matching, agent, other):
    if agent in matching.partners or other in matching.taken:
        return matching.partners.get(agent) == other
    if matching.left.agents[agent] != matching.right.agents[other]:
        return False
    matching.partners[agent] = other
    matching.taken[other] = True
    matching.waiting.append(agent)
    return True


def match_waiting(matching):
    while len(matching.waiting) > 0:
        agent = matching.waiting.pop()
        other = matching.partners[agent]
        for j in range(PORTS_APART):
            x = joined_to(matching.left, PORTS_APART * agent + j)
            y = joined_to(matching.right, PORTS_APART * other + j)
            if not match_points(matching, x, y):
                return False
    return True


def match_points(matching, x, y):
    if not is_port(x) or not is_port(y):
        return x == y
    if x % PORTS_APART != y % PORTS_APART:
        return False
    return match_agents(matching, x // PORTS_APART, y // PORTS_APART)
