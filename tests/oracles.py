"""Plain ways to what the document promises of fillings and chains, for the tests to hold the program against."""


class Dice:
    """Throws that look mixed and are the same on every run and under every Python."""

    def __init__(self, seed):
        self.state = seed

    def throw(self, sides):
        self.state = (self.state * 6364136223846793005 + 1442695040888963407) % 2 ** 64
        return (self.state >> 33) % sides

    def mixed(self, things):
        rest = list(things)
        return [rest.pop(self.throw(len(rest))) for _ in things]

    def may(self, matches, referees, tenths):
        """Each of the referees may take each of the matches by a throw; the lists stand in any order."""
        return [
            [number for number in self.mixed(referees) if self.throw(10) < tenths]
            for _ in range(matches)
        ]

    def filling(self, may, tenths):
        """A filling by `may`, mostly no weightiest one."""
        given = [None] * len(may)
        for place in self.mixed(range(len(may))):
            free = [number for number in may[place] if number not in given]
            if free and self.throw(10) < tenths:
                given[place] = free[self.throw(len(free))]
        return given


def copied(may):
    return [list(numbers) for numbers in may]


def subsets(things):
    return [[thing for k, thing in enumerate(things) if choice >> k & 1] for choice in range(2 ** len(things))]


def all_mays(matches, referees):
    """Every `may` of so many matches and these referees, the order within the lists aside."""
    mays = [[]]
    for _ in range(matches):
        mays = [may + [numbers] for may in mays for numbers in subsets(referees)]
    return mays


def all_fillings(may):
    fillings = [[]]
    for numbers in may:
        fillings = [
            given + [number]
            for given in fillings for number in [None] + numbers
            if number is None or number not in given
        ]
    return fillings


def is_filling(may, given):
    if type(given) is not list or len(given) != len(may):
        return False
    sent = [number for number in given if number is not None]
    return len(sent) == len(set(sent)) and all(
        number is None or number in numbers for number, numbers in zip(given, may)
    )


def filled(given):
    """Where a filling has referees. The weightier one of two fillings is the greater one here."""
    return [number is not None for number in given]


def weightiest_of_all(may):
    return max(filled(given) for given in all_fillings(may))


def can_all_be_filled(may, places):
    held = {}

    def find(place, tried):
        for number in may[place]:
            if number not in tried:
                tried.add(number)
                if number not in held or find(held[number], tried):
                    held[number] = place
                    return True
        return False

    return all(find(place, set()) for place in places)


def weightiest_by_places(may):
    """The same as weightiest_of_all for inputs that are too great for it, by the words behind "So" of point 10."""
    kept = []
    for place in range(len(may)):
        if can_all_be_filled(may, kept + [place]):
            kept.append(place)
    return [place in kept for place in range(len(may))]


def all_chains(may, given, place, ahead=()):
    """Every chain of point 12 in which no place stands twice: any other one has a shorter one with its end."""
    chains = [[*ahead, (place, None)]]
    been = [step[0] for step in ahead] + [place]
    for number in may[place]:
        steps = (*ahead, (place, number))
        if number not in given:
            chains.append(list(steps))
        elif given.index(number) not in been:
            chains.extend(all_chains(may, given, given.index(number), steps))
    return chains


def promised_chains(may, given, place):
    """The chains of which point 13 lets one be told."""
    chains = all_chains(may, given, place)
    rivals = [steps for steps in chains if steps[-1][1] is not None]
    if not rivals:
        least = max(steps[-1][0] for steps in chains)
        rivals = [steps for steps in chains if steps[-1][0] == least]
    fewest = min(len(steps) for steps in rivals)
    return [steps for steps in rivals if len(steps) == fewest]


def is_chain(may, given, place, steps):
    """Point 12, word by word."""
    if type(steps) is not list or not steps or steps[0][0] != place:
        return False
    for (here, number), (then, _) in zip(steps, steps[1:]):
        if number not in may[here] or number not in given or given.index(number) in (here, place):
            return False
        if given.index(number) != then:
            return False
    last, number = steps[-1]
    return number is None or (number in may[last] and number not in given)


def fewest_steps(may, given, place):
    """For each place that can be come to, the number of steps of the shortest chain that ends there."""
    steps = {place: 1}
    changed = True
    while changed:
        changed = False
        for here in list(steps):
            for number in may[here]:
                if number in given:
                    then = given.index(number)
                    if steps.get(then, 10 ** 9) > steps[here] + 1:
                        steps[then] = steps[here] + 1
                        changed = True
    return steps


def keeps_point_13(may, given, place, steps):
    """Whether these steps may be told, also for inputs that are too great to go through all chains."""
    if not is_chain(may, given, place, steps):
        return False
    fewest = fewest_steps(may, given, place)
    with_free = [
        fewest[reached] for reached in fewest
        if any(number not in given for number in may[reached])
    ]
    if with_free:
        return steps[-1][1] is not None and len(steps) == min(with_free)
    return steps[-1] == (max(fewest), None) and len(steps) == fewest[max(fewest)]


def apart(one, other):
    """At how many places two fillings differ."""
    return sum(ours != theirs for ours, theirs in zip(one, other))


def fewest_apart(may, given):
    """At how few places a weightiest filling can differ from a given one."""
    best = weightiest_of_all(may)
    return min(apart(given, rival) for rival in all_fillings(may) if filled(rival) == best)


def is_shortage(may, given, told):
    """Point 11, word by word."""
    if type(told) is not tuple or [type(part) for part in told] != [list, list]:
        return False
    places, referees = told
    left = given.count(None)
    if left == 0:
        return told == ([], [])
    return (
        all(0 <= place < len(may) for place in places)
        and places == sorted(set(places))
        and referees == sorted({number for place in places for number in may[place]})
        and len(places) - len(referees) == left
    )
