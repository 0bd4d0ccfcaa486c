"""Policies [103] and all rounds that can be held [104]."""

from nearhelp.errors import InvalidPolicy, TooMany

POLICIES = ("first", "last", "turned", "few")
MOST_READY = 12


def order_by(run, policy):
    """The order of all meetings that a policy makes now."""
    if policy not in POLICIES:
        raise InvalidPolicy(policy)
    order = list(range(len(run.held())))
    if policy == "last":
        return list(reversed(order))
    if policy == "turned":
        start = run.rounds % len(order)
        return order[start:] + order[:start]
    if policy == "few":
        return [meeting for _, meeting in sorted([(_due_ends(run, meeting), meeting) for meeting in order])]
    return order


def play(run, policy):
    """Hold greedy rounds by a policy until no meeting is ready."""
    chosen = run.greedy(order_by(run, policy))
    while chosen:
        run.hold(chosen)
        chosen = run.greedy(order_by(run, policy))
    return run.held()


def all_rounds(run):
    """The ascending list of all rounds that can be held now."""
    ready = run.ready()
    if len(ready) > MOST_READY:
        raise TooMany(len(ready))
    hands = {meeting: [hand for hand, _ in run.net.ends(meeting)] for meeting in ready}
    rounds = [[]] if ready else []
    for at, meeting in enumerate(ready):
        taken = [chosen + [meeting] for chosen in rounds if not _is_beside(hands, chosen, meeting)]
        # A meeting is left out only where one that is taken may have a common hand with it.
        beside = ready[at + 1:] if taken else []
        rounds = [chosen for chosen in rounds if _is_beside(hands, chosen + beside, meeting)] + taken
    return sorted([chosen for chosen in rounds if all([_is_beside(hands, chosen, meeting) for meeting in ready])])


def _is_beside(hands, chosen, meeting):
    """Whether a meeting has a common hand with one of those chosen, or is one of them."""
    return any([hand in hands[other] for other in chosen for hand in hands[meeting]])


def _due_ends(run, meeting):
    """The number of ends that are due at all hands of a meeting."""
    return sum([len(run.state(hand)[1]) for hand, _ in run.net.ends(meeting)])
