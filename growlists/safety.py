"""Which of some kinds, and which fallbacks, leave the answers of callers as they are."""

from growlists.keeping import keeps
from growlists.newer import new_members
from growlists.pairs import check_given, is_list_of_kinds


def greatest(elder, newer, kinds, *, names=None, fallbacks=None):
    """The greatest choices of kinds that are kept."""
    check_given(elder, newer, kinds, names, fallbacks)
    safe = []
    for places in _choices_of(len(kinds)):
        chosen = [kinds[place] for place in places]
        if is_list_of_kinds(chosen) and keeps(elder, newer, chosen, names, fallbacks):
            safe.append(places)
    return [[kinds[place] for place in places] for places in safe if not _is_outdone(places, safe)]


def safe_fallbacks(elder, newer, kinds, *, names=None):
    """The fallbacks of all new members with which the kinds are kept."""
    check_given(elder, newer, kinds, names, None)
    safe = [{}] if keeps(elder, newer, kinds, names, None) else []
    # Each entry lets callers ask for more, so fallbacks of some new members that are not safe never become safe.
    for name in new_members(elder, newer):
        trials = [{**choice, name: fallback} for choice in safe for fallback in elder.names]
        safe = [trial for trial in trials if keeps(elder, newer, kinds, names, trial)]
    return safe


def _choices_of(many):
    """All choices of so many places, as lists, in ascending order."""
    choices = [[]]
    for place in range(many):
        choices.extend([[*choice, place] for choice in list(choices)])
    return sorted(choices)


def _is_outdone(places, others):
    """Whether these places, and more, are among the others."""
    return any([len(other) > len(places) and all([place in other for place in places]) for other in others])
