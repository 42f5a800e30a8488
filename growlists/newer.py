"""Whether an edition is newer than another one, and which members are new in it."""

from growlists.errors import NotNewer


def lost_name(elder, newer):
    """The first name of the elder edition that the other one lacks, None if it is newer."""
    for name in elder.names:
        for word in _words_of(elder, name):
            if word not in newer:
                return word
    for name in elder.sets:
        if name not in newer.sets:
            return name
    return None


def new_members(elder, newer):
    """The names of the members of which the elder edition knows no name."""
    lost = lost_name(elder, newer)
    if lost is not None:
        raise NotNewer(lost)
    return [name for name in newer.names if not any([word in elder for word in _words_of(newer, name)])]


def _words_of(edition, name):
    """The name of a member, and its aliases, ascending."""
    member = edition[name]
    return [member.name, *member.aliases]
