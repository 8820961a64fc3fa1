"""Networks made at random, and the texts that tell them."""


def made_side(source, names, highest):
    count = source.choice((0, 1, 1, 1, 2, 2, 3))
    return {name: source.randint(1, highest) for name in source.sample(names, min(count, len(names)))}


def made_network(source, highest, most_reactions=24):
    """Reactions as (takes, gives), each a dict of what it names."""
    names = ["s%d" % k for k in range(source.choice((1, 2, 3, 4, 8, 24)))]
    source.shuffle(names)
    count = source.randint(0, most_reactions)
    return [(made_side(source, names, highest), made_side(source, names, highest)) for k in range(count)]


def write_term(source, name, many):
    if many > 1 and source.random() < 0.2:
        part = source.randint(1, many - 1)
        return write_term(source, name, part) + "+" + write_term(source, name, many - part)
    number = "" if many == 1 and source.random() < 0.5 else str(many)
    return number + " " * source.randint(0, 1) + name


def write_side(source, side):
    return " + ".join(write_term(source, name, many) for name, many in side.items()) or "0"


def write_text(source, network):
    """Neighbours that are one another's way back are told as one line, now and then."""
    rows = []
    left = list(network)
    while left:
        takes, gives = left.pop(0)
        arrow = " -> "
        if left and left[0] == (gives, takes) and source.random() < 0.8:
            left.pop(0)
            arrow = " <-> "
        rows.append(write_side(source, takes) + arrow + write_side(source, gives))
    return "\n".join(rows)


def with_ways_back(source, network):
    more = []
    for takes, gives in network:
        more.append((takes, gives))
        if source.random() < 0.3:
            more.append((gives, takes))
    return more[:24]


def names_of(network):
    """As they come in the text."""
    return list(dict.fromkeys(name for sides in network for side in sides for name in side))
