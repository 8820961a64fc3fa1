"""Networks of reactions: what a text says, and what is asked of it."""

OUT_OF_RANGE = -2
IMPOSSIBLE = -5
FIRST_LINE_WRONG = -100
MOST_SUBSTANCES = 24
MOST_REACTIONS = 24
MOST_OF_ONE = 99
LONGEST_NAME = 16
LONGEST_NUMBER = 2
HIGHEST_AMOUNT = 4294967295
HIGHEST_DRAWN_AMOUNT = 1000
HIGHEST_RATE = 1000000


class WrongLine(Exception):

    def __init__(self, line):
        self.line = line


class Network:

    # The line is kept so that whatever refuses it can tell which one it is.
    def __init__(self):
        self.line = 0
        self.numbers = {}
        self.reactions = []


def check(text):
    try:
        network = read_network(text)
    except WrongLine as wrong:
        return [FIRST_LINE_WRONG - wrong.line]
    return [0, len(network.numbers), len(network.reactions), count_mixes(network)]


def empty(most, text):
    if most < 0:
        return [OUT_OF_RANGE]
    try:
        network = read_network(text)
    except WrongLine as wrong:
        return [FIRST_LINE_WRONG - wrong.line]
    found = least_empty_sets(network)
    return [len(found)] + found[:most]


def go(text, amounts, steps):
    try:
        network = read_network(text)
    except WrongLine as wrong:
        return [FIRST_LINE_WRONG - wrong.line] + amounts
    if not are_reactions(network, steps):
        return [IMPOSSIBLE] + amounts
    return do_steps(network, amounts, steps)


def draw(number, text, amounts, rates):
    try:
        network = read_network(text)
    except WrongLine as wrong:
        return [FIRST_LINE_WRONG - wrong.line]
    if max(amounts, default=0) > HIGHEST_DRAWN_AMOUNT or max(rates, default=0) > HIGHEST_RATE:
        return [OUT_OF_RANGE]
    return [draw_reaction(number, weigh_reactions(network, amounts, rates))]


def count_mixes(network):
    mixes = {}
    for reaction in network.reactions:
        mixes[reaction[0]] = True
        mixes[reaction[1]] = True
    return len(mixes)


# Whatever a set holds has a lower number than the set itself: going upwards, a
# set that holds none of those found before holds no lesser one at all.
def least_empty_sets(network):
    reactions = [(substance_bits(takes), substance_bits(gives)) for takes, gives in network.reactions]
    found = []
    for bits in range(1, 1 << len(network.numbers)):
        if not holds_one_of(bits, found) and stays_empty(bits, reactions):
            found.append(bits)
    return found


def substance_bits(side):
    bits = 0
    for substance, amount in enumerate(side):
        if amount > 0:
            bits |= 1 << substance
    return bits


def holds_one_of(bits, lesser):
    for other in lesser:
        if (bits & other) == other:
            return True
    return False


def stays_empty(bits, reactions):
    for takes, gives in reactions:
        if (bits & gives) != 0 and (bits & takes) == 0:
            return False
    return True


# All steps are looked at ahead of the first: where one isn't a reaction, none is done.
def are_reactions(network, steps):
    return all([step < len(network.reactions) for step in steps])


# Each step makes a list of its own, so that one which can't be done leaves the amounts before it.
def do_steps(network, amounts, steps):
    current = list(amounts)
    for done, step in enumerate(steps):
        reaction = network.reactions[step]
        if lacks_something(current, reaction[0]):
            return [done] + current
        changed = change_amounts(current, reaction)
        if max(changed, default=0) > HIGHEST_AMOUNT:
            return [IMPOSSIBLE] + current
        current = changed
    return [len(steps)] + current


def lacks_something(amounts, takes):
    return any([amount < taken for amount, taken in zip(amounts, takes)])


# The sides have room for more substances than there are: zip ends with the amounts.
def change_amounts(amounts, reaction):
    return [amount - taken + given for amount, taken, given in zip(amounts, reaction[0], reaction[1])]


# Where all weights are 0 nothing is above anything; else the last reaction at the
# latest is drawn, since number is below 2 ** 64.
def draw_reaction(number, weights):
    everything = sum(weights)
    weight_so_far = 0
    for reaction, weight in enumerate(weights):
        weight_so_far += weight
        if weight_so_far * 2 ** 64 > number * everything:
            return reaction
    return IMPOSSIBLE


def weigh_reactions(network, amounts, rates):
    weights = []
    for rate, reaction in zip(rates, network.reactions):
        weight = rate
        for amount, taken in zip(amounts, reaction[0]):
            weight *= count_ways(amount, taken)
        weights.append(weight)
    return weights


# Each division comes out even: behind it stand the ways to take one more than before.
# Where more are taken than there are, a factor of 0 is among them.
def count_ways(amount, taken):
    ways = 1
    for before in range(taken):
        ways = ways * (amount - before) // (before + 1)
    return ways


# A line feed behind the last line leaves an empty row there, which says nothing.
def read_network(text):
    network = Network()
    for number, row in enumerate(split_at(ord("\n"), text)):
        network.line = number
        read_line(network, row)
    return network


# No side may have a - in it, so a line has exactly one, that of its arrow;
# a < or > that isn't the arrow's is left to the sides, which refuse it.
def read_line(network, row):
    said = strip_blanks(split_at(ord("#"), row)[0])
    if len(said) == 0:
        return
    halves = split_at(ord("-"), said)
    if len(halves) != 2 or halves[1][:1] != [ord(">")]:
        raise WrongLine(network.line)
    both_ways = halves[0][-1:] == [ord("<")]
    left = read_side(network, halves[0][:-1] if both_ways else halves[0])
    right = read_side(network, halves[1][1:])
    add_reaction(network, left, right)
    if both_ways:
        add_reaction(network, right, left)


def add_reaction(network, takes, gives):
    if len(network.reactions) == MOST_REACTIONS:
        raise WrongLine(network.line)
    network.reactions.append((takes, gives))


# How many substances there are isn't known before the text's end: a side has
# room for the most there may be, so that equal mixes are equal tuples.
def read_side(network, part):
    amounts = [0] * MOST_SUBSTANCES
    side = strip_blanks(part)
    if side == [ord("0")]:
        return tuple(amounts)
    for piece in split_at(ord("+"), side):
        term = strip_blanks(piece)
        length = count_digits(term)
        substance = number_substance(network, strip_blanks(term[length:]))
        amounts[substance] += read_number(network, term[:length])
        if amounts[substance] > MOST_OF_ONE:
            raise WrongLine(network.line)
    return tuple(amounts)


def read_number(network, digits):
    if len(digits) == 0:
        return 1
    if len(digits) > LONGEST_NUMBER or digits[0] == ord("0"):
        raise WrongLine(network.line)
    value = 0
    for digit in digits:
        value = value * 10 + digit - ord("0")
    return value


def number_substance(network, name):
    if not is_name(name):
        raise WrongLine(network.line)
    key = tuple(name)
    if key not in network.numbers:
        if len(network.numbers) == MOST_SUBSTANCES:
            raise WrongLine(network.line)
        network.numbers[key] = len(network.numbers)
    return network.numbers[key]


def is_name(name):
    if len(name) == 0 or len(name) > LONGEST_NAME or not is_letter(name[0]):
        return False
    for byte in name:
        if not (is_letter(byte) or is_digit(byte) or byte == ord("_")):
            return False
    return True


def is_letter(byte):
    return ord("A") <= byte <= ord("Z") or ord("a") <= byte <= ord("z")


def is_digit(byte):
    return ord("0") <= byte <= ord("9")


def count_digits(row):
    count = 0
    while count < len(row) and is_digit(row[count]):
        count += 1
    return count


def strip_blanks(row):
    start = 0
    while start < len(row) and row[start] == ord(" "):
        start += 1
    end = len(row)
    while end > start and row[end - 1] == ord(" "):
        end -= 1
    return row[start:end]


# The pieces are copies: what was handed in stays as it was.
def split_at(sign, row):
    pieces = []
    start = 0
    for place, byte in enumerate(row):
        if byte == sign:
            pieces.append(row[start:place])
            start = place + 1
    pieces.append(row[start:])
    return pieces
