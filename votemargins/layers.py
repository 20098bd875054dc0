"""What walls and bars are made of: point [11].

A layer is the ascending tuple of sums for one number of votes.
"""

from votemargins.values import is_integer

# Bits of one integer; so many keep it below 900 digits.
BLOCK = 2000


def layers_of(game, many):
    """A layer for each number of votes from 0 to many, in them what may be reached, put up where that does no harm."""
    columns = strongest(list(zip(*game.rows)))
    layers = [((0,) * game.examples,)]
    for used in range(1, many + 1):
        layers.append(next_layer(layers[-1], columns, used, many - used))
    return tuple(layers)


def strongest(columns):
    """The columns without each that another one is no less than anywhere."""
    found = []
    for column in columns:
        if not any([is_covered(column, other) for other in found]):
            found = [other for other in found if not is_covered(other, column)] + [column]
    return found


def is_covered(numbers, others):
    """Tell whether none of the numbers is more than the other one at its place."""
    return all([number <= other for number, other in zip(numbers, others)])


def next_layer(layer, columns, used, left):
    """The layer behind this one; with it so many votes are used and so many left."""
    found = {}
    for sums in layer:
        for column in columns:
            found[put_up([number + sign for number, sign in zip(sums, column)], used, left)] = True
    return tuple(sorted(found))


def put_up(numbers, used, left):
    """The numbers as sums, none less than they are, and as often as can be the same as others."""
    least = min(numbers)
    if least <= -left:
        # This number stays below 1 whatever comes, so the others do not matter: none can be more than used.
        place = numbers.index(least)
        return tuple([-left if other == place else used for other in range(len(numbers))])
    # A number above left stays at 1 or more whatever comes.
    return tuple([used if number > left else number for number in numbers])


def layers_hold(game, many, low, value):
    """Tell whether value is layers for 0 to many such that no votes of sum low to many are right on all examples."""
    if not isinstance(value, tuple) or len(value) != many + 1:
        return False
    if not all([is_layer(layer, game.examples) for layer in value]):
        return False
    if not any([min(sums) >= 0 for sums in value[0]]):
        return False
    if not all([is_below_one(layer) for layer in value[low:]]):
        return False
    columns = strongest(list(zip(*game.rows)))
    return all([leads_on(layer, value[used + 1], columns) for used, layer in enumerate(value[:many])])


def is_layer(value, length):
    """Tell whether value is an ascending tuple of sums of this length."""
    if not isinstance(value, tuple) or not all([are_sums(sums, length) for sums in value]):
        return False
    return all([sums < other for sums, other in zip(value, value[1:])])


def are_sums(value, length):
    """Tell whether value is a tuple of so many integers."""
    return isinstance(value, tuple) and len(value) == length and all([is_integer(number) for number in value])


def is_below_one(layer):
    """Tell whether all sums of the layer have a number that is less than 1."""
    return all([min(sums) < 1 for sums in layer])


def leads_on(layer, following, columns):
    """Tell whether the following layer has for all sums of this one and each column sums that are no less."""
    there = {sums: True for sums in following}
    wanted = {}
    for sums in layer:
        for column in columns:
            reached = tuple([number + sign for number, sign in zip(sums, column)])
            if reached not in there:
                wanted[reached] = True
    left = list(wanted)
    for start in range(0, len(following), BLOCK):
        if left:
            left = not_covered(left, following[start:start + BLOCK])
    return not left


def not_covered(wanted, block):
    """Those of the wanted sums that none of the block are no less than."""
    tables = [marks_from(asked, had) for asked, had in zip(list(zip(*wanted)), list(zip(*block)))]
    left = []
    for sums in wanted:
        marks = -1
        for table, number in zip(tables, sums):
            marks &= table[number]
        if marks == 0:
            left.append(sums)
    return left


def marks_from(asked, had):
    """For each asked number a bit for each place of had that has at least this number, in one integer."""
    places = {}
    for place, number in enumerate(had):
        places[number] = places.get(number, 0) | 1 << place
    marks = 0
    table = {}
    for number in reversed(sorted(set(asked + had))):
        marks |= places.get(number, 0)
        table[number] = marks
    return table
