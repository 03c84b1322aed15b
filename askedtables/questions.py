"""Questions put to tables: what their answers are, and how many ways they have.

A choice gives some names a value each. It is kept as one whole number, four
bits for each name, so that cutting it down to fewer names is a single "&".
Several names are kept alike: the bits of all of them.
"""

# How many places a row of each table has.
PLACES = (1, 1, 1, 2, 2, 2, 3, 3)
MOST_ROWS = 128
MOST_HEADS = 4
MOST_PARTS = 10
HIGHEST_NAME = 7
HIGHEST_VALUE = 15
# A mask of values has bit v for value v.
ALL_VALUES = 65535

# Where a question's heads and its parts begin.
HEADS_AT = 2
PARTS_AT = 6

NOT_AS_TOLD = -2
MORE_THAN_MOST = -1


def cq_answers(n, most, q, rows):
    """How many answers q has in the rows, then their values in order; or a refusal."""
    question = read_question(q)
    table_rows = read_rows(n, rows)
    if most < 0 or question is None or table_rows is None:
        return [NOT_AS_TOLD]
    heads = question[0]
    counts = count_ways(question[1], table_rows, bits_of(heads))
    if len(counts) > most:
        return [MORE_THAN_MOST]
    told = [len(counts)]
    for answer in sorted([values_in(choice, heads) for choice in counts]):
        told.extend(answer)
    return told


def cq_ways(n, q, rows):
    """0, then how many ways q has into the rows; or a refusal."""
    question = read_question(q)
    table_rows = read_rows(n, rows)
    if question is None or table_rows is None:
        return [NOT_AS_TOLD]
    counts = count_ways(question[1], table_rows, 0)
    return [0, counts.get(0, 0)]


def read_question(q):
    """The heads and the parts of q, or None where q is no question."""
    if not 0 <= q[0] <= MOST_HEADS or not 1 <= q[1] <= MOST_PARTS:
        return None
    parts = read_fours(q, PARTS_AT, q[1], HIGHEST_NAME)
    if parts is None:
        return None
    heads = q[HEADS_AT:HEADS_AT + q[0]]
    standing = standing_names(parts)
    if not all([head in standing for head in heads]):
        return None
    return (heads, parts)


def read_rows(n, rows):
    """The n rows, or None where n or the rows are not as told."""
    if not 0 <= n <= MOST_ROWS:
        return None
    return read_fours(rows, 0, n, HIGHEST_VALUE)


def read_fours(numbers, start, count, highest):
    """So many tables, each with what stands at its places; None where one of them is not as told."""
    found = []
    for at in range(start, start + 4 * count, 4):
        table = numbers[at]
        if not 0 <= table < len(PLACES):
            return None
        at_places = numbers[at + 1:at + 1 + PLACES[table]]
        if not all([0 <= number <= highest for number in at_places]):
            return None
        found.append((table, at_places))
    return found


def standing_names(parts):
    """The names that stand in the parts, each once, from the least on."""
    standing = {}
    for part in parts:
        for name in part[1]:
            standing[name] = True
    return sorted(standing)


def count_ways(parts, rows, kept):
    """For each choice of the kept names' values that some way makes, how many ways make it.

    The names are given values one after the other. What has been chosen for a name
    is forgotten once no part needs it any more, and the ways that agree in all else
    are counted together: a question may have too many ways to go through each.
    """
    fits = [(bits_of(part[1]), fitting_choices(part, rows)) for part in parts]
    counts = {0: 1}
    done = 0
    for name in cheapest_order(standing_names(parts), fits, kept):
        own = bits_of([name])
        limits = [(bits & done, values_beside(choices, bits & done, name)) for bits, choices in fits if bits & own]
        done |= own
        counts = give_values(counts, name, limits, still_needed(done, fits, kept))
    return counts


def give_values(counts, name, limits, needed):
    """The counts after the name too is given each value within the limits, cut down to the needed names."""
    grown = {}
    for choice in counts:
        allowed = ALL_VALUES
        for known, values in limits:
            allowed &= values.get(choice & known, 0)
        for value in range(HIGHEST_VALUE + 1):
            if allowed & (1 << value):
                cut = (choice | chosen(name, value)) & needed
                grown[cut] = grown.get(cut, 0) + counts[choice]
    return grown


def values_beside(choices, known, name):
    """For each choice of the known names, a mask of the values that the name has beside it."""
    values = {}
    for choice in choices:
        beside = choice & known
        values[beside] = values.get(beside, 0) | (1 << value_in(choice, name))
    return values


def fitting_choices(part, rows):
    """What each row that fits the part by itself makes of the part's names."""
    found = [choice_of(part[1], row[1]) for row in rows if row[0] == part[0]]
    return [choice for choice in found if choice is not None]


def choice_of(names, values):
    """The choice that gives the names these values, or None where one name would get two."""
    given = {}
    for name, value in zip(names, values):
        if given.setdefault(name, value) != value:
            return None
    return sum([chosen(name, given[name]) for name in given])


def cheapest_order(names, fits, kept):
    """The names in the order that leaves the fewest choices to go through, as far as can be told ahead.

    Of the orders that begin with the same names, in whatever order these come,
    only the cheapest is gone on with.
    """
    sized = [(name, bits_of([name]), how_many_values(name, fits)) for name in names]
    orders = {0: (0, [])}
    for length in range(len(names)):
        longer = {}
        for done in orders:
            choices = most_choices(still_needed(done, fits, kept), sized)
            for name, own, size in sized:
                if not done & own:
                    order = (orders[done][0] + choices * size, orders[done][1] + [name])
                    longer[done | own] = min(order, longer.get(done | own, order))
        orders = longer
    return orders[bits_of(names)][1]


def how_many_values(name, fits):
    """How many values the name can have, each part looked at by itself."""
    allowed = ALL_VALUES
    for bits, choices in fits:
        if bits & bits_of([name]):
            allowed &= values_beside(choices, 0, name).get(0, 0)
    return len([value for value in range(HIGHEST_VALUE + 1) if allowed & (1 << value)])


def most_choices(needed, sized):
    """How many choices of the needed names' values there are at the most."""
    product = 1
    for name, own, size in sized:
        if needed & own:
            product *= size
    return product


def still_needed(done, fits, kept):
    """Of the names that are done those that are kept, or stand in a part with one that isn't done."""
    needed = kept
    for bits, choices in fits:
        if bits & done != bits:
            needed |= bits
    return needed & done


def chosen(name, value):
    """The choice that gives this one name this value."""
    return value << (4 * name)


def value_in(choice, name):
    """The value that the choice gives the name."""
    return (choice >> (4 * name)) & HIGHEST_VALUE


def values_in(choice, names):
    """The values that the choice gives the names, in the names' order."""
    return [value_in(choice, name) for name in names]


def bits_of(names):
    """The bits of all these names."""
    bits = 0
    for name in names:
        bits |= chosen(name, HIGHEST_VALUE)
    return bits
