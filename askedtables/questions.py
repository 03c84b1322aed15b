"""Questions put to tables: their answers, their ways, what holds of their answers in all tables, their parts.

A choice gives some names a value each. It is kept as one whole number, four
bits for each name, so that cutting it down to fewer names is a single "&".
Several names are kept alike: the bits of all of them.
"""

# How many places a row of each table has.
PLACES = (1, 1, 1, 2, 2, 2, 3, 3)
MOST_ROWS = 128
MOST_HEADS = 4
MOST_PARTS = 10
HIGHEST_NAME = 7
HIGHEST_VALUE = 15
MOST_QUESTIONS = 8
# A mask of values has bit v for value v.
ALL_VALUES = 65535

# Where a question's heads and its parts begin.
HEADS_AT = 2
PARTS_AT = 6

# What stands where there is nothing to tell.
NOTHING = 255

NOT_AS_TOLD = -2
OTHER_HEADS = -3
MORE_THAN_MOST = -1


def cq_answers(n, most, q, rows):
    """How many answers q has in the rows, then their values in order; or a refusal."""
    question = read_question(q)
    table_rows = read_rows(n, rows)
    if most < 0 or question is None or table_rows is None:
        return [NOT_AS_TOLD]
    heads = question[0]
    counts = count_ways(question[1], table_rows, bits_of(heads))
    if len(counts) > most:
        return [MORE_THAN_MOST]
    told = [len(counts)]
    for answer in sorted([values_in(choice, heads) for choice in counts]):
        told.extend(answer)
    return told


def cq_ways(n, q, rows):
    """0, then how many ways q has into the rows; or a refusal."""
    question = read_question(q)
    table_rows = read_rows(n, rows)
    if question is None or table_rows is None:
        return [NOT_AS_TOLD]
    counts = count_ways(question[1], table_rows, 0)
    return [0, counts.get(0, 0)]


def cq_within(q, p):
    """1, then the first map of p into q, where each answer of q is always one of p; else 0; or a refusal."""
    question = read_question(q)
    wider = read_question(p)
    if question is None or wider is None:
        return [NOT_AS_TOLD]
    if len(question[0]) != len(wider[0]):
        return [OTHER_HEADS]
    rank = first_map(wider, question)
    if rank is None:
        return [0]
    told = [1] + [NOTHING] * (HIGHEST_NAME + 1)
    for name in standing_names(wider[1]):
        told[1 + name] = ranked_value(rank, name)
    return told


def cq_among(k, q, p):
    """1 where each answer of q is always one of some of the k questions p; else 0; or a refusal."""
    question = read_question(q)
    if not 0 <= k <= MOST_QUESTIONS or question is None:
        return [NOT_AS_TOLD]
    wider = [read_question(numbers) for numbers in p]
    if any([other is None for other in wider]):
        return [NOT_AS_TOLD]
    if any([len(other[0]) != len(question[0]) for other in wider]):
        return [OTHER_HEADS]
    # In q's own parts as rows, q's heads are an answer of q: that question of which they
    # are an answer there has a map into q, and then holds all of q's answers by itself.
    return [1 if any([first_map(other, question) is not None for other in wider]) else 0]


def cq_shows(q):
    """How many parts q has, then these as rows, their names as values; or a refusal."""
    question = read_question(q)
    if question is None:
        return [NOT_AS_TOLD]
    told = [len(question[1])]
    for part in question[1]:
        told.extend(filled([part[0]] + part[1], 4, 0))
    return filled(told, 1 + 4 * MOST_PARTS, 0)


def cq_fewest(q):
    """The mask of as few of q's parts as ask for the same as all of them; or a refusal."""
    question = read_question(q)
    if question is None:
        return [NOT_AS_TOLD]
    places = list(range(len(question[1])))
    # Some parts ask for the same as all if all have a map into them. Where none of them can
    # go any more they are as few as can be: two such choices of parts have maps into each
    # other that make no two parts one. Of these the mask is least if the last parts go first.
    for place in range(len(question[1]) - 1, -1, -1):
        others = [other for other in places if other != place]
        if first_map(question, (question[0], [question[1][other] for other in others])) is not None:
            places = others
    return [sum([1 << place for place in places])]


def cq_tree(q):
    """1, then for each of q's parts the one above it in the first tree that they make; else 0; or a refusal."""
    question = read_question(q)
    if question is None:
        return [NOT_AS_TOLD]
    names = [bits_of(part[1]) for part in question[1]]
    # A tree may hang from any of its parts; hung from part 0, its row comes ahead of all the others.
    waiting = [[0]]
    while waiting:
        above = waiting.pop()
        if len(above) == len(names):
            return [1] + filled(above, MOST_PARTS, NOTHING)
        # What is put there last is taken first, and that is to be the least.
        for upper in range(len(names) - 1, -1, -1):
            if goes_up(above + [upper]) and tops_once(above + [upper], names):
                waiting.append(above + [upper])
    return [0]


def cq_settled(n, q, rows):
    """1 where each row that fits one of q's parts has one beside it for each other part; else 0; or a refusal."""
    question = read_question(q)
    table_rows = read_rows(n, rows)
    if question is None or table_rows is None:
        return [NOT_AS_TOLD]
    fits = fits_of(question[1], table_rows)
    for bits, choices in fits:
        for other_bits, others in fits:
            if set([choice & other_bits for choice in choices]) != set([choice & bits for choice in others]):
                return [0]
    return [1]


def goes_up(above):
    """Whether the last part told does not come back to itself on its way up to part 0; those ahead of it do not."""
    last = len(above) - 1
    part = above[last]
    while 0 < part < last:
        part = above[part]
    return part != last


def tops_once(above, names):
    """Whether no name has two tops, parts that have it below none that has it: then its parts hang together."""
    topped = 0
    for part, upper in enumerate(above):
        tops = names[part] if part == 0 else names[part] & ~names[upper]
        if tops & topped:
            return False
        topped |= tops
    return True


def filled(numbers, length, behind):
    """The numbers, with this one behind them as often as makes them so many."""
    return numbers + [behind] * (length - len(numbers))


def read_question(q):
    """The heads and the parts of q, or None where q is no question."""
    if not 0 <= q[0] <= MOST_HEADS or not 1 <= q[1] <= MOST_PARTS:
        return None
    parts = read_fours(q, PARTS_AT, q[1], HIGHEST_NAME)
    if parts is None:
        return None
    heads = q[HEADS_AT:HEADS_AT + q[0]]
    standing = standing_names(parts)
    if not all([head in standing for head in heads]):
        return None
    return (heads, parts)


def read_rows(n, rows):
    """The n rows, or None where n or the rows are not as told."""
    if not 0 <= n <= MOST_ROWS:
        return None
    return read_fours(rows, 0, n, HIGHEST_VALUE)


def read_fours(numbers, start, count, highest):
    """So many tables, each with what stands at its places; None where one of them is not as told."""
    found = []
    for at in range(start, start + 4 * count, 4):
        table = numbers[at]
        if not 0 <= table < len(PLACES):
            return None
        at_places = numbers[at + 1:at + 1 + PLACES[table]]
        if not all([0 <= number <= highest for number in at_places]):
            return None
        found.append((table, at_places))
    return found


def standing_names(parts):
    """The names that stand in the parts, each once, from the least on."""
    standing = {}
    for part in parts:
        for name in part[1]:
            standing[name] = True
    return sorted(standing)


def first_map(question, other):
    """The rank of the first map of the question into the other one, or None where there is none.

    A map gives each of the question's names a name, so that its parts become parts of
    the other one, and its heads the other one's heads. So it is a way of the question
    into the other one's parts as rows, with the heads' values told ahead.
    """
    fits = fits_of(question[1], other[1])
    for head, image in zip(question[0], other[0]):
        fits.append((bits_of([head]), [chosen(head, image)]))
    ranks = {0: 0}
    for name, limits, needed in steps_through(standing_names(question[1]), fits, 0):
        ranks = rank_values(ranks, name, limits, needed)
    return ranks.get(0)


def rank_values(ranks, name, limits, needed):
    """The least ranks after the name too is given each value within the limits, cut down to the needed names."""
    grown = {}
    for choice in ranks:
        for value in values_within(limits, choice):
            cut = (choice | chosen(name, value)) & needed
            rank = ranks[choice] | ranked(name, value)
            grown[cut] = min(rank, grown.get(cut, rank))
    return grown


def count_ways(parts, rows, kept):
    """For each choice of the kept names' values that some way makes, how many ways make it."""
    counts = {0: 1}
    for name, limits, needed in steps_through(standing_names(parts), fits_of(parts, rows), kept):
        counts = count_values(counts, name, limits, needed)
    return counts


def count_values(counts, name, limits, needed):
    """The counts after the name too is given each value within the limits, cut down to the needed names."""
    grown = {}
    for choice in counts:
        for value in values_within(limits, choice):
            cut = (choice | chosen(name, value)) & needed
            grown[cut] = grown.get(cut, 0) + counts[choice]
    return grown


def steps_through(names, fits, kept):
    """The steps that give the names values one after the other: the name, its limits, the names needed behind it.

    What has been chosen for a name is forgotten once no part needs it any more, and
    the ways that agree in all else are gone on with together: a question may have too
    many ways to go through each.
    """
    steps = []
    done = 0
    for name in cheapest_order(names, fits, kept):
        own = bits_of([name])
        limits = [(bits & done, values_beside(choices, bits & done, name)) for bits, choices in fits if bits & own]
        done |= own
        steps.append((name, limits, still_needed(done, fits, kept)))
    return steps


def values_within(limits, choice):
    """The values that all the limits allow beside the choice."""
    allowed = ALL_VALUES
    for known, values in limits:
        allowed &= values.get(choice & known, 0)
    return values_of(allowed)


def values_of(allowed):
    """The values in a mask of values."""
    return [value for value in range(HIGHEST_VALUE + 1) if allowed & (1 << value)]


def values_beside(choices, known, name):
    """For each choice of the known names, a mask of the values that the name has beside it."""
    values = {}
    for choice in choices:
        beside = choice & known
        values[beside] = values.get(beside, 0) | (1 << value_in(choice, name))
    return values


def fits_of(parts, rows):
    """For each part its names' bits, and the choices that fit it."""
    return [(bits_of(part[1]), fitting_choices(part, rows)) for part in parts]


def fitting_choices(part, rows):
    """What each row that fits the part by itself makes of the part's names."""
    found = [choice_of(part[1], row[1]) for row in rows if row[0] == part[0]]
    return [choice for choice in found if choice is not None]


def choice_of(names, values):
    """The choice that gives the names these values, or None where one name would get two."""
    given = {}
    for name, value in zip(names, values):
        if given.setdefault(name, value) != value:
            return None
    return sum([chosen(name, given[name]) for name in given])


def cheapest_order(names, fits, kept):
    """The names in the order that leaves the fewest choices to go through, as far as can be told ahead.

    Of the orders that begin with the same names, in whatever order these come,
    only the cheapest is gone on with.
    """
    sized = [(name, bits_of([name]), how_many_values(name, fits)) for name in names]
    orders = {0: (0, [])}
    for length in range(len(names)):
        longer = {}
        for done in orders:
            choices = most_choices(still_needed(done, fits, kept), sized)
            for name, own, size in sized:
                if not done & own:
                    order = (orders[done][0] + choices * size, orders[done][1] + [name])
                    longer[done | own] = min(order, longer.get(done | own, order))
        orders = longer
    return orders[bits_of(names)][1]


def how_many_values(name, fits):
    """How many values the name can have, each part looked at by itself."""
    allowed = ALL_VALUES
    for bits, choices in fits:
        if bits & bits_of([name]):
            allowed &= values_beside(choices, 0, name).get(0, 0)
    return len(values_of(allowed))


def most_choices(needed, sized):
    """How many choices of the needed names' values there are at the most."""
    product = 1
    for name, own, size in sized:
        if needed & own:
            product *= size
    return product


def still_needed(done, fits, kept):
    """Of the names that are done those that are kept, or stand in a part with one that isn't done."""
    needed = kept
    for bits, choices in fits:
        if bits & done != bits:
            needed |= bits
    return needed & done


def chosen(name, value):
    """The choice that gives this one name this value."""
    return value << (4 * name)


def value_in(choice, name):
    """The value that the choice gives the name."""
    return (choice >> (4 * name)) & HIGHEST_VALUE


def ranked(name, value):
    """What the value adds to a rank: where two ways first differ, name by name, the lesser value ranks first."""
    return chosen(HIGHEST_NAME - name, value)


def ranked_value(rank, name):
    """The value that the name has in the way of this rank."""
    return value_in(rank, HIGHEST_NAME - name)


def values_in(choice, names):
    """The values that the choice gives the names, in the names' order."""
    return [value_in(choice, name) for name in names]


def bits_of(names):
    """The bits of all these names."""
    bits = 0
    for name in names:
        bits |= chosen(name, HIGHEST_VALUE)
    return bits
