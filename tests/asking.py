"""What the tests share: telling questions and rows, and slow answers to compare with."""

import itertools

PLACES = (1, 1, 1, 2, 2, 2, 3, 3)


class Untouched(list):
    """A list that fails the test when anything in it is changed, even for a while."""

    def refuse(self, *args, **kwargs):
        raise AssertionError("what is handed in was changed")

    __setitem__ = __delitem__ = __iadd__ = __imul__ = refuse
    append = extend = insert = pop = remove = clear = sort = reverse = refuse


def filled(numbers, length, behind):
    return list(numbers) + [behind] * (length - len(numbers))


def question(heads, parts, behind=0):
    """The 46 numbers of a question; behind is put wherever nothing is to be looked at."""
    numbers = [len(heads), len(parts)] + filled(heads, 4, behind)
    for part in parts:
        numbers += filled(part, 4, behind)
    return Untouched(filled(numbers, 46, behind))


def told_rows(rows, behind=0):
    """The numbers of the rows, four each."""
    numbers = []
    for row in rows:
        numbers += filled(row, 4, behind)
    return Untouched(numbers)


def with_number(numbers, place, number):
    """The same numbers but for one."""
    return Untouched(numbers[:place] + [number] + numbers[place + 1:])


def wrong_questions():
    """What is no question, each with why."""
    right = question([0, 1], [(0, 0), (3, 0, 1)])
    headless = question([], [(0, 0), (3, 0, 1)])
    wrong = []
    for heads in (-2147483648, -3, -1, 5, 6, 255, 2147483647):
        wrong.append((f"{heads} heads", with_number(right, 0, heads)))
    for parts in (-2147483648, -1, 0, 11, 255, 2147483647):
        wrong.append((f"{parts} parts", with_number(right, 1, parts)))
        wrong.append((f"{parts} parts, no heads", with_number(headless, 1, parts)))
    for table in (8, 9, 255):
        wrong.append((f"table {table} in the first part", with_number(right, 6, table)))
        wrong.append((f"table {table} in the second part", with_number(right, 10, table)))
        wrong.append((f"table {table} in the tenth part", question([0], [(0, 0)] * 9 + [(table, 0)])))
    for name in (8, 15, 16, 255):
        wrong.append((f"name {name} at the one place", with_number(headless, 7, name)))
        wrong.append((f"name {name} at the first place", with_number(headless, 11, name)))
        wrong.append((f"name {name} at the second place", with_number(headless, 12, name)))
        wrong.append((f"name {name} at the third place", question([], [(6, 0, 1, name)])))
        wrong.append((f"name {name} in the tenth part", question([0], [(0, 0)] * 9 + [(0, name)])))
        wrong.append((f"name {name}, a head too", question([name], [(0, name)])))
    for head in (2, 7, 8, 255):
        wrong.append((f"first head {head} in no part", with_number(right, 2, head)))
        wrong.append((f"second head {head} in no part", with_number(right, 3, head)))
    wrong.append(("fourth head in no part", question([0, 0, 0, 1], [(0, 0)])))
    wrong.append(("a head behind a part's places only", question([1], [(0, 0, 1, 1), (0, 2, 1, 1)])))
    wrong.append(("a head behind the parts only", with_number(question([1], [(0, 0), (0, 1)]), 1, 1)))
    return wrong


def wrong_rows():
    """n and rows that are not as told, each with why; the question of right rows would be answered."""
    wrong = [(f"n {n}", n, Untouched()) for n in (-2147483648, -1, 129, 2147483647)]
    for table in (8, 255):
        wrong.append((f"a row of table {table}", 2, told_rows([(0, 4), (table, 0, 0)])))
    for value in (16, 17, 255):
        for row in ((1, value), (3, value, 0), (3, 0, value), (7, value, 0, 0), (7, 0, value, 0), (7, 0, 0, value)):
            wrong.append((f"{row} first", 2, told_rows([row, (0, 4)])))
            wrong.append((f"{row} last", 128, told_rows([(0, 4)] * 127 + [row])))
    return wrong


def slow_ways(parts, rows):
    """All ways, each as a dict from names to values, by trying every row for every part."""
    ways = [{}]
    for part in parts:
        grown = []
        for way in ways:
            for row in set(rows):
                if row[0] == part[0]:
                    longer = dict(way)
                    pairs = zip(part[1:], row[1:])
                    if all(longer.setdefault(name, value) == value for name, value in pairs):
                        grown.append(longer)
        ways = grown
    return [dict(way) for way in {tuple(sorted(way.items())) for way in ways}]


def slow_answers(heads, parts, rows):
    """All answers in order, as tuples."""
    return sorted({tuple(way[head] for head in heads) for way in slow_ways(parts, rows)})


def slow_maps(heads, parts, other_heads, other_parts):
    """All maps of a question into another one, each as its row of eight, in order."""
    maps = slow_ways(parts, other_parts)
    maps = [way for way in maps if [way[head] for head in heads] == list(other_heads)]
    return sorted([way.get(name, 255) for name in range(8)] for way in maps)


def way_up(above, part):
    """The parts from this one up to the root, or None where one never gets there."""
    way = [part]
    while above[part] != part:
        part = above[part]
        if part in way:
            return None
        way.append(part)
    return way


def way_between(up, other_up):
    """The parts on the way between two, told by their ways up: only the lowest of those that both have is on it."""
    both = [part for part in up if part in other_up]
    return [part for part in up + other_up if part not in both] + both[:1]


def makes_tree(parts, above):
    """Whether the parts hang as a tree with these above them, by the words of the promise."""
    ups = [way_up(above, part) for part in range(len(parts))]
    if None in ups or len({up[-1] for up in ups}) != 1:
        return False
    for name in range(8):
        having = [place for place, part in enumerate(parts) if name in part[1:]]
        for part, other in itertools.combinations(having, 2):
            if not set(way_between(ups[part], ups[other])) <= set(having):
                return False
    return True


def slow_tree(parts):
    """The first row of parts above that makes a tree, by trying each; None where none does."""
    for above in itertools.product(range(len(parts)), repeat=len(parts)):
        if makes_tree(parts, above):
            return list(above)
    return None


def fitting(part, rows):
    """What the rows that fit the part make of its names, each as a dict."""
    return slow_ways([part], rows)


def slow_settled(parts, rows):
    for part, other in itertools.permutations(parts, 2):
        shared = set(part[1:]) & set(other[1:])
        for way in fitting(part, rows):
            if not any(all(way[name] == beside[name] for name in shared) for beside in fitting(other, rows)):
                return 0
    return 1


def some_question(source, tables, names, most_parts, heads):
    """Heads and parts of a question over these tables."""
    parts = []
    for count in range(source.randint(1, most_parts)):
        table = source.choice(tables)
        parts.append((table,) + tuple(source.randrange(names) for place in range(PLACES[table])))
    standing = sorted({name for part in parts for name in part[1:]})
    return [source.choice(standing) for count in range(heads)], parts


def some_pair(source):
    """Two questions with as many heads, alike enough for the one to be within the other now and then."""
    tables = source.choice(((3,), (0, 3), (0, 3, 6), (5, 7), (1, 2, 4)))
    heads = source.choice((0, 0, 1, 1, 2, 4))
    return [some_question(source, tables, source.randint(1, 5), most_parts, heads) for most_parts in (8, 4)]


def some_part(source, names):
    table = source.randrange(8)
    return (table,) + tuple(source.randrange(names) for place in range(PLACES[table]))


def some_row(source, tables, values):
    table = source.choice(tables)
    return (table,) + tuple(source.randrange(values) for place in range(PLACES[table]))


def some_case(source):
    """Heads, parts and rows, small enough for the slow answer; source is a seeded random.Random."""
    parts = [some_part(source, source.randint(1, 8)) for count in range(source.randint(1, 5))]
    standing = sorted({name for part in parts for name in part[1:]})
    heads = [source.choice(standing) for count in range(source.randint(0, 4))]
    tables = sorted({part[0] for part in parts}) + [source.randrange(8)]
    rows = [some_row(source, tables, source.choice((1, 2, 3, 4, 16))) for count in range(source.randint(0, 24))]
    return heads, parts, rows
