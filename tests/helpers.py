"""What several tests need."""


def make(run=0, number=0, asker=-1, house=0, count=0, begin=0, end=0, joined=False):
    """A piece, a top of run 0 where nothing else is said."""
    return (run, number, asker, house, count, begin, end, joined)


def clash_by_words(one, other):
    """What point 5 says of two pieces, apart from the program."""
    if one == other:
        return False
    return (one[0], one[1]) == (other[0], other[1]) or (one[3], one[4]) == (other[3], other[4])


def least_by_words(heap):
    """The least rising pair of clashing pieces by trying all pairs, or None."""
    pairs = []
    for one in heap:
        for other in heap:
            if one < other and clash_by_words(one, other):
                pairs.append((one, other))
    return min(pairs, default=None)


def random_piece(chance, runs=3, numbers=20, houses=3, counts=20):
    """A piece within small bounds, so that clashes and like pieces come about."""
    number = chance.randrange(numbers)
    asker = chance.choice([-1] + [k for k in range(numbers) if k != number])
    begin = chance.randrange(-30, 30)
    joined = asker != -1 and chance.random() < 0.5
    place = (chance.randrange(houses), chance.randrange(counts))
    return (chance.randrange(runs), number, asker, *place, begin, begin + chance.randrange(9), joined)


def random_heap(chance, most=12, **bounds):
    """A heap of such pieces, some told several times, in any order."""
    pieces = [random_piece(chance, **bounds) for _ in range(chance.randrange(most + 1))]
    heap = pieces + [chance.choice(pieces) for _ in range(chance.randrange(5)) if pieces]
    chance.shuffle(heap)
    return heap


def sixty_pieces():
    """Sixty unlike pieces without a clash, rising: six runs of ten, each house but house 7 among them."""
    pieces = []
    for at in range(60):
        run, number = divmod(at, 10)
        asker = number - 1 if number else -1
        joined = number > 0 and at % 3 == 0
        pieces.append((run, number, asker, at % 7, at, at - 30, at, joined))
    return pieces


# What is no whole number, though Python holds some of it to equal one.
NO_NUMBERS = (
    True, False, None, "", "0", "1", "a", (), (0,), (1,), (0, 1), [], [0], [1], [[]], ((),), (None,), [True],
)

# Whole numbers that are no run, no house and no number of a piece anywhere.
FAR_NUMBERS = (-1, -2, -100, 100, 101, 10 ** 39, 10 ** 40 - 1, -10 ** 39, -10 ** 40 + 1)


def nested(depth, kind=tuple):
    """A tuple or a list within another one, and so on."""
    thing = kind()
    for _ in range(depth - 1):
        thing = kind([thing])
    return thing


def counted(pieces):
    """The pieces with a count for each, so that none clash by house and count."""
    return [piece[:4] + (count,) + piece[5:] for count, piece in enumerate(pieces)]


def asking(askers, run=0):
    """Pieces of a run, by a dict from their numbers to their askers; other runs' get other houses."""
    return [make(run, number, asker, house=run % 8, count=number) for number, asker in askers.items()]


def piece(number, asker, begin, end, joined=True, run=0):
    """A piece that is joined unless it is a top or it is said; the house hangs on the run, the count is the number."""
    return make(run, number, asker, run % 8, number, begin, end, joined and asker != -1)


def beside(run=1):
    """A run that isn't right, with the same numbers as others, and with far counts."""
    pieces = [piece(0, -1, 3, 4, run=run), piece(1, 0, -9, 99, run=run), piece(2, 50, 0, 7, run=run)]
    return [one[:4] + (900 + one[4],) + one[5:] for one in pieces]


def retold(chance, heap):
    """The heap told again: in another order, some pieces several times."""
    told = list(heap) + [chance.choice(heap) for _ in range(chance.randrange(9)) if heap]
    chance.shuffle(told)
    return told


def spoil(told):
    """Change what was told, as far down as it can be changed."""
    parts = list(told.values()) if isinstance(told, dict) else told
    if isinstance(told, (dict, list, tuple)):
        for part in parts:
            spoil(part)
    if isinstance(told, dict):
        told.clear()
        told["mine"] = "mine"
    if isinstance(told, list):
        told[:] = ["mine"]


def right_run(chance, run=0, many=8, long=12, houses=4, top=0.0):
    """A right run, told by one clock, with many a time that is like another one."""
    numbers = chance.sample(range(100), many)
    begin = chance.randrange(-20, 20)
    end = begin if chance.random() < top else begin + chance.randrange(long + 1)
    pieces = [make(run, numbers[0], house=chance.randrange(houses), begin=begin, end=end)]
    for number in numbers[1:]:
        asker = chance.choice(pieces)
        joined = chance.random() < 0.75
        low = chance.randint(asker[5], asker[6])
        high = chance.randint(low, asker[6]) if joined else low + chance.randrange(long)
        pieces.append(make(run, number, asker[1], chance.randrange(houses), 0, low, high, joined))
    return counted(pieces)


def moved(piece, by):
    """The piece with its begin and end moved."""
    return piece[:5] + (piece[5] + by, piece[6] + by, piece[7])


def clocked_heap(chance, runs=2, many=5, houses=4, wild=0.1):
    """Right runs, each house's pieces told by a clock of its own, now and then one at a wild time."""
    clocks = [chance.randrange(-90, 90) for _ in range(houses)]
    heap = []
    for run in range(runs):
        for piece in right_run(chance, run, chance.randrange(1, many + 1), houses=houses):
            by = chance.randrange(-9, 9) if chance.random() < wild else 0
            heap.append(moved(piece, clocks[piece[3]] + by))
    return counted(heap)


def within_by_words(piece, asker):
    """What point 9 says of a piece and its asker, apart from the program."""
    if piece[5] < asker[5]:
        return False
    return piece[6] <= asker[6] if piece[7] else piece[5] <= asker[6]


def asked_pairs(heap):
    """Each piece whose asker is in the heap, with it."""
    pieces = sorted(set(heap))
    return [(piece, asker) for piece in pieces for asker in pieces if asker[:2] == (piece[0], piece[2])]


def kept_by_words(heap, shifts):
    """Whether by these shifts, a dict, each piece lies within its asker."""
    for piece, asker in asked_pairs(heap):
        if not within_by_words(moved(piece, shifts[piece[3]]), moved(asker, shifts[asker[3]])):
            return False
    return True


def ties_by_words(heap):
    """The ties of a heap: a dict from pairs of houses to the least most."""
    brought = []
    for piece, asker in asked_pairs(heap):
        brought.append((piece[3], asker[3], piece[5] - asker[5]))
        if piece[7]:
            brought.append((asker[3], piece[3], asker[6] - piece[6]))
        else:
            brought.append((asker[3], piece[3], asker[6] - piece[5]))
    ties = {}
    for y, x, most in sorted(brought, reverse=True):
        ties[(y, x)] = most
    return ties


def come_to(ties, houses):
    """To what the ties from house to house come; a KeyError where one lacks."""
    return sum(ties[pair] for pair in zip(houses, houses[1:]))


def mosts_by_steps(heap, one):
    """The mosts of all houses' shifts less that of one, of a heap with shifts: a dict."""
    ties = ties_by_words(heap)
    mosts = {one: 0}
    for _ in range(8):
        for (y, x), most in ties.items():
            if y in mosts:
                mosts[x] = min(mosts.get(x, mosts[y] + most), mosts[y] + most)
    return mosts


def askers_of(heap, run):
    """The numbers of a run's pieces: a dict to their askers."""
    return {piece[1]: piece[2] for piece in heap if piece[0] == run}


def up_by_words(askers, number):
    """The numbers up from one, and whether a ring is come to."""
    way = [number]
    while askers.get(way[-1], -1) != -1:
        if askers[way[-1]] in way:
            return way, True
        way.append(askers[way[-1]])
    return way, False


def whole_by_words(askers):
    """Whether a run is whole, by its askers."""
    ways = [up_by_words(askers, number) for number in askers]
    tops = {way[-1] for way, _ in ways}
    return not any(ring for _, ring in ways) and len(tops) == 1 and tops <= set(askers)


def whole_run(chance, run=0, many=8, houses=2, joined=0.5):
    """A whole run, few of whose pieces are unlike in house and joined; times are all noughts."""
    numbers = chance.sample(range(100), many)
    pieces = [make(run, numbers[0], house=chance.randrange(houses))]
    for at in range(1, many):
        asker = numbers[chance.randrange(at)]
        pieces.append(make(run, numbers[at], asker, chance.randrange(houses), joined=chance.random() < joined))
    return pieces


def renumbered(chance, pieces, run):
    """The same pieces with other numbers, as another run."""
    numbers = dict(zip(sorted(piece[1] for piece in pieces), chance.sample(range(100), len(pieces))))
    numbers[-1] = -1
    return [(run, numbers[piece[1]], numbers[piece[2]]) + piece[3:] for piece in pieces]
