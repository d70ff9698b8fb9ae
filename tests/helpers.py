"""What several tests need."""


def make(run=0, number=0, asker=-1, house=0, count=0, begin=0, end=0, joined=False):
    """A piece, a top of run 0 where nothing else is said."""
    return (run, number, asker, house, count, begin, end, joined)


def clash_by_words(one, other):
    """What point 5 says of two pieces, apart from the program."""
    if one == other:
        return False
    return (one[0], one[1]) == (other[0], other[1]) or (one[3], one[4]) == (other[3], other[4])


def least_by_words(heap):
    """The least rising pair of clashing pieces by trying all pairs, or None."""
    pairs = []
    for one in heap:
        for other in heap:
            if one < other and clash_by_words(one, other):
                pairs.append((one, other))
    return min(pairs, default=None)


def random_piece(chance, runs=3, numbers=20, houses=3, counts=20):
    """A piece within small bounds, so that clashes and like pieces come about."""
    number = chance.randrange(numbers)
    asker = chance.choice([-1] + [k for k in range(numbers) if k != number])
    begin = chance.randrange(-30, 30)
    joined = asker != -1 and chance.random() < 0.5
    place = (chance.randrange(houses), chance.randrange(counts))
    return (chance.randrange(runs), number, asker, *place, begin, begin + chance.randrange(9), joined)


def random_heap(chance, most=12, **bounds):
    """A heap of such pieces, some told several times, in any order."""
    pieces = [random_piece(chance, **bounds) for _ in range(chance.randrange(most + 1))]
    heap = pieces + [chance.choice(pieces) for _ in range(chance.randrange(5)) if pieces]
    chance.shuffle(heap)
    return heap


def sixty_pieces():
    """Sixty unlike pieces without a clash, rising: six runs of ten, each house but house 7 among them."""
    pieces = []
    for at in range(60):
        run, number = divmod(at, 10)
        asker = number - 1 if number else -1
        joined = number > 0 and at % 3 == 0
        pieces.append((run, number, asker, at % 7, at, at - 30, at, joined))
    return pieces
