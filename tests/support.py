"""What the tests share: how refusals are checked, values of every kind, halls, and slow ways to the same results."""

import functools
import itertools
import unittest

from keptopen.errors import NotUsable

SAME = ((0, 0), (1, 1))
UNLIKE = ((0, 1), (1, 0))
PAIR = (("a", "b"), (2, 2), ((("a",), ((0,),)), (("a", "b"), SAME), (("b",), ((1,),))))
LINE = (("a", "b", "c"), (2, 3, 1), ((("a", "b", "c"), ((0, 2, 0), (1, 0, 0))), (("b",), ()), (("b",), ((0,), (2,)))))
ROW = (("a", "b", "c"), (2, 2, 3), ((("a", "b"), SAME), (("b", "c"), ((0, 0), (0, 1), (1, 2)))))
HALF = ROW[:2] + (ROW[2] + ((("a",), ((0,),)),),)
ODD = (("a", "b", "c"), (2, 2, 2), ((("a", "b"), SAME), (("a", "c"), UNLIKE), (("b", "c"), SAME)))
LONG = (
    tuple("abcdef"),
    (2,) * 6,
    ((("a",), ((0,),)),) + tuple((two, SAME) for two in zip("abcde", "bcdef")) + ((("f",), ((1,),)),),
)
TRIO = (("a", "b", "c"), (2, 2, 2), ((("a", "b"), UNLIKE), (("a", "c"), UNLIKE), (("b", "c"), UNLIKE)))
THREES = (("a", "b", "c"), (2, 2, 2), ((("a", "b", "c"), ((0, 0, 1), (0, 1, 0), (1, 0, 0))), (("b",), ((1,),))))
ALONE = (("a",), (1,), ())
NEVER = (("a",), (3,), ((("a",), ()),))
SPLIT = (("a", "b"), (1, 2), ((("b",), ((0,),)), (("b",), ((1,),)), (("b",), ((0,),))))
FREE = (("a", "b", "c"), (1, 2, 3), ())
MANY = (("a", "b"), (10**40, 10**40), ((("a",), ((3,), (10**40 - 1,))), (("a", "b"), ((3, 5), (3, 10**39)))))

TIED = (("a", "b", "c"), (2, 2, 2), ((("a",), ((0,),)), (("a", "b"), SAME), (("b", "c"), SAME), (("c",), ((1,),))))
EVEN, UNEVEN = ((0, 0, 0), (0, 1, 1), (1, 0, 1), (1, 1, 0)), ((0, 0, 1), (0, 1, 0), (1, 0, 0), (1, 1, 1))
# Each chest is in two seals, so that all their sums together are even.
SUMS = (
    tuple("abcdef"),
    (2,) * 6,
    ((("a", "b", "c"), EVEN), (("a", "d", "e"), EVEN), (("b", "d", "f"), EVEN), (("c", "e", "f"), UNEVEN)),
)
# Its first chest is called as the word of a leaf.
NAMED = (("broken", "z"), (2, 2), ((("broken", "z"), SAME), (("broken",), ((0,),)), (("z",), ((1,),))))

HALLS = (PAIR, LINE, ROW, HALF, ODD, LONG, TRIO, THREES, ALONE, NEVER, SPLIT, FREE)


def nested(deep):
    """A tuple within tuples and lists, so many deep."""
    value = ()
    for k in range(deep - 1):
        value = (value,) if k & 1 else [value]
    return value


# Values of every kind that [2] names.
ANY = (
    None, True, False, 0, 1, 2, 3, -1, -2, 10**59, 10**60 - 1, -(10**59),
    "", "a", "b", "z", "A", "a b", "a\n", "abcdefgh", "abcdefghi", "-", "0", "chest a 2", "~",
    (), [], (None,), [None], (1,), (True,), ("a",), ["a"], ("a", "b"), ["a", "b"], ("b", "a"), ("a", "a"), ("a", 1),
    ((), ()), ((), (), ()), (("a",), ()), (("a",), (1,), []), [("a",), (1,), ()], ((("a", 0),),), (("a", 0),),
    [("a", 0)], (["a", 0],), (("a", True),), (("a", -1),), (("a", 0), ("a", 1)), (("b", 0), ("a", 0)), (("a", 0, 0),),
    nested(29), [nested(29)], tuple(range(5000)),
)

# Each of these has just one fault, but is a hall otherwise.
WRONG_HALLS = (
    list(PAIR), PAIR[:2], PAIR + ((),), ((), (), ()), (["a"], (1,), ()), (("a",), [1], ()), (("a",), (1,), []),
    (("a", "a"), (1, 1), ()), (("b", "a"), (1, 1), ()), (("A",), (1,), ()), (("",), (1,), ()), (("abcdefghi",), (1,), ()),
    ((1,), (1,), ()), ((["a"],), (1,), ()), (("a",), (), ()), (("a",), (1, 1), ()), (("a",), (0,), ()), (("a",), (True,), ()),
    (("a",), (-1,), ()), (("a",), ("1",), ()), (("a",), (None,), ()), (("a",), (2,), (None,)), (("a",), (2,), ((("a",),),)),
    (("a",), (2,), ([("a",), ()],)), (("a",), (2,), ((["a"], ()),)), (("a",), (2,), ((("a",), []),)),
    (("a",), (2,), ((("a",), (), ()),)), (("a",), (2,), (((), ()),)), (("a",), (2,), ((("b",), ()),)),
    (("a", "b"), (2, 2), ((("b", "a"), ()),)), (("a", "b"), (2, 2), ((("a", "a"), ()),)),
    (tuple("abcd"), (1,) * 4, ((tuple("abcd"), ()),)), (("a",), (2,), ((("a",), ((2,),)),)), (("a",), (2,), ((("a",), ((),)),)),
    (("a",), (2,), ((("a",), ((True,),)),)), (("a",), (2,), ((("a",), ((-1,),)),)), (("a",), (2,), ((("a",), ([0],)),)),
    (("a",), (2,), ((("a",), (0,)),)), (("a",), (2,), ((("a",), ((0, 0),)),)), (("a",), (2,), ((("a",), ((1,), (0,))),)),
    (("a",), (2,), ((("a",), ((0,), (0,))),)),
)
NO_HALLS = ANY + WRONG_HALLS


def same(one, other):
    """Whether two values are equal, and of the same kinds throughout, so that True is not 1."""
    if type(one) is not type(other):
        return False
    if isinstance(one, (tuple, list)):
        return len(one) == len(other) and all(same(a, b) for a, b in zip(one, other))
    return one == other


def copied(value):
    """The value with new lists in the place of its lists."""
    if isinstance(value, tuple):
        return tuple([copied(part) for part in value])
    if isinstance(value, list):
        return [copied(part) for part in value]
    return value


VALUE = object()


class Case(unittest.TestCase):
    """A test with checks of kinds, refusals and parameters."""

    def is_same(self, got, expected):
        """The value has just these parts, of just these kinds."""
        self.assertTrue(same(got, expected), f"{got!r} is not {expected!r}")

    def refuses(self, error, call, *args, **named):
        """The call raises an error of just this class, with these fields, and changes no argument."""
        before = copied(args), {name: copied(value) for name, value in named.items()}
        with self.assertRaises(type(error)) as caught:
            call(*args, **named)
        self.assertIs(type(caught.exception), type(error))
        told, fields = vars(caught.exception), vars(error)
        self.assertEqual(list(told), list(fields))
        for name in fields:
            self.assertTrue(same(told[name], fields[name]), f"{name}: {told[name]!r} is not {fields[name]!r}")
        self.assertTrue(same(copied(args), before[0]))
        for name in named:
            self.assertTrue(same(named[name], before[1][name]))

    def refuses_parameter(self, call, good, name, wrong, word, at=-1):
        """Each wrong value of a parameter is refused, by place and by name, whatever the later ones are."""
        names = list(good)
        later = names[names.index(name) + 1 :]
        self.assertGreater(len(wrong), 3)
        for value in wrong:
            told = {**good, name: value}
            error = NotUsable(word, value if at is VALUE else at)
            with self.subTest(name=name, value=value):
                self.refuses(error, call, *told.values())
                self.refuses(error, call, **told)
                self.refuses(error, call, **{**told, **{other: None for other in later}})
                self.refuses(error, call, **{**told, **{other: [("a", 0)] for other in later}})
                with self.assertRaises(NotUsable) as caught:
                    call(*told.values())
                if at is VALUE:
                    self.assertIs(caught.exception.at, value)


class Draw:
    """Numbers that look as if drawn, the same ones in each run."""

    def __init__(self, seed):
        self.state = seed * 7919 + 17

    def below(self, limit):
        """A number less than the limit."""
        self.state = (self.state * 6364136223846793005 + 1442695040888963407) % 2**64
        return (self.state >> 33) % limit

    def some_of(self, things, percent):
        """A tuple of some of the things, in their order."""
        return tuple([thing for thing in things if self.below(100) < percent])


def drawn_hall(seed, most_chests=4, most_things=3, most_seals=6):
    """A small hall, right, but otherwise whatever comes."""
    draw = Draw(seed)
    chests = tuple("abcdef"[: 1 + draw.below(most_chests)])
    sizes = tuple([1 + draw.below(most_things) for _ in chests])
    seals = []
    for _ in range(draw.below(most_seals + 1)):
        lot = draw.some_of(chests, 60)[:3] or chests[:1]
        rows = itertools.product(*[range(sizes[chests.index(chest)]) for chest in lot])
        seals.append((lot, draw.some_of(rows, 65)))
    return (chests, sizes, tuple(seals))


def tight_hall(seed):
    """A hall whose seals join two chests each, so that a keeper may be caught only by many open chests."""
    draw = Draw(seed)
    chests = tuple("abcde"[: 3 + draw.below(3)])
    sizes = tuple([2 + (draw.below(4) == 0) for _ in chests])
    ends = [((chests[0],), ((0,),)), ((chests[-1],), ((1,),))]
    seals = [seal for seal in ends if draw.below(2)]
    for one, other in draw.some_of(itertools.combinations(range(len(chests)), 2), 55):
        rows = itertools.product(range(sizes[one]), range(sizes[other]))
        kind = draw.below(3)
        rows = [row for row in rows if (row[0] == row[1], row[0] != row[1], draw.below(3))[kind]]
        seals.append(((chests[one], chests[other]), tuple(rows)))
    return (chests, sizes, tuple(seals))


DRAWN = tuple([drawn_hall(seed) for seed in range(150)])
TIGHT = tuple([tight_hall(seed) for seed in range(60)])


def great_hall(seed, sizes, percent):
    """A hall of as many chests as there are sizes, with twelve seals that have so many of the rows."""
    draw = Draw(seed)
    chests = tuple("abcdef"[: len(sizes)])
    pairs = list(itertools.combinations(range(len(chests)), 2))
    seals = []
    for k in range(12):
        one, other = pairs[(k * 7 + draw.below(2)) % len(pairs)]
        rows = itertools.product(range(sizes[one]), range(sizes[other]))
        seals.append(((chests[one], chests[other]), draw.some_of(rows, percent)))
    return (chests, sizes, tuple(seals))


# At most 1,600 fillings of at most three chests, and of any number of chests.
GREAT = tuple([great_hall(seed, (4,) * 6, 45 + 5 * seed) for seed in range(5)])
SPREADS = ((4, 4, 4, 2, 1, 1), (3, 3, 3, 3, 2, 1), (2,) * 6, (4, 4, 4, 4, 1))
WIDE = tuple([great_hall(seed, sizes, 68 + 2 * seed) for seed in range(4) for sizes in SPREADS])


def slow_breaks(hall, filling, index):
    """Whether the filling breaks the seal, straight from [4]."""
    lot, rows = hall[2][index]
    held = dict(filling)
    return set(lot) <= set(held) and tuple([held[chest] for chest in lot]) not in rows


@functools.lru_cache(None)
def slow_sound(hall, filling):
    """Whether the filling breaks no seal."""
    return not any(slow_breaks(hall, filling, index) for index in range(len(hall[2])))


@functools.lru_cache(None)
def slow_fillings(hall):
    """All fillings of the hall, ascending, sound or not."""
    choices = [[None] + [(chest, thing) for thing in range(size)] for chest, size in zip(*hall[:2])]
    return tuple(sorted(tuple([pair for pair in pairs if pair is not None]) for pairs in itertools.product(*choices)))


@functools.lru_cache(None)
def slow_parts(filling):
    """All parts of the filling, ascending."""
    return tuple(sorted(part for many in range(len(filling) + 1) for part in itertools.combinations(filling, many)))


@functools.lru_cache(None)
def slow_wholes(hall):
    """All whole sound fillings, ascending."""
    return tuple([one for one in slow_fillings(hall) if len(one) == len(hall[0]) and slow_sound(hall, one)])


@functools.lru_cache(None)
def slow_barred(hall, m):
    """Within how many moves each sound filling of fewer than m chests is barred, straight from [31]."""
    m = min(m, len(hall[0]))
    sound = [one for one in slow_fillings(hall) if len(one) <= m and slow_sound(hall, one)]
    found, fresh, steps = {}, sound, 0
    while fresh:
        steps += 1
        fresh = [
            one
            for one in sound
            if len(one) < m and one not in found and any(slow_bars(hall, one, chest, found) for chest in hall[0])
        ]
        for one in fresh:
            found[one] = steps
    return found


def slow_bars(hall, filling, chest, found):
    """Whether each thing of a chest that the filling lacks breaks a seal, or leaves a part that is found."""
    if chest in dict(filling):
        return False
    for thing in range(hall[1][hall[0].index(chest)]):
        longer = tuple(sorted(filling + ((chest, thing),)))
        if slow_sound(hall, longer) and not any(part in found for part in slow_parts(longer)):
            return False
    return True


@functools.lru_cache(None)
def slow_family(hall, m):
    """The greatest family, by leaving out of all sound fillings what cannot stay, straight from [5]."""
    left = {one for one in slow_fillings(hall) if len(one) <= m and slow_sound(hall, one)}
    while True:
        stay = {one for one in left if slow_stays(hall, m, one, left)}
        if stay == left:
            return tuple(sorted(left)) or None
        left = stay


def slow_stays(hall, m, filling, left):
    """Whether all parts of the filling are left, and for each chest that it lacks a filling with it."""
    if not all(part in left for part in slow_parts(filling)):
        return False
    if len(filling) >= m:
        return True
    for chest, size in zip(*hall[:2]):
        longer = [tuple(sorted(filling + ((chest, thing),))) for thing in range(size)]
        if chest not in dict(filling) and not any(one in left for one in longer):
            return False
    return True


LOST = tuple([hall for hall in HALLS + DRAWN + (TIED, NAMED, SUMS) if not slow_wholes(hall)])
KEPT = tuple([hall for hall in HALLS + DRAWN if slow_wholes(hall)])


def answers(hall, filling, chest):
    """The filling with each thing of a chest that it lacks, in order."""
    return [tuple(sorted(filling + ((chest, thing),))) for thing in range(hall[1][hall[0].index(chest)])]


def drawn_tree(hall, seed):
    """A question tree of a hall that cannot be kept, right, but otherwise whatever comes."""
    return drawn_tree_behind(hall, Draw(seed), ())


def drawn_tree_behind(hall, draw, filling):
    """A leaf or a question tree behind this filling; it may go on where a leaf could stand."""
    broken = [k for k in range(len(hall[2])) if slow_breaks(hall, filling, k)]
    left = [chest for chest in hall[0] if chest not in dict(filling)]
    if broken and (not left or draw.below(3)):
        return ("broken", broken[draw.below(len(broken))])
    chest = left[draw.below(len(left))]
    return (chest, tuple([drawn_tree_behind(hall, draw, longer) for longer in answers(hall, filling, chest)]))


def slow_leaves(hall, tree, filling=(), way=()):
    """The triples (way, filling, index) of the leaves of a question tree, in order."""
    if type(tree[1]) is int:
        return [(way, filling, tree[1])]
    told = []
    for thing, longer in enumerate(answers(hall, filling, tree[0])):
        told += slow_leaves(hall, tree[1][thing], longer, way + (thing,))
    return told


RING = (("a", "b", "c"), (("a", "b"), ("a", "c"), ("b", "c")))
WAY = (("a", "b", "c"), (("a", "b"), ("b", "c")))
DOT = (("a",), ())
DOTS = (("a", "b", "c", "d"), ())
FOUR = (tuple("abcd"), (("a", "b"), ("a", "d"), ("b", "c"), ("c", "d")))
STAR = (tuple("abcde"), tuple(("c", name) if "c" < name else (name, "c") for name in "abde"))
TWO = (("a", "b", "c", "y", "z"), (("a", "b"), ("a", "c"), ("b", "c"), ("y", "z")))
# Each two chests are joined.
FULL = tuple([(tuple("abcde"[:many]), tuple(itertools.combinations("abcde"[:many], 2))) for many in range(2, 6)])
# Three rows of two; seven in a ring; each of three joined with each of three; two rings that share a chest.
LADDER = (tuple("abcdef"), (("a", "b"), ("a", "c"), ("b", "d"), ("c", "d"), ("c", "e"), ("d", "f"), ("e", "f")))
SEVEN = (tuple("abcdefg"), (("a", "b"), ("a", "g"), ("b", "c"), ("c", "d"), ("d", "e"), ("e", "f"), ("f", "g")))
THREE_BY_THREE = (tuple("abcdef"), tuple((one, other) for one in "abc" for other in "def"))
EIGHT = (tuple("abcde"), (("a", "b"), ("a", "c"), ("b", "c"), ("c", "d"), ("c", "e"), ("d", "e")))
# Twelve gates.
WHEEL = (tuple("abcdefg"), tuple(sorted(SEVEN[1] + (("a", "c"), ("a", "d"), ("a", "e"), ("b", "f"), ("d", "g")))))


def drawn_web(seed, most_chests=7, most_gates=12):
    """A small web, right, but otherwise whatever comes."""
    draw = Draw(seed)
    names = "abcdefg"[: 1 + draw.below(most_chests)]
    pairs = list(itertools.combinations(names, 2))
    gates = draw.some_of(pairs, (20, 40, 60, 90)[draw.below(4)])
    while len(gates) > most_gates:
        gone = draw.below(len(gates))
        gates = gates[:gone] + gates[gone + 1 :]
    return (tuple(names), gates)


DRAWN_WEBS = tuple([drawn_web(seed) for seed in range(80)])
WEBS = (RING, WAY, DOT, DOTS, FOUR, STAR, TWO, LADDER, SEVEN, THREE_BY_THREE, EIGHT, WHEEL) + FULL + DRAWN_WEBS

# Each of these has just one fault, but is a web otherwise.
WRONG_WEBS = (
    list(WAY), WAY[:1], WAY + ((),), (list(WAY[0]), WAY[1]), ((), ()), (("b", "a"), ()), (("a", "a"), ()), (("A",), ()), ((1,), ()),
    ("ab", ()), (("a", None), ()), (WAY[0], list(WAY[1])), (WAY[0], None), (WAY[0], (("a",),)), (WAY[0], (("a", "b", "c"),)),
    (WAY[0], (["a", "b"],)), (WAY[0], (("b", "a"),)), (WAY[0], (("a", "a"),)), (WAY[0], (("a", "d"),)), (WAY[0], (("a", None),)),
    (WAY[0], ("ab",)), (WAY[0], WAY[1][::-1]), (WAY[0], WAY[1] + WAY[1][1:]), (WAY[0], (("a", "b"), ("a", "b"))),
)
# Not all pairs of one of the values of ANY are wrong: (("a",), ()) is a web.
NO_WEBS = tuple([value for value in ANY if not (type(value) is tuple and value == (("a",), ()))]) + WRONG_WEBS


def slow_hangs(web, lot):
    """Whether these chests hang together, straight from [7]."""
    reached = set(lot[:1])
    for _ in lot:
        for one, other in web[1]:
            if one in lot and other in lot and (one in reached or other in reached):
                reached |= {one, other}
    return len(lot) > 0 and reached == set(lot)


@functools.lru_cache(None)
def slow_pieces(web, lot):
    """The parts of the web without these chests: all that hang together and to which nothing can be added."""
    left = [chest for chest in web[0] if chest not in lot]
    hang = [one for many in range(1, len(left) + 1) for one in itertools.combinations(left, many) if slow_hangs(web, one)]
    return tuple(sorted(one for one in hang if not any(set(one) < set(other) for other in hang)))


def all_lots(chests):
    """All sets of these chests, that of none among them."""
    return [lot for many in range(len(chests) + 1) for lot in itertools.combinations(chests, many)]


def slow_web(hall):
    """The web of a hall."""
    return (hall[0], tuple(sorted({(a, b) for lot, _ in hall[2] for a in lot for b in lot if a < b})))


def shuffled(things, draw):
    """A list of the things in a drawn order."""
    left, order = list(things), []
    while left:
        order.append(left.pop(draw.below(len(left))))
    return order


def drawn_bags(web, seed):
    """A tree of bags of a web, right, but otherwise whatever comes: with empty bags, equal ones, more chests than needed."""
    draw = Draw(seed)
    order = shuffled(web[0], draw)
    joined = {frozenset(gate) for gate in web[1]}
    bags, links = [], []
    for k, chest in enumerate(order):
        later = [other for other in order[k + 1 :] if frozenset((chest, other)) in joined]
        joined |= {frozenset((one, other)) for one in later for other in later if one != other}
        bags.append({chest, *later})
        if k < len(order) - 1:
            links.append((k, order.index(later[0]) if later else k + 1 + draw.below(len(order) - k - 1)))
    for _ in range(draw.below(4)):
        near = draw.below(len(bags))
        links.append((near, len(bags)))
        bags.append(set(draw.some_of(sorted(bags[near]), (0, 50, 100)[draw.below(3)])))
    for _ in range(draw.below(4)):
        one, other = links[draw.below(len(links))] if links else (0, 0)
        bags[other] |= set(draw.some_of(sorted(bags[one]), 60))
    places = shuffled(range(len(bags)), draw)
    lots = tuple([tuple(sorted(bags[places.index(k)])) for k in range(len(bags))])
    return (lots, tuple(sorted(tuple(sorted((places[one], places[other]))) for one, other in links)))


def slow_beyond(bags, first, index):
    """The set of the indexes of the bags beyond a bag, itself among them, straight from [57]."""
    way = {first: (first,)}
    for _ in bags[0]:
        for one, other in bags[1] + tuple([link[::-1] for link in bags[1]]):
            if one in way and other not in way:
                way[other] = way[one] + (other,)
    return {one for one in way if index in way[one]}


@functools.lru_cache(None)
def slow_sound_of(hall, lot):
    """The sound fillings that have just these chests, ascending."""
    return tuple([one for one in slow_fillings(hall) if tuple([chest for chest, _ in one]) == lot and slow_sound(hall, one)])


def slow_counts(hall, bags, first, index):
    """The pairs of counts_at, by all sound fillings of the chests of the bags beyond."""
    chests = tuple(sorted({chest for k in slow_beyond(bags, first, index) for chest in bags[0][k]}))
    greater, ones = slow_sound_of(hall, chests), slow_sound_of(hall, bags[0][index])
    return tuple([(one, len([other for other in greater if set(one) <= set(other)])) for one in ones])


def slow_next(bags, first, index):
    """The indexes of the next bags of a bag: those that a link joins with it and that lie beyond it, ascending."""
    joined = {one for link in bags[1] if index in link for one in link} - {index}
    return sorted(joined & slow_beyond(bags, first, index))


def shared_part(bags, filling, one, other):
    """The pairs of the filling with chests of both bags."""
    return tuple([pair for pair in filling if pair[0] in bags[0][one] and pair[0] in bags[0][other]])


def is_switchable(web):
    """Whether no chest has more than four gates."""
    return all(sum(chest in gate for gate in web[1]) <= 4 for chest in web[0])


SWITCHED = tuple([web for web in WEBS if is_switchable(web)])


@functools.lru_cache(None)
def slow_all_bits(many):
    """All tuples of so many bits, ascending."""
    return tuple(itertools.product((0, 1), repeat=many))


def slow_gates_at(web, chest):
    """The gates of a chest, in order of their other chests."""
    others = {other: gate for gate in web[1] if chest in gate for other in gate if other != chest}
    return [others[other] for other in sorted(others)]


def slow_setting(web, bits, chest):
    """The setting of a chest by the bits."""
    told = dict(zip(web[1], bits))
    return tuple([told[gate] for gate in slow_gates_at(web, chest)])


def slow_right(web, odds, chest):
    """The right settings of a chest, ascending."""
    many = len(slow_gates_at(web, chest))
    return [one for one in slow_all_bits(many) if many == 0 or sum(one) % 2 == (chest in odds)]


def slow_odds(web, bits):
    """The chests whose settings by the bits have an odd sum."""
    return tuple([chest for chest in web[0] if sum(slow_setting(web, bits, chest)) % 2])


@functools.lru_cache(None)
def slow_solutions(web):
    """For each set of odd chests the bits that have it, a dict."""
    found = {}
    for bits in slow_all_bits(len(web[1])):
        found.setdefault(slow_odds(web, bits), []).append(bits)
    return found


@functools.lru_cache(None)
def slow_switched(web, odds):
    """The switched hall, straight from [65]."""
    sizes = tuple([len(slow_right(web, odds, chest)) for chest in web[0]])
    seals = []
    for gate in web[1]:
        rows = []
        for things in itertools.product(*[range(sizes[web[0].index(chest)]) for chest in gate]):
            bits = []
            for chest, thing in zip(gate, things):
                bits.append(dict(zip(slow_gates_at(web, chest), slow_right(web, odds, chest)[thing]))[gate])
            if bits[0] == bits[1]:
                rows.append(things)
        seals.append((gate, tuple(rows)))
    alone = [chest for chest in odds if not slow_gates_at(web, chest)]
    return (web[0], sizes, tuple(seals) + tuple([((chest,), ()) for chest in alone]))


def some_odds(web, seed, many=4):
    """Some sets of chests of the web: none, all, and drawn ones."""
    draw = Draw(seed)
    return sorted({(), web[0], web[0][-1:]} | {draw.some_of(web[0], (20, 50, 80)[draw.below(3)]) for _ in range(many)})


# No bits for two gates, no sets of the chests a, b and c.
NO_TWO_BITS = ANY + ((0,), (0, 0, 0), (0, 2), (-1, 0), (True, 0), (0, False), [0, 1], (0, None), "01", ((0, 1),))
NO_LOTS = tuple([value for value in ANY if not (type(value) is tuple and value in ((), ("a",), ("a", "b")))])
NO_LOTS += (("b", "a"), ("a", "a"), ("a", "d"), ["a"], ("a", 1), "a", ("ab",))
