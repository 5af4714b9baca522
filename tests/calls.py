"""Every function of the interface with its parameters, and good and bad values for each kind of parameter."""

from fractions import Fraction
from functools import lru_cache
from importlib import import_module

from evenlater.live import LiveDeal
from samples import DEEP_LIST, DEEP_TUPLE, JUNK, deal_for, dice, divisors, drawn_deal, drawn_move, edge
from samples import moves, size, turned, turns

NO_INTEGER = [None, True, False, "1", "", (), (1,), [1], DEEP_TUPLE, DEEP_LIST]

# the stated calls: module, function, then each parameter behind the clock with its kind
STAGE_1 = """
numbers power base:integer many:number
numbers common_of one:integer other:integer
numbers primes_of number:counted
numbers divisors_of number:counted
numbers units_many number:counted
numbers is_square_free number:counted
quotients quotient_of top:integer bottom:nonzero
quotients plus one:quotient other:quotient
quotients minus one:quotient other:quotient
quotients times one:quotient other:quotient
quotients over one:quotient other:divider
quotients compare one:quotient other:quotient
quotients sum_up quotients:quotients
kinds is_integer thing:thing
kinds is_number thing:thing
kinds is_quotient thing:thing
kinds is_clock thing:thing
kinds is_move clock thing:thing
kinds is_moves clock thing:thing
kinds is_piece clock thing:thing
kinds is_part clock thing:thing
clockchecker lets_clock thing:clock_thing
sizes moves_many clock
sizes turns_many clock
sizes does_move clock mover:mover prime:prime
sizes edge_of clock a:a
sizes last_edge clock
moving factor_at clock turn:turn
moving then clock one:move other:move
moving back_of clock move:move
moving moved_times clock move:move many:integer
moving turned_by clock move:move by:move
moving takes clock move:move beat:beat
moving number_of clock move:move
moving move_at clock number:place
moving all_moves clock
moving order_of clock move:move
classes class_of clock move:move
classes classes_of clock
clockparts part_moves clock part:part
clockparts in_part clock part:part move:move
clockparts part_size clock part:part
clockparts is_kept clock part:part
clockparts parts_of clock
clockparts kept_parts clock
clockparts coset_of clock part:part move:move
clockparts cosets_of clock part:part
leastparts least_part clock moves:moves
leastparts common_part clock one:part other:part
leastparts turned_part clock part:part by:move
folding folded_clock clock part:kept
folding folded_move clock part:kept move:move
clocktexts clock_line clock
clocktexts read_clock text:clock_text
"""

STAGE_2 = """
dealkinds is_deal clock thing:thing
dealkinds is_plain clock thing:thing
dealmaking settled clock bottom:nonzero weights:weights
dealmaking idle_deal clock
dealmaking deal_on clock moves:move_set
dealmaking even_deal clock quotient:quotient
dealmaking even_on clock part:part
dealmaking single_deal clock move:move quotient:quotient
weighing weight_at clock deal:deal move:move
weighing total_of clock deal:deal
weighing moves_of clock deal:deal
weighing square_sum clock deal:deal
dealsums added clock one:deal other:deal
dealsums taken clock one:deal other:deal
dealsums scaled clock deal:deal quotient:quotient
dealing dealt clock one:deal other:deal
dealing dealt_row clock deals:deals
dealing dealt_again clock deal:deal many:number
mirrors mirrored clock deal:deal
mirrors turned_deal clock deal:deal by:move
signs is_even clock deal:deal
signs is_own_mirror clock deal:deal
signs is_own_square clock deal:deal
signs is_alike clock deal:deal
signs can_exchange clock one:deal other:deal
boards place_after clock piece:last_piece place:last_place move:move
boards place_number clock piece:last_piece place:last_place
boards board_table clock piece:piece deal:deal
ranking rank_of rows:rows
ranking combined rows:rows_of_two row:row_of_two
dealfolds folded_deal clock part:kept deal:deal
dealfolds lifted_deal clock part:all_beats deal:folded_deal
dealtexts deal_line clock deal:deal
dealtexts read_deal clock text:deal_text
pieces pieces_of clock
pieces edge_at clock piece:piece
pieces grain_at clock piece:piece
pieces width_at clock piece:piece
pieces pieces_under clock piece:piece
"""

STAGE_3 = """
ones root_sum number:free_number integer:integer
ones one_of clock piece:piece
ones ones_of clock pieces:piece_set
ones at_piece clock piece:piece deal:deal
ones ones_in clock deal:ones_sum
ranks board_rank clock piece:piece deal:ranked
ranks rank_at clock piece:piece deal:ranked
ranks ranks_of clock deal:ranked
ranks free_many clock deal:ranked
ranks is_ranks clock thing:thing
ranks lets_ranks clock deal:zero thing:zero_ranks
partranks part_ranks clock part:part
partranks quiet_pieces clock part:part
partranks parts_cover clock one:part other:part
frames frame_of clock piece:piece
frames lets_frame clock piece:first_piece thing:first_frame
rankmaking deal_of_ranks clock ranks:ranks
smoothing class_totals clock deal:deal
smoothing smoothed clock deal:deal
exchanging class_deals clock
exchanging exchange_many clock
exchanging class_weights clock deal:alike
exchanging deal_of_classes clock quotients:class_quotients
evens even_after clock deal:deal
evens is_even_by clock deal:deal many:number
evenpapers even_paper clock deal:deal
evenpapers lets_even clock deal:zero thing:even_paper
classwise even_in_classes clock deal:deal many:number
classwise first_uneven clock deal:deal
turnabout both_ways clock one:deal other:deal
turnabout row_after clock deals:deals
laters later_deal clock many:later
evensets folds_evenly clock deal:deal
evensets divides_total clock deal:whole
"""

STAGE_4 = """
falls falls_at clock piece:piece deal:ranked
falls falls_of clock deal:ranked
falls uneven_pieces clock deal:ranked
falls is_falls edge:edge thing:thing
falls all_falls edge:small_edge
falls blocks_of edge:edge_two falls:falls_of_two
falls after_of_falls clock rows:fall_rows
fallmaking deal_of_falls clock piece:first_piece falls:first_falls
fallmaking deal_of_rows clock rows:fall_rows
lasting lasting_of clock deal:solved
lasting fading_of clock deal:solved
lasting fades_after clock deal:solved
lasting lets_parted clock deal:zero thing:zero_pair
recalls recall_of clock deal:solved
recalls lets_recall clock deal:zero thing:zero_recall
sides left_side clock deal:solved
sides right_side clock deal:solved
backs has_back clock deal:solved
backs back_deal clock deal:backed
making is_made_left clock one:solved other:solved
making is_made_right clock one:solved other:solved
making made_left clock one:backed other:solved
making made_right clock one:backed other:solved
makepapers made_paper clock side:side one:solved other:solved
makepapers lets_made clock side:side one:zero other:zero thing:made_zero
nearest nearest_left clock one:solved other:solved
nearest nearest_right clock one:solved other:solved
nearest gap_left clock one:solved other:solved
nearest gap_right clock one:solved other:solved
joins joint_left clock one:solved other:solved
joins common_left clock one:solved other:solved
joins joint_right clock one:solved other:solved
joins common_right clock one:solved other:solved
between made_between clock one:backed other:solved
betweenpapers between_paper clock one:solved other:solved
betweenpapers lets_between clock one:zero other:zero thing:between_zero
"""

STAGE_5 = """
eveners evener_right clock deal:solved
eveners evener_left clock deal:solved
eveners even_many clock deal:ranked
evenness is_evened clock one:deal other:deal
evenness first_crowded clock one:ranked other:ranked
nearevens nearest_even clock one:solved other:solved
nearevens gap_even clock one:solved other:solved
through even_through clock one:zero other:solved
throughpapers through_paper clock one:solved other:solved
throughpapers lets_through clock one:zero other:zero thing:through_zero
movesthrough moves_through clock one:solved other:solved
filling fills clock moves:moves others:moves
filling covers clock moves:moves others:moves
partfills part_fillers clock part:part
partfills parts_full clock one:part other:part
choosers chooser_of clock part:part
choosers is_chooser clock part:part moves:moves
coming come_after clock moves:moves many:hundred
coming come_sizes clock moves:moves
homes reach_of clock moves:moves
homes home_of clock moves:moves
homes period_of clock moves:moves
homes settles_after clock moves:moves
"""

STAGE_6 = """
homepapers home_paper clock moves:moves
homepapers lets_home clock moves:idle_moves thing:idle_home
spreads chance_at clock deal:plain move:move many:few
spreads spread_of clock deal:plain
spreads spread_after clock deal:plain many:few
nearing comes_near clock deal:plain
nearing near_after clock deal:plain share:quotient many:few
nearing least_after clock deal:plain many:few
nearpapers near_paper clock deal:plain
nearpapers lets_near clock deal:plain_even thing:near_paper
waits wait_for clock deal:waited move:move
waits wait_table clock deal:waited
waits mean_wait clock deal:waited
waits return_wait clock deal:plain
waitchecker lets_waits clock deal:plain_idle thing:idle_waits
firsts first_at clock deal:plain move:move many:few
firsts first_row clock deal:plain move:move many:few
visits visits_by clock deal:plain move:move many:few
liveevents is_event clock thing:thing
liveevents is_log thing:thing
replaying replayed log:log
eventtexts event_line clock event:event
eventtexts log_lines log:log
eventtexts read_event clock text:event_text
eventtexts read_log lines:lines
"""


class Call:
    """One function of the interface, as the document tells it."""

    def __init__(self, line):
        words = line.split()
        self.module, self.name = words[:2]
        self.needs_clock = "clock" in words[2:]
        self.params = [tuple(word.split(":")) for word in words[2:] if ":" in word]
        self.function = getattr(import_module("evenlater." + self.module), self.name)

    def all_params(self):
        return (["clock"] if self.needs_clock else []) + [name for name, _ in self.params]

    def first(self, clock):
        return [clock] if self.needs_clock else []

    def good_lists(self, clock):
        return [GOOD[kind](clock) for _, kind in self.params]

    def good_rows(self, clock):
        """Rows of good values: each parameter goes through its own."""
        lists = self.good_lists(clock)
        longest = max([len(values) for values in lists], default=1)
        return [[values[(k * (at + 1)) % len(values)] for at, values in enumerate(lists)] for k in range(longest)]


STAGES = [STAGE_1, STAGE_2, STAGE_3, STAGE_4, STAGE_5, STAGE_6]


def calls():
    return [Call(line) for line in "".join(STAGES).splitlines() if line]


def kept_triples(clock):
    return [(a, f, 0) for a in divisors(clock[0]) for f in divisors(turns(clock)) if spots(clock, a, f) == 1]


def spots(clock, a, f):
    """w of [6]."""
    found = 1
    for prime in divisors(clock[0]):
        is_prime = divisors(prime) == [1, prime] and prime > 1
        if is_prime and a % prime and any(root % prime != 1 for mover, root in clock[1] if f % mover == 0):
            found *= prime
    return found


def all_triples(clock):
    pairs = [(a, f) for a in divisors(clock[0]) for f in divisors(turns(clock))]
    return [(a, f, spot) for a, f in pairs for spot in range(spots(clock, a, f))]


def some_move_sets(clock):
    rng = dice(3)
    sets = [tuple(sorted({drawn_move(clock, rng) for _ in range(many)})) for many in (1, 2, 3, 9)]
    return [((0, 0),), *sets, tuple(sorted(moves(clock)))]


def pieces(clock):
    pairs = [(a, b) for a in divisors(clock[0]) for b in divisors(turns(clock))]
    return [(a, b) for a, b in pairs if all(edge(clock, a) % q for q in divisors(b)[1:])]


def line_of(clock):
    return " ".join(["clock", str(clock[0])] + [f"{mover} {root}" for mover, root in clock[1]])


def some_deals(clock):
    rng = dice(8)
    many = size(clock)
    idle, even = (1, (1,) + (0,) * (many - 1)), (many, (1,) * many)
    long = (10 ** 29 + 1, (10 ** 29,) * (many - 1) + (-(10 ** 29) + 3,))
    return [(1, (0,) * many), idle, even, long, *[drawn_deal(clock, rng) for _ in range(5)]]


def most_places(clock):
    """How many places the largest board has."""
    return max(a * b for a, b in pieces(clock))


def even_of(clock, total=1):
    many = size(clock)
    return deal_for([Fraction(total, many)] * many)


def idle_of(clock):
    return deal_for([Fraction(1)] + [Fraction(0)] * (size(clock) - 1))


def alike_deals(clock):
    some = [move for move in moves(clock) if move[1] == 0]
    shares = [Fraction(5, 3) if move in some else Fraction(-2) for move in moves(clock)]
    return [zero_of(clock), idle_of(clock), even_of(clock), deal_for(shares)]


def zero_of(clock):
    return 1, (0,) * size(clock)


def whole_deals(clock):
    return [(1, weights) for _, weights in some_deals(clock)]


@lru_cache
def class_many(clock):
    return len({frozenset(turned(clock, move, by) for by in moves(clock)) for move in moves(clock)})


def solved_deals(clock):
    """Deals with few figures, for clocks with few moves; some of them are 0, even, idle, or lack ranks."""
    if size(clock) > 21:
        return []
    rng = dice(9)
    row = tuple(rng.randint(0, 1) for _ in range(size(clock)))
    return [drawn_deal(clock, rng, 3), zero_of(clock), idle_of(clock), even_of(clock, 2), (1, row),
            (1, row[::-1]), drawn_deal(clock, rng, 1)]


def backed_deals(clock):
    """Deals with a back."""
    if size(clock) > 21:
        return []
    large = [Fraction(1, 9)] * (size(clock) - 1) + [Fraction(size(clock))]
    return [idle_of(clock), deal_for(large), deal_for(large[::-1])]


def fall_rows(clock):
    """Falls for all pieces."""
    edges = [edge(clock, a) for a, _ in pieces(clock)]
    return [tuple((e,) + (0,) * e for e in edges), tuple((e,) * (e + 1) for e in edges),
            tuple(tuple(range(e, -1, -1)) for e in edges), tuple((e,) + (e - 1,) * e for e in edges)]


def plain_deals(clock):
    """Plain deals on one move, on moves of one turn, on some moves, on all moves, with few and with many figures."""
    rng = dice(10)
    many = size(clock)
    single = tuple(int(move == drawn_move(clock, dice(11))) for move in moves(clock))
    one_turn = tuple(x + 1 if t == turns(clock) - 1 else 0 for x, t in moves(clock))
    long = (10 ** 29 + 1, (10 ** 29,) * (many - 1) + (10 ** 29 - 3,))
    drawn = [tuple(rng.choice([0, 0, 1, 2, 9]) for _ in range(many)) for _ in range(3)]
    return [idle_of(clock), even_of(clock), (1, single), (1, one_turn), long,
            *[(1, row) for row in drawn if any(row)], (7, (1,) * many)]


def waited_deals(clock):
    return [deal for deal in plain_deals(clock) if len(str(deal)) < 200] if size(clock) <= 21 else []


def some_events(clock):
    """Events of the clock, one of each word ahead of those at their bounds."""
    deal, long = some_deals(clock)[4], (10 ** 60 - 1, (1 - 10 ** 60,) * (size(clock) - 1) + (1,))
    last, whole = (clock[0] - 1, turns(clock) - 1), (clock[0], turns(clock), 0)
    return [("right", deal), ("left", deal), ("add", deal), ("scale", (-3, 4)), ("mirror",), ("turn", last), ("again", 2),
            ("fold", (1, 1, 0)), ("right", long), ("left", zero_of(clock)), ("add", long), ("scale", (0, 1)),
            ("scale", (1 - 10 ** 60, 10 ** 60 - 2)), ("turn", (0, 0)), ("again", 1), ("again", 6), ("fold", whole)]


def line_of_event(event):
    """The line of an event, from the definition."""
    def told(value):
        return " ".join(map(told, value)) if isinstance(value, tuple) else str(value)
    return f"{event[0]} deal {told(event[1])}" if event[0] in ("right", "left", "add") else told(event)


def some_logs(clock):
    events = tuple(some_events(clock))
    ends = ("fold", (clock[0], turns(clock), 0)), ("add", (2, (1,))), ("turn", (0, 0)), ("mirror",)
    return [(("begin", clock),), (("begin", clock), *events[:8]), (("begin", clock), *ends)]


def lines_of(log):
    return (line_of(log[0][1]), *map(line_of_event, log[1:]))


def shown(value):
    """What two equal answers have in common."""
    return repr(value) if not isinstance(value, LiveDeal) else repr((value.log(), value.deal_now(), value.tally()))


def text_of(deal):
    return " ".join(["deal", str(deal[0]), *map(str, deal[1])])


def turning(clock):
    """The clock folded by all its shifts."""
    return 1, tuple((mover, 1) for mover, _ in clock[1])


QUOTIENTS = [(0, 1), (1, 1), (-1, 1), (-3, 4), (10 ** 29 + 1, 7), (7, 10 ** 29), (6, 35)]
BAD_QUOTIENTS = [None, 1, True, (), (1,), (2, 4), (1, 0), (1, -1), (0, 2), (True, 1), (1, True), [1, 2], (1, 2, 3),
                 ("1", 1), ((1, 1), 1), DEEP_TUPLE]

GOOD = {
    "thing": lambda clock: [*JUNK, 0, 7, -1, (1, 2), clock, (0, 0), ((0, 0),), (1, 1), (1, 1, 0)],
    "clock_thing": lambda clock: [clock],
    "clock_text": lambda clock: [line_of(clock), "clock 6", "clock 1 2 1"],
    "integer": lambda clock: [0, 1, -1, 2, 10 ** 29, -(10 ** 29)],
    "number": lambda clock: [0, 1, 2, 3, 40],
    "counted": lambda clock: [1, 2, 6, 12, 97, 9973, 10000],
    "nonzero": lambda clock: [1, -1, -6, 4, 10 ** 29],
    "quotient": lambda clock: QUOTIENTS,
    "divider": lambda clock: QUOTIENTS[1:],
    "quotients": lambda clock: [(), ((1, 2),), tuple(QUOTIENTS)],
    "turn": lambda clock: list(range(turns(clock))),
    "beat": lambda clock: list(range(clock[0])),
    "place": lambda clock: list(range(size(clock))),
    "a": lambda clock: divisors(clock[0]),
    "mover": lambda clock: [mover for mover, _ in clock[1]],
    "prime": lambda clock: [k for k in divisors(clock[0]) if len(divisors(k)) == 2],
    "move": lambda clock: sorted(moves(clock)),
    "moves": some_move_sets,
    "part": all_triples,
    "kept": kept_triples,
    "all_beats": lambda clock: [(clock[0], 1, 0)],
    "folded_deal": lambda clock: some_deals(turning(clock)),
    "move_set": lambda clock: [(), *some_move_sets(clock)],
    "weights": lambda clock: [weights for _, weights in some_deals(clock)],
    "deal": some_deals,
    "deals": lambda clock: [(), tuple(some_deals(clock)[4:5]), tuple(some_deals(clock)[4:7])],
    "piece": pieces,
    "last_piece": lambda clock: [(clock[0], 1)],
    "last_place": lambda clock: [(beat, 0) for beat in range(clock[0])],
    "rows": lambda clock: [(), ((),), ((), ()), ((1,), (0,)), ((2, 4, 0), (2, 1, 3), (2, 1, 3)), ((0,) * 60,) * 60],
    "rows_of_two": lambda clock: [((1, 2), (3, 4)), ((1, 2), (2, 4)), ((0, 0),), ((1, 0), (0, 1), (1, 1))],
    "row_of_two": lambda clock: [(0, 0), (1, 2), (1, 1), (-(10 ** 29), 10 ** 29)],
    "deal_text": lambda clock: [text_of(deal) for deal in some_deals(clock)],
    "free_number": lambda clock: [1, 2, 30, 9973, 9966, 3333],
    "piece_set": lambda clock: [(), ((1, 1),), tuple(pieces(clock)), tuple(pieces(clock)[1:])],
    "ones_sum": lambda clock: [zero_of(clock), idle_of(clock), even_of(clock)],
    "ranked": lambda clock: some_deals(clock) if most_places(clock) <= 30 else [],
    "zero": lambda clock: [zero_of(clock)],
    "zero_ranks": lambda clock: [(0,) * len(pieces(clock))],
    "first_piece": lambda clock: [(1, 1)],
    "first_frame": lambda clock: [((even_of(clock),),)],
    "ranks": lambda clock: [tuple(edge(clock, a) // k for a, _ in pieces(clock)) for k in (1, 2, 3, 7)],
    "alike": alike_deals,
    "class_quotients": lambda clock: [tuple((QUOTIENTS * 10)[k:k + class_many(clock)]) for k in range(7)],
    "even_paper": lambda clock: [("even", 1, ())],
    "later": lambda clock: list(range(1, edge(clock, clock[0]) + 1)),
    "whole": whole_deals,
    "edge": lambda clock: [1, 2, 6, 59, 60],
    "small_edge": lambda clock: [1, 2, 3, 8],
    "edge_two": lambda clock: [2],
    "falls_of_two": lambda clock: [(2, 1, 0), (2, 0, 0), (2, 1, 1), (2, 2, 2)],
    "fall_rows": fall_rows,
    "first_falls": lambda clock: [(1, 0), (1, 1)],
    "solved": solved_deals,
    "backed": backed_deals,
    "zero_recall": lambda clock: [zero_of(clock)],
    "zero_pair": lambda clock: [(zero_of(clock), zero_of(clock))],
    "side": lambda clock: ["left", "right"],
    "made_zero": lambda clock: [("made", deal) for deal in solved_deals(clock)],
    "between_zero": lambda clock: [("between", deal, deal) for deal in solved_deals(clock)],
    "through_zero": lambda clock: [("through", deal, deal) for deal in [idle_of(clock)]],
    "hundred": lambda clock: [0, 1, 2, 5, 100],
    "few": lambda clock: [0, 1, 2, 5],
    "idle_moves": lambda clock: [((0, 0),)],
    "idle_home": lambda clock: [("home", 1, (1, 1, 0), 1)],
    "plain": plain_deals,
    "plain_even": lambda clock: [even_of(clock)],
    "near_paper": lambda clock: [("near", 1)],
    "waited": waited_deals,
    "plain_idle": lambda clock: [idle_of(clock)],
    "idle_waits": lambda clock: [((0, 1),) + (None,) * (size(clock) - 1)],
    "event": some_events,
    "event_text": lambda clock: [line_of_event(event) for event in some_events(clock)],
    "log": some_logs,
    "lines": lambda clock: [lines_of(log) for log in some_logs(clock)],
}

BAD_DEALS = [*JUNK, 1, (1,), (1, (1, 2, 0, 1, 2, 0), 0), [1, (1, 2, 0, 1, 2, 0)], (1, [1, 2, 0, 1, 2, 0]),
             (1, (1, 2, 0, 1, 2)), (1, (1, 2, 0, 1, 2, 0, 0)), (2, (2, 4, 0, 2, 4, 0)), (2, (0,) * 6), (0, (1,) * 6),
             (-1, (1,) * 6), (True, (1, 2, 0, 1, 2, 0)), (1, (True, 2, 0, 1, 2, 0)), (1, (1, 2, False, 1, 2, 0)),
             (1, (1, 2, None, 1, 2, 0)), (1, ()), ("1", (1,) * 6)]

BAD_PLAINS = [*BAD_DEALS, (1, (0,) * 6), (1, (1, 2, 0, -1, 2, 0)), (1, (-1,) * 6), (7, (-1, 0, 0, 0, 0, 0))]
SOME = (1, (1, 2, 0, 1, 2, 0))
LONG = 10 ** 60
BAD_EVENTS = [*JUNK, (), "mirror", ["mirror"], ("mirror", ()), ("mirror", SOME), ("mirror", None), ("Mirror",), ("mirror ",),
              ("right",), ("right", SOME, SOME), ["right", SOME], ("up", SOME), (None, SOME), (("right",), SOME),
              (SOME, "right"), ("right", (LONG, (1,) * 6)), ("left", (1, (0, 0, LONG, 0, 0, 0))),
              ("add", (7, (0, 0, 0, 0, 0, -LONG))), ("add", (LONG * 10 ** 39, (1,) * 6)), ("scale", SOME),
              ("scale", (LONG, 1)), ("scale", (-LONG, 7)), ("scale", (1, LONG)), ("scale", (1, LONG * 10 ** 39)),
              ("scale",), ("scale", 1, 2), ("scale", 2), ("turn",), ("turn", 1, 0), ("turn", 1), ("turn", (3, 0)),
              ("again",), ("again", 0), ("again", 7), ("again", -1), ("again", True), ("again", (2,)), ("again", 2, 2),
              ("fold",), ("fold", 3, 1, 0), ("fold", (1, 2, 0)), ("fold", (1, 2, 1)), ("begin", (3, ((2, 2),))),
              ("fold", (3, True, 0)), ("fold", [3, 1, 0]), ("unfold", (3, 1, 0)), (None, (3, 1, 0)), ("", (3, 1, 0)), ("deal", SOME), ("add_deal", SOME)]
SIX_BEGIN = ("begin", (3, ((2, 2),)))
BAD_LOGS = [*JUNK, (), "begin", SIX_BEGIN, [SIX_BEGIN], (["begin", (3, ((2, 2),))],), (("begin",),), (("mirror",),),
            (("begin", (3, ((2, 2),)), ()),), (("Begin", (3, ((2, 2),))),), (("begin", (3, ((2, 3),))),),
            (("begin", None),), (("begin", (True, ())),), (("begin", (3, ((2, 2),), 0)),),
            (("begin", (60, ((2, 1),))),), (SIX_BEGIN, SIX_BEGIN), (SIX_BEGIN, ["mirror"]),
            (SIX_BEGIN, ("mirror",), ("again", 7)), (SIX_BEGIN, ("right", (1, (1, 2)))), (("mirror",), SIX_BEGIN),
            (SIX_BEGIN, ("fold", (3, 1, 0)), ("right", SOME)), (SIX_BEGIN, ("fold", (3, 1, 0)), ("fold", (3, 1, 0))),
            (SIX_BEGIN, ("fold", (3, 2, 0)), ("turn", (0, 1))), (SIX_BEGIN, ("fold", (1, 2, 0))), (SIX_BEGIN, ())]

# bad values, for SIX
BAD = {
    "integer": lambda: NO_INTEGER,
    "number": lambda: [*NO_INTEGER, -1, -(10 ** 59)],
    "counted": lambda: [*NO_INTEGER, 0, -1, -6, 10001],
    "nonzero": lambda: [*NO_INTEGER, 0],
    "quotient": lambda: BAD_QUOTIENTS,
    "divider": lambda: [*BAD_QUOTIENTS, (0, 1)],
    "quotients": lambda: [None, 3, (1, 2), [], [(1, 2)], ((1, 2), (2, 4)), ((1, 2), 1), ((1, 2), (True, 1)), "()"],
    "turn": lambda: [*NO_INTEGER, -1, 2, 10 ** 59],
    "beat": lambda: [*NO_INTEGER, -1, 3, 10 ** 59],
    "place": lambda: [*NO_INTEGER, -1, 6, 10 ** 59],
    "a": lambda: [*NO_INTEGER, 0, -1, -3, 2, 6],
    "mover": lambda: [*NO_INTEGER, 0, 1, 3, (2, 2), -2],
    "prime": lambda: [*NO_INTEGER, 0, 1, 2, 6, -3],
    "move": lambda: [*JUNK, 0, (0,), (0, 0, 0), (3, 0), (0, 2), (-1, 0), (0, -1), (True, 0), (0, False), [0, 0]],
    "moves": lambda: [*JUNK, (), (0, 0), [(0, 0)], ((0, 0), (0, 0)), ((1, 0), (0, 0)), ((0, 0), (3, 0)),
                      ((0, False),), ([0, 0],), ((0, 0), (0, 1), (0, 1))],
    "part": lambda: [*JUNK, (1, 1), (1, 1, 0, 0), [1, 1, 0], (2, 1, 0), (1, 3, 0), (0, 1, 0), (1, 0, 0), (1, 1, 1),
                     (1, 2, 3), (1, 2, -1), (3, 2, 1), (True, 1, 0), (1, True, 0), (1, 1, False), (-1, 1, 0)],
    "kept": lambda: [*JUNK, (1, 2, 0), (1, 2, 1), (2, 1, 0), (3, 2, 1), [3, 1, 0], (3, True, 0), (3, 1)],
    "all_beats": lambda: [*JUNK, (1, 2, 0), (3, 2, 1), [3, 1, 0]],
    "folded_deal": lambda: [*BAD_DEALS, (1, (1, 2, 0, 1, 2, 0)), (1, (1,)), (2, (4, 2)), (1, (True, 2))],
    "move_set": lambda: [*JUNK, (0, 0), [(0, 0)], ((0, 0), (0, 0)), ((1, 0), (0, 0)), ((3, 0),), ((0, True),), [], ""],
    "weights": lambda: [*JUNK, (), (1,) * 5, (1,) * 7, [1] * 6, (1, 1, 1, 1, 1, True), (1, 1, 1, 1, 1, None), "111111"],
    "deal": lambda: BAD_DEALS,
    "deals": lambda: [None, True, 0, [], [(1, (1, 2, 0, 1, 2, 0))], (1, (1, 2, 0, 1, 2, 0)), (None,), ((1, (1,)),),
                      ((1, (1, 2, 0, 1, 2, 0)), (2, (2, 0, 0, 0, 0, 0))), DEEP_TUPLE],
    "piece": lambda: [*JUNK, (3, 2), (2, 1), (6, 1), (1, 3), (0, 1), (1, 0), (-1, 1), (True, 1), (1, True), [1, 1],
                      (1,), (1, 1, 1)],
    "last_piece": lambda: [*JUNK, (3, 2), (2, 1), (1, 4), (3, True), [3, 1], (3, 1, 0)],
    "last_place": lambda: [*JUNK, (3, 0), (0, 1), (-1, 0), (0, -1), (True, 0), (0, False), [0, 0], (0,), (0, 0, 0), 0],
    "rows": lambda: [None, True, 0, [], [[1]], [(1,)], ([1],), ((1,), (1, 2)), ((), (1,)), ((1, True),), ((1, None),),
                     (1, 2), ((1, "2"),), DEEP_TUPLE, ""],
    "rows_of_two": lambda: [None, [(1, 2)], ((1, 2), (3,)), ((1, True), (2, 3)), ((1, 2), [3, 4]), (1, 2), "12"],
    "row_of_two": lambda: [None, True, 1, (), (1,), (1, 2, 3), [1, 2], (1, True), (1, None), "12", ((1, 2),)],
    "deal_text": lambda: [None, True, 0, [], (), ["deal 1 0 0 0 0 0 0"], (1, (0,) * 6), DEEP_LIST],
    "clock_text": lambda: [None, True, 0, [], (), ["clock 6"], ("clock 6",), DEEP_LIST],
    "free_number": lambda: [*NO_INTEGER, 0, -1, 4, 12, -30, 10000, 10001, 10 ** 59],
    "piece_set": lambda: [*JUNK, (1, 1), [(1, 1)], ((1, 1), (1, 1)), ((3, 1), (1, 1)), ((1, 1), (3, 2)),
                          ((1, True),), ([1, 1],), "", []],
    "ones_sum": lambda: [*BAD_DEALS, (1, (1, 2, 0, 1, 2, 0)), (1, (2, 0, 0, 0, 0, 0)), (1, (-1, 0, 0, 0, 0, 0)),
                         (6, (2, 2, 2, 0, 0, 0)), (3, (2, 0, 0, -1, -1, 0)), (1, (1,) * 6)],
    "ranked": lambda: BAD_DEALS,
    "zero": lambda: BAD_DEALS,
    "first_piece": lambda: BAD["piece"](),
    "ranks": lambda: [*JUNK, (), (1, 1), (1, 1, 2, 0), [1, 1, 2], (2, 0, 0), (0, 2, 0), (0, 0, 3), (0, 0, -1),
                      (True, 0, 0), (1, None, 0), (1, (1,), 2), (1, 1, "2")],
    "alike": lambda: [*BAD_DEALS, (1, (1, 2, 0, 1, 2, 0)), (1, (1, 0, 0, 1, 0, 0)), (1, (1, 1, 2, 0, 0, 0))],
    "class_quotients": lambda: [*JUNK, (), ((1, 1),) * 2, ((1, 1),) * 4, [(1, 1)] * 3, ((1, 1), (1, 2), (2, 4)),
                                ((1, 1), (1, 2), 0), ((1, True), (1, 2), (1, 3)), ((1, 1), (1, 2), (1, -3))],
    "later": lambda: [*NO_INTEGER, 0, -1, 3, 10 ** 59],
    "whole": lambda: [*BAD_DEALS, (2, (1, 2, 0, 1, 2, 0)), (3, (0, 0, 0, 0, 0, 1))],
    "edge": lambda: [*NO_INTEGER, 0, -1, 61, 10 ** 59],
    "small_edge": lambda: [*NO_INTEGER, 0, -1, 9, 60],
    "edge_two": lambda: [*NO_INTEGER, 0, -1, 61],
    "falls_of_two": lambda: [*JUNK, (), (2,), (2, 1), (2, 2, 1), (1, 1, 1), (3, 2, 1), (2, 1, 0, 0), [2, 1, 0], (2, 1, 2),
                             (2, 0, -1), (2, True, 0), (2, 1, False), (2, 1, None), (2, 0, 1), "210"],
    "fall_rows": lambda: [*JUNK, (), ((1, 0), (1, 0)), ((1, 0), (1, 0), (2, 2, 1)), ((1, 0), (1, 0), (1, 0)),
                          [(1, 0), (1, 0), (2, 1, 0)], ((1, 0), (1, 0), [2, 1, 0]), ((1, 0), (1, 0), (2, 1, 0), (1, 0)),
                          ((1, 0), (True, 0), (2, 1, 0)), ((2, 1, 0), (1, 0), (1, 0)), ((1, 0), (0, 0), (2, 1, 0))],
    "first_falls": lambda: [*JUNK, (), (1,), (0, 0), (2, 1), (1, 0, 0), [1, 0], (1, 2), (1, -1), (True, 0), (1, False),
                            (1, None), "10"],
    "solved": lambda: BAD_DEALS,
    "hundred": lambda: BAD["number"](),
    "few": lambda: BAD["number"](),
    "idle_moves": lambda: BAD["moves"](),
    "plain": lambda: BAD_PLAINS,
    "plain_even": lambda: BAD_PLAINS,
    "waited": lambda: BAD_PLAINS,
    "plain_idle": lambda: BAD_PLAINS,
    "event": lambda: BAD_EVENTS,
    "event_text": lambda: BAD["clock_text"](),
    "log": lambda: BAD_LOGS,
    "lines": lambda: [None, True, 0, "", "clock 6", [], ["clock 6"], ("clock 6", None), (0,), (("clock 6",),), DEEP_TUPLE,
                      (True, "mirror"), ("clock 3 2 2", "mirror", ["mirror"])],
    "backed": lambda: BAD_DEALS,
    "side": lambda: [*JUNK, "", "Left", "up", "left ", ("left",), ["right"], 0, "leftright"],
}
