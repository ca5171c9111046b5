"""R1 to R6 over long lines of calls drawn from fixed seeds: looked at after each call by section, signal, train, count.

What a call must answer, and what it must leave, is told from what was seen before it, in the document's own order.
"""

import random
import unittest

from tests.helper import (
    SIGNALS, TRAINS, Seen, ask, back, cancel, count, front, lay, look, points, put, rear, route, section, signal,
    take, train, way,
)

LAY, PUT, TAKE, ROUTE, WAY, CANCEL, FRONT, REAR, BACK, POINTS, SECTION, SIGNAL, TRAIN, COUNT = range(14)


class Plan:
    """A track as it was drawn: the call that lays it and what it holds."""

    def __init__(self, kinds, pairs, signals):
        self.kinds = kinds
        self.signals = signals
        self.joined = dict(pairs) | {there: here for here, there in pairs}
        joints = [number for here, there in pairs for number in (*here, *there)]
        self.call = lay(kinds, joints, [number for spot in signals for number in spot])

    def outs(self, s, e, stance):
        """By which end a train goes out that comes into s by e, as its points stand; None if they stand against it."""
        if self.kinds[s] == 0:
            return {0: 1, 1: 0}[e]
        return {0: {0: 1, 1: 0}, 1: {0: 2, 2: 0}}[stance].get(e)

    def walk(self, i, choices):
        """The steps of a way from signal i, or the refusal of it."""
        left = list(choices)
        steps = []
        here = self.joined.get(self.signals[i])
        while here is not None:
            s, e = here
            if s in [step[0] for step in steps] or len(steps) == 16:
                return -7
            if self.kinds[s] == 1 and e == 0 and not left:
                return -2
            stance = left.pop(0) if self.kinds[s] == 1 and e == 0 else int(e == 2)
            out = (s, self.outs(s, e, stance))
            steps.append((s, e, out[1]))
            here = None if out in self.signals else self.joined.get(out)
        if left:
            return -2
        return steps or -3


def random_plan(source):
    sections = source.choice([3, 5, 6, 8, 10, 12, 18, 24])
    kinds = [int(source.randrange(4) == 0) for k in range(sections)]
    spots = [(k, e) for k in range(sections) for e in range(2 + kinds[k])]
    source.shuffle(spots)
    pairs = [(spots[k], spots[k + 1]) for k in range(0, len(spots) - 1 - 2 * source.randrange(2), 2)]
    signals = source.sample(spots, min(len(spots), source.randint(2, 2 + sections // 3)))
    return Plan(kinds, pairs, signals)


def ring_plan(source):
    """A ring of plain sections with points in it, whose third ends lead to plain ones of their own."""
    ring = source.randint(4, 12)
    branches = source.randint(1, 3)
    kinds = [int(k < branches) for k in range(ring)] + [0] * branches
    order = source.sample(range(ring), ring)
    ends = {k: source.choice([(0, 1), (1, 0)]) for k in order}
    pairs = [((k, ends[k][1]), (after, ends[after][0])) for k, after in zip(order, order[1:] + order[:1])]
    pairs += [((k, 2), (ring + k, source.randrange(2))) for k in range(branches)]
    spots = [(k, e) for k in range(ring) for e in (0, 1)] + [(ring + k, e) for k in range(branches) for e in (0, 1)]
    return Plan(kinds, pairs, source.sample(spots, source.randint(3, 6)))


def fit_choices(source, plan, i):
    """Choices by which there is a way from this signal, if three draws find some."""
    for again in range(3):
        choices = []
        while plan.walk(i, choices) == -2 and len(choices) < 5:
            choices.append(source.randrange(2))
        if isinstance(plan.walk(i, choices), list):
            return choices
    return choices


def wild_call(source, plan):
    """Any call, with numbers that are there or just not."""
    s = source.randrange(len(plan.kinds) + 1)
    i = source.randrange(len(plan.signals) + 1)
    k = source.randrange(4)
    choices = [source.choice([0, 1, 0, 1, 0, 1, 2]) for again in range(source.randrange(3))]
    return source.choice([
        put(s, source.randrange(4)), take(k), route(i, *choices), way(i, *choices), cancel(i), front(k), rear(k),
        back(k), points(s, source.randrange(3)), section(s), signal(i), train(k), count(),
    ])


def likely_call(source, plan, seen):
    """One that does something, more often than not."""
    i = source.randrange(len(plan.signals))
    turns = [s for s, kind in enumerate(plan.kinds) if kind == 1]
    drawn = source.randrange(12)
    if not seen.trains or drawn == 0:
        return put(*plan.signals[i])
    k = source.choice(sorted(seen.trains))
    if drawn < 4:
        at = seen.trains[k][0][0]
        ahead = plan.signals.index((at[0], at[2])) if (at[0], at[2]) in plan.signals else i
        return route(ahead, *fit_choices(source, plan, ahead))
    if drawn < 8:
        return front(k)
    if drawn < 10:
        return rear(k)
    if drawn == 10 and turns:
        return points(source.choice(turns), source.randrange(2))
    return back(k)


def random_line(seed, length):
    """Each call of a line, with what was seen before it, what it answers, and what is seen behind it."""
    source = random.Random(seed)
    plan = ring_plan(source) if seed % 2 else random_plan(source)
    calls = [plan.call]
    seen = Seen(calls)
    while len(calls) < length:
        call = wild_call(source, plan) if source.randrange(3) == 0 else likely_call(source, plan, seen)
        calls.append(call)
        behind = Seen(calls)
        yield plan, calls[:-1], seen, call, ask(*calls)[-1], behind
        seen = behind


def routes_seen(seen):
    """By signal: the sections in its route."""
    found = {i: [] for i, says in enumerate(seen.signals) if says == 1}
    for s, held in enumerate(seen.held):
        if held == 3:
            found[seen.holders[s]].append(s)
    return found


def steps_had(plan, seen, i):
    """The steps of the route set from signal i: by how the points stand, as far as the sections are its own."""
    steps = []
    here = plan.joined.get(plan.signals[i])
    while here is not None and (seen.held[here[0]], seen.holders[here[0]]) == (3, i) and len(steps) < 25:
        out = (here[0], plan.outs(*here, seen.stances[here[0]]))
        steps.append((*here, out[1]))
        here = None if out in plan.signals else plan.joined.get(out)
    return steps


def refusal_of_a_train(plan, seen, call):
    if call[1] not in seen.trains:
        return [-4]
    stands, given = seen.trains[call[1]]
    if call[0] in (TAKE, BACK) and given:
        return [-3]
    if call[0] == REAR and len(stands) == 1:
        return [-3]
    if call[0] == FRONT and not given:
        spot = (stands[0][0], stands[0][2])
        if spot not in plan.signals:
            return [-3]
        if seen.signals[plan.signals.index(spot)] == 0:
            return [-5]
    return None


def refusal_of_a_signal(plan, seen, call):
    i = call[1]
    if i >= len(plan.signals):
        return [-4]
    if call[0] == CANCEL:
        return None if seen.signals[i] == 1 else [-3]
    if call[0] == SIGNAL:
        return None
    if any(choice > 1 for choice in call[3:]):
        return [-1]
    steps = plan.walk(i, call[3:])
    if not isinstance(steps, list):
        return [steps]
    if call[0] == WAY:
        return None
    if seen.signals[i] == 1:
        return [-8]
    taken = [step[0] for step in steps if seen.held[step[0]] != 0]
    return [-5, 1, taken[0]] if taken else None


def refusal_of_a_section(plan, seen, call):
    s = call[1]
    there = s < len(plan.kinds)
    if call[0] == SECTION:
        return None if there else [-4]
    if call[0] == POINTS:
        if not there or plan.kinds[s] == 0 or call[2] > 1:
            return [-1]
        return [-5] if seen.held[s] != 0 else None
    if not there or call[2] > 1 + plan.kinds[s]:
        return [-1]
    if seen.held[s] != 0:
        return [-5]
    if plan.kinds[s] == 1 and call[2] == 2 - seen.stances[s]:
        return [-3]
    return [-6] if len(seen.trains) == 8 else None


def refusal(plan, seen, call):
    """The first that is due as the document tells them, None if the call must be done."""
    if call[0] == COUNT:
        return None
    if call[0] in (TAKE, FRONT, REAR, BACK, TRAIN):
        return refusal_of_a_train(plan, seen, call)
    if call[0] in (ROUTE, WAY, CANCEL, SIGNAL):
        return refusal_of_a_signal(plan, seen, call)
    return refusal_of_a_section(plan, seen, call)


class Kept:
    """What a box keeps: how points stand, trains, routes."""

    def __init__(self, plan, seen):
        self.stances = list(seen.stances)
        self.trains = dict(seen.trains)
        self.routes = {i: steps_had(plan, seen, i) for i in routes_seen(seen)}

    def told(self):
        return self.stances, self.trains, self.routes


def flat_steps(steps):
    return [3 * len(steps), *[number for step in steps for number in step]]


def do_by_train(kept, plan, call):
    k = call[1]
    stands, given = kept.trains[k]
    if call[0] == TAKE:
        kept.trains.pop(k)
        return [len(stands)]
    if call[0] == FRONT:
        ahead = given or kept.routes.pop(plan.signals.index((stands[0][0], stands[0][2])))
        kept.trains[k] = ([ahead[0], *stands], ahead[1:])
        return [ahead[0][0]]
    if call[0] == REAR:
        kept.trains[k] = (stands[:-1], given)
        return [len(stands) - 1]
    if call[0] == BACK:
        kept.trains[k] = ([(s, out, e) for s, e, out in stands[::-1]], [])
        return [len(stands)]
    return [len(stands), *flat_steps(stands), *flat_steps(given)]


def do_by_signal(kept, plan, call):
    i = call[1]
    if call[0] == CANCEL:
        return [len(kept.routes.pop(i))]
    if call[0] == SIGNAL:
        return [int(i in kept.routes)]
    steps = plan.walk(i, call[3:])
    if call[0] == WAY:
        return [len(steps), *flat_steps(steps)]
    kept.routes[i] = steps
    for s, e, out in steps:
        if plan.kinds[s] == 1:
            kept.stances[s] = max(e, out) - 1
    return [len(steps)]


def do_by_section(kept, plan, seen, call):
    s = call[1]
    if call[0] == SECTION:
        holder = [] if seen.held[s] == 0 else [seen.holders[s]]
        return [seen.held[s], 1 + len(holder), seen.stances[s], *holder]
    if call[0] == POINTS:
        kept.stances[s] = call[2]
        return [0]
    k = min(set(TRAINS) - set(kept.trains))
    kept.trains[k] = ([(s, plan.outs(s, call[2], kept.stances[s]), call[2])], [])
    return [k]


def do(kept, plan, seen, call):
    """Changes what is kept as the call does that isn't refused, and gives what it answers."""
    if call[0] == COUNT:
        return [len(kept.trains), 2, len(kept.routes), seen.held.count(0)]
    if call[0] in (TAKE, FRONT, REAR, BACK, TRAIN):
        return do_by_train(kept, plan, call)
    if call[0] in (ROUTE, WAY, CANCEL, SIGNAL):
        return do_by_signal(kept, plan, call)
    return do_by_section(kept, plan, seen, call)


class Promises(unittest.TestCase):
    LINES = 24
    LENGTH = 110

    @classmethod
    def setUpClass(cls):
        cls.moves = [move for seed in range(cls.LINES) for move in random_line(seed, cls.LENGTH)]

    def test_the_lines_reach_what_they_are_for(self):
        reached = {(call[0], min(answer[0], 0)) for plan, calls, before, call, answer, after in self.moves}
        wanted = {
            PUT: (0, -1, -3, -5), TAKE: (0, -3, -4), ROUTE: (0, -1, -2, -3, -4, -5, -7, -8), WAY: (0, -1, -2, -4),
            CANCEL: (0, -3, -4), FRONT: (0, -3, -4, -5), REAR: (0, -3, -4), BACK: (0, -3, -4), POINTS: (0, -1, -5),
            SECTION: (0, -4), SIGNAL: (0, -4), TRAIN: (0, -4), COUNT: (0,),
        }
        for number, answers in wanted.items():
            for answer in answers:
                self.assertIn((number, answer), reached)
        trains = [kept for move in self.moves for kept in move[5].trains.values()]
        self.assertGreater(max(len(stands) for stands, given in trains), 5)
        self.assertGreater(max(len(given) for stands, given in trains), 2)
        self.assertGreater(max(len(move[5].trains) for move in self.moves), 3)
        self.assertEqual({held for move in self.moves for held in move[5].held}, {0, 1, 2, 3})

    def test_trains_are_turned_about_over_points_that_stand_either_way(self):
        turned = set()
        for plan, calls, before, call, answer, after in self.moves:
            if call[0] == BACK and answer[0] > 1:
                turned |= {before.stances[step[0]] for step in before.trains[call[1]][0] if plan.kinds[step[0]] == 1}
        self.assertEqual(turned, {0, 1})

    def test_r1_each_section_belongs_to_one_at_most(self):
        for plan, calls, before, call, answer, after in self.moves:
            had = []
            for k, (stands, given) in after.trains.items():
                had += [(step[0], 1, k) for step in stands] + [(step[0], 2, k) for step in given]
            for i in routes_seen(after):
                had += [(step[0], 3, i) for step in steps_had(plan, after, i)]
            self.assertEqual(len({s for s, held, holder in had}), len(had), calls)
            had += [(s, 0, None) for s in range(len(plan.kinds)) if s not in [entry[0] for entry in had]]
            told = [(s, after.held[s], after.holders[s]) for s in range(len(plan.kinds))]
            self.assertEqual(sorted(had, key=lambda entry: entry[0]), told, calls)

    def test_r2_points_stand_as_they_must(self):
        for plan, calls, before, call, answer, after in self.moves:
            rows = [stands[::-1] + given for stands, given in after.trains.values()]
            for steps in rows + [steps_had(plan, after, i) for i in routes_seen(after)]:
                for s, e, out in steps:
                    self.assertEqual(plan.outs(s, e, after.stances[s]), out, calls)
                for here, there in zip(steps, steps[1:]):
                    self.assertEqual(plan.joined[(here[0], here[2])], there[:2], calls)

    def test_r2_only_free_points_turn(self):
        for plan, calls, before, call, answer, after in self.moves:
            for s in range(len(plan.kinds)):
                if before.stances[s] != after.stances[s]:
                    self.assertEqual((before.held[s], plan.kinds[s]), (0, 1), calls)
                    self.assertIn(call[0], (ROUTE, POINTS))

    def test_r3_a_train_goes_on_or_stands_where_it_must(self):
        for plan, calls, before, call, answer, after in self.moves:
            for k, (stands, given) in after.trains.items():
                told = ask(*calls, call, front(k))[-1]
                spot = (stands[0][0], stands[0][2])
                if given:
                    self.assertEqual(told, [given[0][0]], calls)
                elif spot not in plan.signals:
                    self.assertEqual(told, [-3], calls)
                elif after.signals[plan.signals.index(spot)] == 0:
                    self.assertEqual(told, [-5], calls)
                else:
                    self.assertEqual(told, [plan.joined[spot][0]], calls)

    def test_r4_a_route_is_set_just_if_all_its_way_is_free(self):
        for plan, calls, before, call, answer, after in self.moves:
            if call[0] != ROUTE or refusal_of_a_signal(plan, before, [WAY, *call[1:]]) or before.signals[call[1]]:
                continue
            way_there = [step[0] for step in plan.walk(call[1], call[3:])]
            self.assertEqual(answer[0] > 0, set(way_there) <= set(before.free()), calls)
            self.assertEqual(after.signals[call[1]], int(answer[0] > 0), calls)

    def test_r4_past_a_signal_it_says_stop_again(self):
        for plan, calls, before, call, answer, after in self.moves:
            for i in range(len(plan.signals)):
                if before.signals[i] == 0 and after.signals[i] == 1:
                    self.assertEqual((call[0], call[1]), (ROUTE, i), calls)
                if before.signals[i] == 1 and after.signals[i] == 0 and call[0] != CANCEL:
                    step = before.trains[call[1]][0][0]
                    self.assertEqual((call[0], step[0], step[2]), (FRONT, *plan.signals[i]), calls)
            if call[0] == FRONT and answer[0] >= 0:
                step = before.trains[call[1]][0][0]
                if (step[0], step[2]) in plan.signals:
                    self.assertEqual(after.signals[plan.signals.index((step[0], step[2]))], 0, calls)

    def test_r5_what_is_left_behind_is_free(self):
        for plan, calls, before, call, answer, after in self.moves:
            if answer[0] < 0 or call[0] not in (REAR, TAKE, CANCEL):
                continue
            if call[0] == REAR:
                left = [before.trains[call[1]][0][-1][0]]
            elif call[0] == TAKE:
                left = [step[0] for step in before.trains[call[1]][0]]
            else:
                left = routes_seen(before)[call[1]]
            self.assertEqual(after.free(), sorted(before.free() + left), calls)

    def test_r6_refused_just_as_told(self):
        for plan, calls, before, call, answer, after in self.moves:
            due = refusal(plan, before, call)
            if due is None:
                self.assertGreaterEqual(answer[0], 0, (calls, call))
            else:
                self.assertEqual(answer, due, (calls, call))

    def test_r6_what_is_refused_or_only_tells_changes_nothing(self):
        for plan, calls, before, call, answer, after in self.moves:
            if answer[0] < 0 or call[0] in (WAY, SECTION, SIGNAL, TRAIN, COUNT):
                self.assertEqual(after.all_told, before.all_told, (calls, call))

    def test_what_is_answered_and_what_is_left(self):
        for plan, calls, before, call, answer, after in self.moves:
            if refusal(plan, before, call) is None:
                kept = Kept(plan, before)
                self.assertEqual(answer, do(kept, plan, before, call), (calls, call))
                self.assertEqual(Kept(plan, after).told(), kept.told(), (calls, call))

    def test_count_tells_what_the_others_tell(self):
        for plan, calls, before, call, answer, after in self.moves:
            self.assertEqual(after.counts, [len(after.trains), 2, sum(after.signals), len(after.free())], calls)

    def test_none_are_told_of_that_are_not_there(self):
        for plan, calls, before, call, answer, after in self.moves:
            self.assertEqual(len(after.held), len(plan.kinds), calls)
            self.assertEqual(len(after.signals), len(plan.signals), calls)

    def test_a_second_lay_is_as_the_first(self):
        other = random_plan(random.Random(1000))
        goes_on = [call for plan, calls, before, call, answer, after in random_line(1000, 40)]
        first = ask(other.call, *goes_on)
        for plan, calls, before, call, answer, after in self.moves[::60]:
            self.assertEqual(ask(*calls, other.call, *goes_on)[len(calls):], first)
            self.assertEqual(Seen([*calls, other.call]).all_told, Seen([other.call]).all_told)

    def test_a_lay_that_is_refused_changes_nothing(self):
        for plan, calls, before, call, answer, after in self.moves[::60]:
            for refused in (lay([]), lay([0] * 25), lay([0, 1], [0, 0, 0, 0]), lay([0, 1], [], [0, 1, 0, 1])):
                self.assertEqual(ask(*calls, refused)[-1], [-1])
                self.assertEqual(Seen([*calls, refused]).all_told, before.all_told)

    def test_the_track_stays(self):
        for plan, calls, before, call, answer, after in self.moves[::40]:
            asked = [way(i, *c) for i in SIGNALS for c in ([], [0], [1])]
            self.assertEqual(ask(*calls, call, *asked)[-72:], ask(plan.call, *asked)[1:])
            if answer[0] < 0:
                self.assertEqual(look([*calls, call]), look(calls))


if __name__ == "__main__":
    unittest.main()
