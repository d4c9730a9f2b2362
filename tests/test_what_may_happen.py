"""Goes through all that may happen in small nets, and asks that the most of it is what is told."""

import functools
import itertools
import random
import unittest

from helper import all_of, asked_behind, calls_of, quiet, service, step, time


def lengths_of_link(link, lengths):
    whom, tries, patience, pause = link
    one_try = {min(length, patience) for length in lengths[whom]}
    behind = set(one_try)
    happened = set(behind)
    for more in range(tries - 1):
        behind = {before + pause + this for before in behind for this in one_try}
        happened |= behind
    return happened


def lengths_of_step(links, lengths):
    each = [lengths_of_link(link, lengths) for link in links]
    return {max(chosen) for chosen in itertools.product(*each)}


def lengths_of_service(work, steps, lengths):
    behind = set(range(work + 1))
    happened = set(behind)
    for links in steps:
        of_step = lengths_of_step(links, lengths)
        behind = {before + this for before in behind for this in of_step}
        happened |= behind
    return happened


def small_net(source, count):
    """Works, and steps by service; a service calls only what stands behind it in a shuffled order."""
    order = list(range(count))
    source.shuffle(order)
    works = [source.randrange(4) for s in range(count)]
    steps = {s: [] for s in range(count)}
    for place in range(count - 1):
        for number in range(source.randrange(3)):
            steps[order[place]].append([
                (source.choice(order[place + 1:]), source.randrange(1, 4), source.randrange(7), source.randrange(4))
                for link in range(source.randrange(1, 4))])
    return order, works, steps


def net_calls(works, steps):
    return [service(work) for work in works] + [step(s, *links) for s in steps for links in steps[s]]


def told_numbers(works, steps, asked):
    """What is told, where nothing is refused."""
    told = asked_behind(net_calls(works, steps), asked)
    assert all(len(answer) == 2 and answer[0] == 0 for answer in told), told
    return [number for zero, number in told]


class TheLongest(unittest.TestCase):
    def test_it_is_told(self):
        source = random.Random(2026)
        for round_number in range(300):
            order, works, steps = small_net(source, source.randrange(1, 6))
            lengths = {}
            for s in reversed(order):
                lengths[s] = lengths_of_service(works[s], steps[s], lengths)
            told = told_numbers(works, steps, [time(s) for s in range(len(works))])
            self.assertEqual(told, [max(lengths[s]) for s in range(len(works))], (works, steps))


# From here on a happening of a call is how long it lasts, and every call that it becomes: whose, from when, until when.


def later(made, start):
    return tuple((s, begun + start, over + start) for s, begun, over in made)


def one_behind_another(befores, pause, others):
    return {(length + pause + more, tuple(sorted(made + later(others_made, length + pause))))
            for length, made in befores for more, others_made in others}


def at_once(happenings, others):
    return {(max(length, other), tuple(sorted(made + others_made)))
            for length, made in happenings for other, others_made in others}


def happenings_of_link(link, known):
    whom, tries, patience, pause = link
    one_try = {(min(length, patience), made) for length, made in known[whom]}
    behind = one_try
    happened = set(behind)
    for more in range(tries - 1):
        behind = one_behind_another(behind, pause, one_try)
        happened |= behind
    return happened


def happenings_of_service(s, work, steps, known):
    behind = {(worked, ()) for worked in range(work + 1)}
    happened = set(behind)
    for links in steps:
        of_step = functools.reduce(at_once, [happenings_of_link(link, known) for link in links])
        behind = one_behind_another(behind, 0, of_step)
        happened |= behind
    return {(length, tuple(sorted(made + ((s, 0, length),)))) for length, made in happened}


def most_happenings(work, steps, known):
    """How many happenings there are, the same ones counted each time: whether it's few enough to go through."""
    total = behind = work + 1
    for links in steps:
        for whom, tries, patience, pause in links:
            behind *= sum(len(known[whom]) ** number for number in range(1, tries + 1))
        total += behind
    return total


def tiny_net(source, count):
    """Like a small one, but every service calls the one behind it, so that what is given up goes deep."""
    works = [source.randrange(3) for s in range(count)]
    steps = {s: [] for s in range(count)}
    for s in range(count - 1):
        for number in range(source.choice((1, 1, 2))):
            steps[s].append([
                (source.choice((s + 1, source.randrange(s + 1, count))), source.choice((1, 1, 2, 3)),
                 source.randrange(4), source.randrange(3))
                for link in range(source.choice((1, 1, 2)))])
    return works, steps


def gone_through(works, steps, most):
    """All happenings by service, or None where there are too many to go through."""
    known = {}
    for s in reversed(range(len(works))):
        if most_happenings(works[s], steps[s], known) > most:
            return None
        known[s] = happenings_of_service(s, works[s], steps[s], known)
    return known


def deepest(steps):
    depths = {}
    for s in reversed(range(len(steps))):
        depths[s] = 1 + max([depths[link[0]] for links in steps[s] for link in links], default=0)
    return depths[0]


class AllOfIt(unittest.TestCase):
    """Never more than told, and just so at least once."""

    def nets(self, seed, many):
        source = random.Random(seed)
        found = 0
        while found < many:
            works, steps = tiny_net(source, source.choice((1, 2, 2, 3, 3, 4, 4)))
            known = gone_through(works, steps, 6000)
            if known is not None:
                found += 1
                yield works, steps, known

    def check(self, works, steps, known, ask_for, number_of):
        count = len(works)
        told = told_numbers(works, steps, [ask_for(s) for s in range(count)])
        most = [max(number_of(happening) for happening in known[s]) for s in range(count)]
        self.assertEqual(told, most, (works, steps))

    def test_all_four_are_just_the_most_of_it(self):
        depths, given_up = [], 0
        for works, steps, known in self.nets(4, 150):
            self.check(works, steps, known, time, lambda happening: happening[0])
            self.check(works, steps, known, quiet, lambda happening: max(over for s, begun, over in happening[1]))
            self.check(works, steps, known, all_of, lambda happening: len(happening[1]))
            for t in range(len(works)):
                self.check(works, steps, known, lambda s: calls_of(s, t),
                           lambda happening: [s for s, begun, over in happening[1]].count(t))
            depths.append(deepest(steps))
            lasts, is_quiet = told_numbers(works, steps, [time(0), quiet(0)])
            given_up += lasts < is_quiet
        # The nets are worth going through: deep ones are among them, and such as are quiet when over, and not.
        self.assertGreaterEqual(max(depths), 4)
        self.assertGreaterEqual(depths.count(3), 20)
        self.assertGreater(given_up, 30)
        self.assertLess(given_up, 120)

    def test_something_happens_by_which_all_four_are_just_so_at_once(self):
        for works, steps, known in self.nets(5, 50):
            count = len(works)
            for s in range(count):
                asked = [time(s), quiet(s), all_of(s)] + [calls_of(s, t) for t in range(count)]
                told = told_numbers(works, steps, asked)
                found = []
                for length, made in known[s]:
                    called = [whose for whose, begun, over in made]
                    found.append([length, max(over for whose, begun, over in made), len(made)]
                                 + [called.count(t) for t in range(count)])
                self.assertIn(told, found, (works, steps, s))


class WaitedFor(unittest.TestCase):
    """Where every call that's reached is waited for at least as long as it lasts at most, quiet is time."""

    def waited_net(self, source, count, beyond):
        works = [source.randrange(100) for s in range(count)]
        steps = {s: [] for s in range(count)}
        for s in reversed(range(count - 1)):
            for number in range(source.randrange(3)):
                whom = [source.randrange(s + 1, count) for link in range(source.randrange(1, 5))]
                lasts = told_numbers(works, steps, [time(called) for called in whom])
                steps[s].append([(called, source.randrange(1, 4), length + beyond, source.randrange(50))
                                 for called, length in zip(whom, lasts)])
        return works, steps

    def test_quiet_is_time(self):
        source = random.Random(62)
        for round_number in range(100):
            count = source.randrange(1, 7)
            works, steps = self.waited_net(source, count, source.choice((0, 0, 1, 100)))
            self.assertEqual(told_numbers(works, steps, [quiet(s) for s in range(count)]),
                             told_numbers(works, steps, [time(s) for s in range(count)]), (works, steps))

    def test_quiet_is_never_ahead_of_time(self):
        source = random.Random(75)
        for round_number in range(100):
            order, works, steps = small_net(source, source.randrange(1, 6))
            lasts = told_numbers(works, steps, [time(s) for s in range(len(works))])
            quiets = told_numbers(works, steps, [quiet(s) for s in range(len(works))])
            self.assertTrue(all(length <= is_quiet for length, is_quiet in zip(lasts, quiets)), (works, steps))


def reaches_itself(s, edges):
    """Whether s comes back to itself, by walking every way out of it."""
    seen = []
    ahead = list(edges[s])
    while ahead:
        here = ahead.pop()
        if here not in seen:
            seen.append(here)
            ahead.extend(edges[here])
    return s in seen, seen


class Rings(unittest.TestCase):
    def test_told_just_where_one_is_reached(self):
        source = random.Random(16)
        for round_number in range(300):
            count = source.randrange(1, 17)
            pairs = [(source.randrange(count), source.randrange(count)) for k in range(source.randrange(count + 2))]
            edges = {s: [] for s in range(count)}
            calls = [service(1)] * count
            for s, whom in pairs:
                if len(edges[s]) < 4:
                    edges[s].append(whom)
                    calls.append(step(s, (whom, 1, 1, 1)))
            for s in range(count):
                on_ring, reached = reaches_itself(s, edges)
                ring = on_ring or any(reaches_itself(other, edges)[0] for other in reached)
                asked = [time(s), all_of(s), quiet(s)] + [calls_of(s, t) for t in range(count)]
                told = asked_behind(calls, asked)
                self.assertEqual([answer == [-41] for answer in told], [ring] * len(asked), (s, edges))


if __name__ == "__main__":
    unittest.main()
