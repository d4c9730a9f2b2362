"""Goes through all that may happen in small nets, and asks that the longest of it is what time tells."""

import itertools
import random
import unittest

from helper import ask, service, step, time


def lengths_of_link(link, lengths):
    whom, tries, patience, pause = link
    one_try = {min(length, patience) for length in lengths[whom]}
    behind = set(one_try)
    happened = set(behind)
    for more in range(tries - 1):
        behind = {before + pause + this for before in behind for this in one_try}
        happened |= behind
    return happened


def lengths_of_step(links, lengths):
    each = [lengths_of_link(link, lengths) for link in links]
    return {max(chosen) for chosen in itertools.product(*each)}


def lengths_of_service(work, steps, lengths):
    behind = set(range(work + 1))
    happened = set(behind)
    for links in steps:
        of_step = lengths_of_step(links, lengths)
        behind = {before + this for before in behind for this in of_step}
        happened |= behind
    return happened


def small_net(source, count):
    """Works, and steps by service; a service calls only what stands behind it in a shuffled order."""
    order = list(range(count))
    source.shuffle(order)
    works = [source.randrange(4) for s in range(count)]
    steps = {s: [] for s in range(count)}
    for place in range(count - 1):
        for number in range(source.randrange(3)):
            steps[order[place]].append([
                (source.choice(order[place + 1:]), source.randrange(1, 4), source.randrange(7), source.randrange(4))
                for link in range(source.randrange(1, 4))])
    return order, works, steps


class WhatMayHappen(unittest.TestCase):
    def test_the_longest_is_told(self):
        source = random.Random(2026)
        for round_number in range(300):
            order, works, steps = small_net(source, source.randrange(1, 6))
            lengths = {}
            for s in reversed(order):
                lengths[s] = lengths_of_service(works[s], steps[s], lengths)
            calls = [service(work) for work in works]
            calls += [step(s, *links) for s in steps for links in steps[s]]
            told = ask(*calls, *[time(s) for s in range(len(works))])[len(calls):]
            expected = [[0, max(lengths[s])] for s in range(len(works))]
            self.assertEqual(told, expected, (works, steps))


def reaches_itself(s, edges):
    """Whether s comes back to itself, by walking every way out of it."""
    seen = []
    ahead = list(edges[s])
    while ahead:
        here = ahead.pop()
        if here not in seen:
            seen.append(here)
            ahead.extend(edges[here])
    return s in seen, seen


class Rings(unittest.TestCase):
    def test_told_just_where_one_is_reached(self):
        source = random.Random(16)
        for round_number in range(300):
            count = source.randrange(1, 17)
            pairs = [(source.randrange(count), source.randrange(count)) for k in range(source.randrange(count + 2))]
            edges = {s: [] for s in range(count)}
            calls = [service(1)] * count
            for s, whom in pairs:
                if len(edges[s]) < 4:
                    edges[s].append(whom)
                    calls.append(step(s, (whom, 1, 1, 1)))
            told = ask(*calls, *[time(s) for s in range(count)])[len(calls):]
            for s in range(count):
                on_ring, reached = reaches_itself(s, edges)
                ring = on_ring or any(reaches_itself(other, edges)[0] for other in reached)
                self.assertEqual(told[s] == [-41], ring, (s, edges))


if __name__ == "__main__":
    unittest.main()
