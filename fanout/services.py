"""Services that call one another: how long one call lasts, what it becomes, when it is quiet, at most."""

MOST_SERVICES = 16
MOST_STEPS = 4
MOST_LINKS = 4
MOST_TRIES = 5
LONGEST = 1000000
NUMBERS_PER_LINK = 4
# 2 ** 62, written out: a module's top holds plain values alone.
FIRST_TOO_LARGE = 4611686018427387904

NOT_THERE = -2
NOT_ALLOWED = -22
FULL = -28
RING = -41
TOO_LARGE = -75

BEGIN = 0
SERVICE = 1
STEP = 2
TIME = 3
CALLS = 4
ALL_OF = 5

# By a call's number: how many numbers it takes in the list, itself and a row's count among them.
WIDTHS = (1, 2, 3, 2, 3, 2, 2)


class Link:
    def __init__(self, whom, tries, patience, pause):
        self.whom = whom
        self.tries = tries
        self.patience = patience
        self.pause = pause

    def is_allowed(self):
        return 1 <= self.tries <= MOST_TRIES and self.patience <= LONGEST and self.pause <= LONGEST


class Service:
    def __init__(self, work):
        self.work = work
        self.steps = []

    def calls_only(self, known):
        for links in self.steps:
            for link in links:
                if link.whom not in known:
                    return False
        return True


def links_of(ls):
    return [Link(ls[k], ls[k + 1], ls[k + 2], ls[k + 3]) for k in range(0, len(ls), NUMBERS_PER_LINK)]


def step_is_allowed(links):
    if len(links) < 1 or len(links) > MOST_LINKS:
        return False
    return all([link.is_allowed() for link in links])


# Whom a service calls stands ahead of it, so that a walk always finds those worked out already.
# Who reaches a ring never has all of them ahead, and so is left out: that is how rings are told.
def called_first(services):
    order = []
    ready = numbers_ready(services, order)
    while len(ready) > 0:
        order.extend(ready)
        ready = numbers_ready(services, order)
    return order


def numbers_ready(services, order):
    waiting = [s for s in range(len(services)) if s not in order]
    return [s for s in waiting if services[s].calls_only(order)]


# Every part of a call only grows with the parts within it. So the call in which nothing ends early and
# every try is made is at once the longest, the one that becomes most, and the one that is quiet last.
def longest_times(services):
    times = {}
    for s in called_first(services):
        times[s] = longest_time(services[s], times)
    return times


def longest_time(service, times):
    total = service.work
    for links in service.steps:
        total += longest_step(links, times)
    return total


def longest_step(links, times):
    return max([last_try_start(link, times) + longest_try(link, times) for link in links])


def last_try_start(link, times):
    return (link.tries - 1) * (longest_try(link, times) + link.pause)


def longest_try(link, times):
    return min(times[link.whom], link.patience)


# A call that was given up goes on, so every try counts whole, whatever its patience.
def most_calls(services, counted):
    counts = {}
    for s in called_first(services):
        itself = 1 if s in counted else 0
        counts[s] = itself + calls_from_steps(services[s], counts)
    return counts


def calls_from_steps(service, counts):
    total = 0
    for links in service.steps:
        total += sum([link.tries * counts[link.whom] for link in links])
    return total


def latest_quiets(services):
    times = longest_times(services)
    quiets = {}
    for s in called_first(services):
        quiets[s] = latest_quiet(services[s], times, quiets)
    return quiets


# The next step waits for the links alone, not for what they gave up: so any step may be quiet last.
def latest_quiet(service, times, quiets):
    over = service.work
    latest = over
    for links in service.steps:
        latest = max(latest, over + latest_quiet_of_step(links, times, quiets))
        over += longest_step(links, times)
    return max(latest, over)


# Of a link's tries, none is quiet later than the last may be: that one begins last.
def latest_quiet_of_step(links, times, quiets):
    return max([last_try_start(link, times) + quiets[link.whom] for link in links])


def told_of(s, numbers):
    if s not in numbers:
        return [RING]
    return [0, numbers[s]]


def count_told_of(s, counts):
    if s in counts and counts[s] >= FIRST_TOO_LARGE:
        return [TOO_LARGE]
    return told_of(s, counts)


class Net:
    def __init__(self):
        self.services = []

    def begin(self):
        self.services = []
        return [0]

    def service(self, work):
        if work > LONGEST:
            return [NOT_ALLOWED]
        if len(self.services) == MOST_SERVICES:
            return [FULL]
        self.services.append(Service(work))
        return [len(self.services) - 1]

    def step(self, s, ls):
        if not self.has(s):
            return [NOT_THERE]
        links = links_of(ls)
        if not step_is_allowed(links):
            return [NOT_ALLOWED]
        if not all([self.has(link.whom) for link in links]):
            return [NOT_THERE]
        steps = self.services[s].steps
        if len(steps) == MOST_STEPS:
            return [FULL]
        steps.append(links)
        return [len(steps)]

    def time(self, s):
        if not self.has(s):
            return [NOT_THERE]
        return told_of(s, longest_times(self.services))

    def calls(self, s, t):
        if not self.has(s) or not self.has(t):
            return [NOT_THERE]
        return count_told_of(s, most_calls(self.services, [t]))

    def all_of(self, s):
        if not self.has(s):
            return [NOT_THERE]
        everyone = list(range(len(self.services)))
        return count_told_of(s, most_calls(self.services, everyone))

    def quiet(self, s):
        if not self.has(s):
            return [NOT_THERE]
        return told_of(s, latest_quiets(self.services))

    def has(self, s):
        return s < len(self.services)


def call_end(calls, start):
    end = start + WIDTHS[calls[start]]
    if calls[start] == STEP:
        end += calls[start + 2]
    return end


def answer_call(net, call):
    if call[0] == BEGIN:
        return net.begin()
    if call[0] == SERVICE:
        return net.service(call[1])
    if call[0] == STEP:
        return net.step(call[1], call[3:])
    if call[0] == TIME:
        return net.time(call[1])
    if call[0] == CALLS:
        return net.calls(call[1], call[2])
    if call[0] == ALL_OF:
        return net.all_of(call[1])
    # The table of widths has no other call than quiet left.
    return net.quiet(call[1])


def answers(calls):
    net = Net()
    told = []
    start = 0
    while start < len(calls):
        end = call_end(calls, start)
        answer = answer_call(net, calls[start:end])
        told.append(len(answer))
        told.extend(answer)
        start = end
    return told
