"""Writes calls as the interface asks for them, and takes answers apart."""

from fanout.services import answers

BEGIN = [0]


def service(work):
    return [1, work]


def step(s, *links):
    numbers = [number for link in links for number in link]
    return [2, s, len(numbers)] + numbers


def time(s):
    return [3, s]


def calls_of(s, t):
    """Asks how many calls of t a call of s becomes."""
    return [4, s, t]


def all_of(s):
    return [5, s]


def quiet(s):
    return [6, s]


def joined(calls):
    return [number for call in calls for number in call]


def split(told):
    parts = []
    while told:
        count = told[0]
        assert 1 <= count <= len(told) - 1, told
        parts.append(told[1:1 + count])
        told = told[1 + count:]
    return parts


def ask(*calls):
    """The answers to these calls behind a begin, the begin's own left out."""
    parts = split(answers(joined([BEGIN] + list(calls))))
    assert len(parts) == 1 + len(calls), parts
    assert parts[0] == [0], parts
    return parts[1:]


def last(*calls):
    return ask(*calls)[-1]


def asked_behind(calls, asked):
    """The answers to what is asked behind these calls, the calls' own left out."""
    return ask(*calls, *asked)[len(calls):]
