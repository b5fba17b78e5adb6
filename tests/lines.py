"""Lays calls into one list, and takes the list that is answered apart again."""

from plainparty.parties import answers

TOP = 18446744073709551615


def add(*knows):
    return [0, len(knows), *knows]


def drop(u):
    return [1, u]


def link(u, v, on):
    return [2, u, v, on]


def linked(u, v):
    return [3, u, v]


def count():
    return [4]


def plan():
    return [5]


def crowd():
    return [6]


def loners():
    return [7]


def check_plan(*steps):
    return [8, len(steps), *steps]


def check_four(*four):
    return [9, len(four), *four]


def laid(calls):
    return [number for call in calls for number in call]


def taken_apart(told):
    """The answers as a list of lists; fails if a count doesn't fit."""
    apart = []
    at = 0
    while at < len(told):
        length = told[at]
        answer = told[at + 1:at + 1 + length]
        if length < 1 or len(answer) != length:
            raise AssertionError(f"a count that does not fit at {at} in {told}")
        apart.append(answer)
        at += 1 + length
    return apart


def answered(*calls):
    """The answers of these calls on a new party, a list for each call."""
    line = laid(calls)
    if not 1 <= len(calls) <= 60 or len(line) > 800:
        raise AssertionError(f"not a line: {len(calls)} calls, {len(line)} numbers")
    apart = taken_apart(answers(line))
    if len(apart) != len(calls):
        raise AssertionError(f"{len(calls)} calls, but {len(apart)} answers")
    return apart


def after(before, *calls):
    """The answers of these calls alone, made behind those of the list before."""
    return answered(*before, *calls)[len(before):]


def after_each(before, calls):
    """The answers of calls that change nothing, made behind those of the list before: on as many lines as it takes."""
    told = []
    line = []
    for call in calls:
        if len(before) + len(line) == 60 or len(laid(before)) + len(laid(line)) + len(call) > 800:
            told.extend(after(before, *line))
            line = []
        line.append(call)
    return told + after(before, *line)


def party_of(guests, friends):
    """Calls after which just these guests are there, and of them just these pairs know each other."""
    size = max(guests, default=-1) + 1
    knows = [[v for v in range(u) if frozenset((u, v)) in friends] for u in range(size)]
    return [*[add(*row) for row in knows], *[drop(u) for u in range(size) if u not in guests]]


def friends_of(*pairs_who_know):
    return {frozenset(pair) for pair in pairs_who_know}


def in_line(*guests):
    """Acquaintances of guests of whom each knows the next."""
    return friends_of(*zip(guests, guests[1:]))


def in_ring(*guests):
    return in_line(*guests) | friends_of((guests[0], guests[-1]))


def crowd_of(size):
    """Calls after which the guests below size are there and all know each other."""
    return [add(*range(guest)) for guest in range(size)]


def strangers(size):
    """Calls after which the guests below size are there and none know each other."""
    return [add() for guest in range(size)]


def pairs(guests):
    """Calls that ask of all pairs of these guests, in both orders."""
    return [linked(u, v) for u in guests for v in guests if u != v]


def known_pairs(before, guests):
    """Which of these guests know each other after the calls before: all (u, v), in both orders."""
    asked = pairs(guests)
    told = after(before, *asked)
    for answer in told:
        if answer not in ([0], [1]):
            raise AssertionError(f"linked answered {answer}")
    return {(call[1], call[2]) for call, answer in zip(asked, told) if answer == [1]}


def both_ways(*chosen):
    return {(u, v) for u, v in chosen} | {(v, u) for u, v in chosen}
