"""Calls as they are written in a line, and answers taken apart again."""

from spiderfly.box import answers

MOST = 4294967295

WAY = [3]
MANY = [5]
STRAIGHT = [6]
FARTHEST = [7]
FACES = [9]
STATE = [10]


def begins(*lengths):
    return [0, *lengths]


def spider(*point):
    return [1, *point]


def fly(*point):
    return [2, *point]


def over(*faces):
    return [4, len(faces), *faces]


def within(square):
    return [8, square]


def asked(*calls):
    """The answer to each call, as a list of its own."""
    told = answers([number for call in calls for number in call])
    apart = []
    while told:
        apart.append(told[1:1 + told[0]])
        told = told[1 + told[0]:]
    return apart


def last(*calls):
    return asked(*calls)[-1]


def placed(lengths, start, end):
    return [begins(*lengths), spider(*start), fly(*end)]
