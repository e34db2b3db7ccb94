"""The calls: each takes rows of bytes and whole numbers, and answers one list of whole numbers."""

from onevalues.compare import order_values
from onevalues.faults import Fault
from onevalues.parts import read_whole
from onevalues.text_maker import make_text
from onevalues.text_reader import read_text


def judge(v):
    try:
        read_whole(v)
    except Fault as fault:
        return [-6, fault.kind, fault.place]
    return [0]


def about(v):
    try:
        whole = read_whole(v)
    except Fault:
        return [-6]
    return [0, whole.kind, whole.size, whole.depth]


def member(i, v):
    try:
        whole = read_whole(v)
    except Fault:
        return [-6]
    if i < 0 or i >= len(whole.members):
        return [-4]
    found = whole.members[i]
    return [0, found.name_place, found.name_length, found.place, found.end - found.place]


def order(a, b):
    try:
        first = read_whole(a)
        second = read_whole(b)
    except Fault:
        return [-6]
    return [order_values(a, first, b, second)]


def text(v):
    try:
        whole = read_whole(v)
    except Fault:
        return [-6]
    return [0] + make_text(v, whole)


def read(t):
    try:
        return [0] + read_text(t)
    except Fault as fault:
        return [-6, fault.kind, fault.place]
