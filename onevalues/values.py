"""The calls: each takes rows of bytes and whole numbers, and answers one list of whole numbers."""

from onevalues.changes import put_at, take_at
from onevalues.compare import order_values
from onevalues.faults import Fault
from onevalues.parts import read_whole
from onevalues.paths import lead, read_path
from onevalues.refusals import Refusal
from onevalues.text_maker import make_text
from onevalues.text_reader import read_text


def judge(v):
    try:
        read_whole(v)
    except Fault as fault:
        return [-6, fault.kind, fault.place]
    return [0]


def about(v):
    try:
        whole = read_whole(v)
    except Fault:
        return [-6]
    return [0, whole.kind, whole.size, whole.depth]


def member(i, v):
    try:
        whole = read_whole(v)
    except Fault:
        return [-6]
    if i < 0 or i >= len(whole.members):
        return [-4]
    found = whole.members[i]
    return [0, found.name_place, found.name_length, found.place, found.end - found.place]


def order(a, b):
    try:
        first = read_whole(a)
        second = read_whole(b)
    except Fault:
        return [-6]
    return [order_values(a, first, b, second)]


def text(v):
    try:
        whole = read_whole(v)
    except Fault:
        return [-6]
    return [0] + make_text(v, whole)


def read(t):
    try:
        return [0] + read_text(t)
    except Fault as fault:
        return [-6, fault.kind, fault.place]


def get(v, p):
    try:
        whole = read_whole(v)
        found = lead(v, whole, read_path(p, read_whole(p)))
    except Fault:
        return [-6]
    except Refusal as refusal:
        return refusal.answer
    return [0, found.place, found.end - found.place]


# All that is handed in is judged before the path is looked at.
def put(v, p, x):
    try:
        whole = read_whole(v)
        path_whole = read_whole(p)
        x_whole = read_whole(x)
        return [0] + put_at(v, whole, read_path(p, path_whole), x, x_whole.depth)
    except Fault:
        return [-6]
    except Refusal as refusal:
        return refusal.answer


def take(v, p):
    try:
        whole = read_whole(v)
        return [0] + take_at(v, whole, read_path(p, read_whole(p)))
    except Fault:
        return [-6]
    except Refusal as refusal:
        return refusal.answer
