"""The calls: each takes rows of bytes and whole numbers, and answers one list of whole numbers."""

from onevalues.books import read_book
from onevalues.changes import take_at
from onevalues.compare import order_values
from onevalues.differences import differ_row
from onevalues.faults import Fault
from onevalues.fitting import FITS, hold_against
from onevalues.parts import read_whole
from onevalues.patches import ADD, PUT, Step, do_patch, do_step, read_patch
from onevalues.paths import lead, read_path
from onevalues.reader import HIGHEST_VARYING, Reader
from onevalues.reckoning import is_operation, need_number, reckon
from onevalues.refusals import Refusal, WrongBook
from onevalues.rows import number_row, vary_row
from onevalues.text_maker import make_text
from onevalues.text_reader import read_text
from onevalues.trees import make_tree, tree_row


def judge(v):
    try:
        read_whole(v)
    except Fault as fault:
        return [-6, fault.kind, fault.place]
    return [0]


def about(v):
    try:
        whole = read_whole(v)
    except Fault:
        return [-6]
    return [0, whole.kind, whole.size, whole.depth]


def member(i, v):
    try:
        whole = read_whole(v)
    except Fault:
        return [-6]
    if i < 0 or i >= len(whole.members):
        return [-4]
    found = whole.members[i]
    return [0, found.name_place, len(found.name), found.place, found.end - found.place]


def order(a, b):
    try:
        first = read_whole(a)
        second = read_whole(b)
    except Fault:
        return [-6]
    return [order_values(a, first, b, second)]


def text(v):
    try:
        whole = read_whole(v)
    except Fault:
        return [-6]
    return [0] + make_text(v, whole)


def read(t):
    try:
        return [0] + read_text(t)
    except Fault as fault:
        return [-6, fault.kind, fault.place]


def get(v, p):
    try:
        whole = read_whole(v)
        found = lead(whole, read_path(p, read_whole(p)))
    except Fault:
        return [-6]
    except Refusal as refusal:
        return refusal.answer
    return [0, found.place, found.end - found.place]


def put(v, p, x):
    return change_with(PUT, v, p, x)


def take(v, p):
    try:
        whole = read_whole(v)
        steps = read_path(p, read_whole(p))
        return [0] + tree_row(take_at(make_tree(v, whole), steps))
    except Fault:
        return [-6]
    except Refusal as refusal:
        return refusal.answer


def add(v, p, x):
    return change_with(ADD, v, p, x)


# All that is handed in is judged before the path is looked at.
def change_with(action, v, p, x):
    try:
        whole = read_whole(v)
        path_whole = read_whole(p)
        x_whole = read_whole(x)
        step = Step(action, read_path(p, path_whole), x_whole)
        return [0] + tree_row(do_step(make_tree(v, whole), x, step))
    except Fault:
        return [-6]
    except Refusal as refusal:
        return refusal.answer


def patch(v, p):
    try:
        whole = read_whole(v)
        steps = read_patch(p, read_whole(p))
        return [0] + tree_row(do_patch(make_tree(v, whole), p, steps))
    except Fault:
        return [-6]
    except Refusal as refusal:
        return refusal.answer


def differ(a, b):
    try:
        first = read_whole(a)
        second = read_whole(b)
        return [0] + differ_row(a, first, b, second)
    except Fault:
        return [-6]
    except Refusal as refusal:
        return refusal.answer


# The operation is looked at before what it is done with.
def number(op, a, b):
    if not is_operation(op):
        return [-1]
    try:
        first = read_whole(a)
        second = read_whole(b)
        return [0] + number_row(reckon(op, need_number(a, first), need_number(b, second)))
    except Fault:
        return [-6]
    except Refusal as refusal:
        return refusal.answer


def form(f):
    try:
        read_book(f, read_whole(f))
    except Fault:
        return [-6]
    except Refusal as refusal:
        return refusal.answer
    return [0]


def fits(v, f):
    try:
        whole = read_whole(v)
        told = hold_against(v, whole, read_book(f, read_whole(f)))
    except Fault:
        return [-6]
    except WrongBook:
        return [-5]
    return [1] if told == FITS else [0, told]


def vary(n):
    if n < 0 or n > HIGHEST_VARYING:
        return [-1]
    return [0] + vary_row(n)


# Bytes behind the varying number are not looked at.
def unvary(b):
    reader = Reader(b)
    try:
        amount = reader.read_varying()
    except Fault:
        return [-6]
    return [0, amount, reader.place]
