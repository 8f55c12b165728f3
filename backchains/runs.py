"""Chains, and their runs from a start."""

from backchains.changes import step_table
from backchains.linecode import run_code


class Chain:
    def __init__(self, parts, lines, outs):
        self.parts = parts
        self.lines = lines
        self.outs = outs


class Run:
    def __init__(self, steps, start):
        self.steps = steps
        # With a fault, the states and the lines' values of each step end where it came.
        self.states = [start]
        self.worked = []
        # A fault is told as step, line, number; no fault is an empty list.
        self.fault = []
        self.tables = []


def run_chain(chain, steps, start):
    run = Run(steps, start)
    for step in range(steps):
        ran = run_code(chain.lines, run.states[step] + [(step, 1)])
        values = ran[0]
        if ran[1]:
            run.fault = [step, len(values), ran[1]]
            return run
        run.worked.append(values)
        run.states.append([values[out] for out in chain.outs])
    return run


def tables_of(chain, run):
    """The tables of all steps of a run without a fault."""
    # Made when they are first asked for, since many runs never are turned back.
    if not run.tables:
        run.tables = [step_table(chain, values) for values in run.worked]
    return run.tables
