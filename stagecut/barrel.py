"""Pipelines for several threads that take turns."""

from stagecut.flow import Flow


def run_barrel(plan, states, cycles):
    """What is done, as triples of a cycle, a thread and a record; and how often an instruction waited."""
    flow = Flow(plan, states)
    done = []
    for at in range(cycles):
        flow.let_in()
        for held in flow.work():
            done.append((at, flow.thread_of(held), flow.record(held)))
    return tuple(done), sum(flow.waited)
