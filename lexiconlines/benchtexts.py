"""Texts of benches, and benches made again from texts and journals."""

from lexiconlines.bench import Bench, bench_in
from lexiconlines.benchlines import state_of


def write_bench(bench):
    """The text of a bench."""
    return bench.text()


def read_bench(text):
    """A bench with a text, without history, sessions and log."""
    return bench_in(state_of(text))


def replayed(journal):
    """A new bench on which the steps of a journal were done, one by one."""
    bench = Bench()
    for step in journal:
        bench.do(*step)
    return bench
