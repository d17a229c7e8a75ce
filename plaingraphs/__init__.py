"""Graphs that are put together simply, told with a proof either way: see plaingraphs.graphs."""
