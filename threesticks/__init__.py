"""Triangles of sticks: threesticks.heap.answers(calls) answers a line of calls."""
