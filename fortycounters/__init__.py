"""Machines that count: forty counters, and rules that take of them and give to them."""
