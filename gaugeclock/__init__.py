"""Tidehall: gauges. The program's one function is answers, in gaugeclock.gauges."""
