"""Timesagain: what can be reckoned by handing functions on, and nothing else."""
