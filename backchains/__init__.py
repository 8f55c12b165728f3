"""Chains of steps on exact fractions, and how their last state hangs on the first."""
