"""Oneparts: fractions as sums of different parts of one."""
