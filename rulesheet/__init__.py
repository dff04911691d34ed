"""Rulesheet: cells that tell of other cells."""
