"""Dyeings of wool shared out over the rows of a chart."""
