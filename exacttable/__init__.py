"""Exacttable: tables of counts with told sums, one by one and all together."""
