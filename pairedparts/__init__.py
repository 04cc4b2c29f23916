"""Pairedparts: partitions of a number paired one to one."""
