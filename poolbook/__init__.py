"""Poolbook: tables of several houses, as one."""
