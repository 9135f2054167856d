"""Waryrig: faults told apart where looking can do harm."""
