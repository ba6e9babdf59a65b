"""Clearday: debts cut round rings."""
