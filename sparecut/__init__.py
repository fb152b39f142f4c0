"""Sparecut: long ladders of claims made shorter."""
