"""Farfacts: authorization decisions over facts that lie elsewhere and change."""
