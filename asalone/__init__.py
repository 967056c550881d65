"""Transactions over a store, each as if alone."""
