"""Stalestack: a pile shared by hands through compare and exchange alone."""
