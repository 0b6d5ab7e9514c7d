"""Snuglay: shapes laid on a sheet of least length."""
