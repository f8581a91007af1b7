"""Kernels that do not commute, laid under a group."""
