"""Storeways: code that stores and reads, and which stores each of its reads may have."""
