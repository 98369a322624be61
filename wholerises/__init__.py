"""Quotients of factorials that are integers for every n."""
