"""Nearlocks: a lock that stays near, by groups in groups."""
