"""Amounts: what molecules are made of and in what whole numbers they become others."""
