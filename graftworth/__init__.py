"""Graftworth: sums of trees of operations, and relations placed within trees."""
