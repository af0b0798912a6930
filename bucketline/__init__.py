"""Bucketline: people who hand on buckets from a well to a fire."""
