"""Sendershade: letters through mixing houses, and exactly who may have sent them."""
