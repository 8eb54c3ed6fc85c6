"""A road laid over uneven ground; roadlaid.road holds what is called from outside."""
