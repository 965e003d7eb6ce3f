"""A planimeter, whole: a pointer on squared paper and the wheel that turns along."""
