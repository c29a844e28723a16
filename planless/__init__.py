"""Games of two hands that do not see all, played from two rows, without a plan."""
