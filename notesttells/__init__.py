"""Drawing machines that stand for one another in every surrounding."""
