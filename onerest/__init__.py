"""onerest: rule books that set up trees of nodes, and whether every run ends in one way."""
