"""A machine of 1949: a store of short words, programs in letters, a tape and a printer."""
