package store

// Blocks tells the blocks: no call of a node tells them by itself.
func (s *Store) Blocks() []int { return s.blocks[:] }

// Lines tells how many lines the journal has.
func (s *Store) Lines() int { return s.lines }
