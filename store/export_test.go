package store

// Lines tells how many lines the journal has.
func (s *Store) Lines() int { return s.lines }
