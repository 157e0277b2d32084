// Package store: what a node keeps, and how it is made safe on a disk.
//
// What is kept changes by messages alone, those that came in and those that the node tells itself. The journal, a file, has these messages one behind another; when it has far more of them than what is kept needs, it is written anew.
package store

import "keystone/api"

// slack is how many lines more than twice those needed the journal may have: so that it is seldom written anew.
const slack = 64

// Store is what a node keeps, with the disk on which it is safe.
type Store struct {
	state
	disk  *api.Disk
	lines int
	whole bool // whether lines may be laid behind the journal's last one
}

// Open finds what a node kept; on a disk without files that is what it keeps at first.
func Open(id int, nodes int, d *api.Disk) *Store {
	list, whole := readLines(d.Read(journal))
	s := &Store{state: firstState(id, nodes), disk: d, lines: len(list), whole: whole}
	for _, m := range list {
		s.apply(m)
	}
	return s
}

// Save makes the change that a message tells, when it is safe; false: it is not, as the disk stopped. Then nothing is changed, and nothing can be saved any more.
func (s *Store) Save(m api.Msg) bool {
	if !s.write(m) {
		return false
	}
	s.apply(m)
	return true
}

func (s *Store) write(m api.Msg) bool {
	if s.whole && s.lines < slack+2*s.size() {
		s.lines++
		return extend(s.disk, m)
	}
	list := append(s.messages(), m)
	s.lines, s.whole = len(list), true
	return rewrite(s.disk, list)
}
