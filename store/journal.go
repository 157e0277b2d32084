package store

import (
	"strings"

	"keystone/api"
	"keystone/wire"
)

// The files of a node. The draft is there while the journal is written anew, and when a crash came meanwhile.
const (
	journal = "journal"
	draft   = "journal.new"
)

// line is a message as it stands in the journal: how many bytes it has (a byte tells that of every message), and these.
func line(m api.Msg) string {
	b, _ := wire.Encode(m)
	return string(append([]byte{byte(len(b))}, b...))
}

// readLines reads lines, up to the first one that is not whole: of the last one a crash may have left a part.
func readLines(text string) (list []api.Msg, whole bool) {
	for len(text) > 0 {
		end := 1 + int(text[0])
		if len(text) < end {
			return list, false
		}
		m, e := wire.Decode([]byte(text[1:end]))
		if e != api.OK {
			return list, false
		}
		list = append(list, m)
		text = text[end:]
	}
	return list, true
}

// extend lays a line behind the journal; false: the disk stopped.
func extend(d *api.Disk, m api.Msg) bool {
	return d.Append(journal, line(m)) && d.Sync(journal)
}

// rewrite puts other lines in the journal's place. Up to the Rename the journal is as it was, so a crash finds it as it was or whole.
func rewrite(d *api.Disk, list []api.Msg) bool {
	var text strings.Builder
	for _, m := range list {
		text.WriteString(line(m))
	}
	if d.Has(draft) && !d.Remove(draft) {
		return false
	}
	return d.Append(draft, text.String()) && d.Sync(draft) && d.Rename(draft, journal)
}
