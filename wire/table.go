package wire

import (
	"math"

	"keystone/api"
)

// field is one of the things that a message may have behind its kind and sender.
type field int

const (
	none field = iota // pads the rows of fieldsOf: its number is always 0
	epoch
	ballot
	was
	primary
	set
	seq
	block
	value
	values // its number is how many there are
	fields // how many fields there are, none among them
)

// mostFields is how many the kind with the most of them has.
const mostFields = 5

// fieldsOf has each kind's fields in the order of their bytes.
var fieldsOf = [...][mostFields]field{
	api.Prepare:  {epoch, ballot},
	api.Promise:  {epoch, ballot, was, primary, set},
	api.Accept:   {epoch, ballot, primary, set},
	api.Accepted: {epoch, ballot},
	api.Refused:  {epoch, ballot, was},
	api.Decided:  {epoch, primary, set},
	api.Write:    {epoch, seq, block, value},
	api.Wrote:    {epoch, seq},
	api.Copy:     {epoch, seq, values},
	api.Copied:   {epoch, seq},
}

// limitsOf has the least and the most that each field's number may be.
var limitsOf = [fields]struct{ least, most int }{
	epoch:   {0, api.MaxNumber},
	ballot:  {0, api.MaxNumber},
	was:     {0, api.MaxNumber},
	primary: {0, api.MaxNodes},
	set:     {0, 1<<api.MaxNodes - 1},
	seq:     {0, api.MaxNumber},
	block:   {0, api.MaxBlocks - 1},
	value:   {math.MinInt, math.MaxInt},
	values:  {0, api.MaxBlocks},
}

// numbersOf lays a message's fields out, so that they can be gone through by the tables.
func numbersOf(m api.Msg) [fields]int {
	return [fields]int{
		epoch:   m.Epoch,
		ballot:  m.Ballot,
		was:     m.Was,
		primary: m.Primary,
		set:     m.Set,
		seq:     m.Seq,
		block:   m.Block,
		value:   m.Value,
		values:  len(m.Values),
	}
}

// message is numbersOf the other way round.
func message(kind, from int, numbers [fields]int, list []int) api.Msg {
	return api.Msg{
		Kind:    kind,
		From:    from,
		Epoch:   numbers[epoch],
		Ballot:  numbers[ballot],
		Was:     numbers[was],
		Primary: numbers[primary],
		Set:     numbers[set],
		Seq:     numbers[seq],
		Block:   numbers[block],
		Value:   numbers[value],
		Values:  list,
	}
}

// isMessage tells whether a message has what its kind has, within limits, and nothing else.
func isMessage(m api.Msg) bool {
	if m.Kind < api.Prepare || m.Kind > api.Copied || m.From < 0 || m.From >= api.MaxNodes {
		return false
	}
	numbers := numbersOf(m)
	for _, f := range fieldsOf[m.Kind] {
		if numbers[f] < limitsOf[f].least || numbers[f] > limitsOf[f].most {
			return false
		}
		numbers[f] = 0 // so that what is left over is what the kind has not
	}
	return numbers == [fields]int{}
}
