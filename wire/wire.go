// Package wire: messages as bytes.
package wire

import (
	"bytes"

	"keystone/api"
)

// The widths, in bytes, of what stands in a message.
const (
	widthOfSmall  = 1 // a kind, a sender, how many values
	widthOfNumber = 8
	widthOfSum    = 4
)

// Encode makes the bytes of a message; ErrArg, if it is none.
func Encode(m api.Msg) ([]byte, api.Errno) {
	if !isMessage(m) {
		return nil, api.ErrArg
	}
	numbers := numbersOf(m)
	out := []byte{byte(m.Kind), byte(m.From)}
	for _, f := range fieldsOf[m.Kind] {
		switch f {
		case none:
		case values:
			out = appendNumber(out, numbers[f], widthOfSmall)
			for _, v := range m.Values {
				out = appendNumber(out, v, widthOfNumber)
			}
		default:
			out = appendNumber(out, numbers[f], widthOfNumber)
		}
	}
	return appendNumber(out, sum(out), widthOfSum), api.OK
}

// Decode reads a message; ErrForm, if the bytes are no message's.
func Decode(b []byte) (api.Msg, api.Errno) {
	m := guess(b)
	// A message has one form alone, so holding b against it finds whatever is wrong: lengths, limits, the sum.
	form, e := Encode(m)
	if e != api.OK || !bytes.Equal(form, b) {
		return api.Msg{}, api.ErrForm
	}
	return m, api.OK
}

// guess tells the one message whose bytes these can be, if they are a message's at all.
func guess(b []byte) api.Msg {
	r := reader{b}
	kind, from := r.number(widthOfSmall), r.number(widthOfSmall)
	if kind >= len(fieldsOf) {
		return api.Msg{}
	}
	var numbers [fields]int
	var list []int
	for _, f := range fieldsOf[kind] {
		switch f {
		case none:
		case values:
			for range r.number(widthOfSmall) {
				list = append(list, r.number(widthOfNumber))
			}
		default:
			numbers[f] = r.number(widthOfNumber)
		}
	}
	return message(kind, from, numbers, list)
}

// reader takes numbers off the front of bytes.
type reader struct{ rest []byte }

// number takes one of a width. Where too few bytes are left it is 0: Decode finds them too few later.
func (r *reader) number(width int) int {
	if len(r.rest) < width {
		r.rest = nil
		return 0
	}
	var n uint64
	for _, x := range r.rest[:width] {
		n = n<<8 | uint64(x)
	}
	r.rest = r.rest[width:]
	return int(n)
}

// appendNumber lays the lowest bytes of a number behind others, the highest of them first.
func appendNumber(out []byte, n int, width int) []byte {
	for i := width - 1; i >= 0; i-- {
		out = append(out, byte(uint64(n)>>(8*i)))
	}
	return out
}

// sumModulus is the greatest prime below 65536: so both halves of a sum have two bytes.
const sumModulus = 65521

// sum guards bytes against being changed on their way.
func sum(b []byte) int {
	a, c := 1, 0
	for _, x := range b {
		a = (a + int(x)) % sumModulus
		c = (c + a) % sumModulus
	}
	return c<<16 | a
}
