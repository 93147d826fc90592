// Package pack is layer 1: numbers and texts as bytes, and how they are read
// again. See shared/doc/01-pack.md.
package pack

import (
	"bytes"

	"revetment/api"
)

const (
	numberSize = 8
	maxUnit    = 1 << 16
)

// Int lays n behind b as eight bytes, the lowest first.
func Int(b []byte, n int) []byte {
	out := grown(b, numberSize)
	putNumber(out[len(b):], n)
	return out
}

// Bytes lays x behind b, with its length ahead of it.
func Bytes(b, x []byte) []byte {
	out := grown(b, numberSize+len(x))
	putNumber(out[len(b):], len(x))
	copy(out[len(b)+numberSize:], x)
	return out
}

// Flag lays a byte 1 or 0 behind b.
func Flag(b []byte, is bool) []byte {
	out := grown(b, 1)
	if is {
		out[len(b)] = 1
	}
	return out
}

// Pad fills b up with bytes 0 to a multiple of unit.
func Pad(b []byte, unit int) []byte {
	unit = min(max(unit, 1), maxUnit)
	over := len(b) % unit
	if over == 0 {
		return grown(b, 0)
	}
	return grown(b, unit-over)
}

// grown always copies: append would write into b's spare room, which is the
// caller's.
func grown(b []byte, more int) []byte {
	out := make([]byte, len(b)+more)
	copy(out, b)
	return out
}

func putNumber(to []byte, n int) {
	left := uint64(n)
	for i := range numberSize {
		to[i] = byte(left)
		left >>= 8
	}
}

func number(from []byte) int {
	var n uint64
	for i := range numberSize {
		n |= uint64(from[i]) << (8 * i)
	}
	return int(n)
}

// Reader reads what Int, Bytes and Flag lay. Its first error stays.
type Reader struct {
	rest []byte
	err  api.Errno
}

// New is a reader at b's first byte. It reads a copy, so that b stays the
// caller's to change.
func New(b []byte) *Reader {
	return &Reader{rest: grown(b, 0)}
}

// Int reads a number from low to high.
func (r *Reader) Int(low, high int) int {
	b, ok := r.take(numberSize)
	if !ok {
		return 0
	}
	n := number(b)
	if n < low || n > high {
		r.err = api.ErrForm
		return 0
	}
	return n
}

// Bytes reads a text of at most so many bytes.
func (r *Reader) Bytes(most int) []byte {
	// Where Int tells an error, or told one, take answers nothing.
	b, ok := r.take(r.Int(0, most))
	if !ok {
		return nil
	}
	return bytes.Clone(b)
}

// Flag reads a byte that is 0 or 1.
func (r *Reader) Flag() bool {
	b, ok := r.take(1)
	if !ok {
		return false
	}
	if b[0] > 1 {
		r.err = api.ErrForm
		return false
	}
	return b[0] == 1
}

// Left is how many bytes are not read yet.
func (r *Reader) Left() int {
	if r == nil {
		return 0
	}
	return len(r.rest)
}

// Err is the first error.
func (r *Reader) Err() api.Errno {
	if r == nil {
		return api.ErrNil
	}
	return r.err
}

// take answers the next n bytes as read. Too few stay unread, as Left counts
// only what was read ahead of the error.
func (r *Reader) take(n int) ([]byte, bool) {
	if r == nil || r.err != api.OK {
		return nil, false
	}
	if n > len(r.rest) {
		r.err = api.ErrShort
		return nil, false
	}
	b := r.rest[:n]
	r.rest = r.rest[n:]
	return b, true
}
