package crc_test

import (
	"bytes"
	"hash/crc32"
	"testing"

	"revetment/crc"
)

// is checks a check sum.
func is(t *testing.T, what string, got, want uint32) {
	t.Helper()
	if got != want {
		t.Errorf("%s: got %08x, want %08x", what, got, want)
	}
}

// row is n bytes that a fixed rule chooses.
func row(n int) []byte {
	b := make([]byte, n)
	seed := uint32(n)*2654435761 + 1
	for i := range b {
		seed = seed*1664525 + 1013904223
		b[i] = byte(seed >> 24)
	}
	return b
}

// count is n bytes, from first on, each by so much more than the one ahead.
func count(n, first, by int) []byte {
	b := make([]byte, n)
	for i := range b {
		b[i] = byte(first + i*by)
	}
	return b
}

// library is the library's own table of the same check sum: the tests hold
// against it what no example tells.
func library() *crc32.Table {
	return crc32.MakeTable(crc32.Castagnoli)
}

// states: the lowest bit 0 and 1, each bit alone and each bit missing, and
// some from everywhere.
func states() []uint32 {
	all := []uint32{0, 0xffffffff, 0x82f63b78, 0x7d09c487, 0xfffffffe, 0xaaaaaaaa, 0x55555555, 0x12345678, 0x87654321}
	for i := range 32 {
		all = append(all, 1<<i, ^uint32(1<<i))
	}
	seed := uint32(1)
	for range 100 {
		seed = seed*1664525 + 1013904223
		all = append(all, seed, seed^1)
	}
	return all
}

// P2.1

func TestStep(t *testing.T) {
	for _, c := range []struct {
		state uint32
		c     byte
		want  uint32
	}{
		{0, 0, 0},
		{1, 1, 0},
		{0xff, 0xff, 0},
		{0, 1, 0xf26b8303},
		{1, 0, 0xf26b8303},
		{0, 0x80, 0x82f63b78},
		{0x80, 0, 0x82f63b78},
		{0, 0xff, 0xad7d5351},
		{0x100, 0, 1},
		{0x80000000, 0, 0x00800000},
		{0xffffff00, 0, 0x00ffffff},
		{0xffffffff, 0xff, 0x00ffffff},
		{0xffffffff, 0, 0xad82acae},
	} {
		is(t, "Step", crc.Step(c.state, c.c), c.want)
	}
}

// TestStepOfAllBytes goes through every byte at each of many states.
func TestStepOfAllBytes(t *testing.T) {
	table := library()
	for _, state := range states() {
		for v := range 256 {
			c := byte(v)
			if got, want := crc.Step(state, c), table[byte(state)^c]^state>>8; got != want {
				t.Errorf("Step(%08x, %02x): got %08x, want %08x", state, c, got, want)
			}
		}
	}
}

var examples = []struct {
	name string
	b    []byte
	want uint32
}{
	{"nil", nil, 0},
	{"no bytes", []byte{}, 0},
	{"digits", []byte("123456789"), 0xe3069283},
	{"a letter", []byte("a"), 0xc1d04330},
	{"a byte 0", []byte{0}, 0x527d5351},
	{"a byte ff", []byte{0xff}, 0xff000000},
	{"bytes 0", make([]byte, 32), 0x8a9136aa},
	{"bytes ff", bytes.Repeat([]byte{0xff}, 32), 0x62a8ab43},
	{"upward", count(32, 0, 1), 0x46dd794e},
	{"downward", count(32, 31, -1), 0x113fdb5c},
}

func TestOf(t *testing.T) {
	for _, c := range examples {
		is(t, c.name, crc.Of(c.b), c.want)
	}
}

func TestOfEachByte(t *testing.T) {
	for v := range 256 {
		b := []byte{byte(v)}
		is(t, "a byte", crc.Of(b), ^crc.Step(0xffffffff, byte(v)))
		is(t, "a byte, as the library says", crc.Of(b), crc32.Checksum(b, library()))
	}
	is(t, "every byte", crc.Of(count(256, 0, 1)), crc32.Checksum(count(256, 0, 1), library()))
}

func TestOfIsOfSteps(t *testing.T) {
	for n := range 300 {
		b := row(n)
		state := uint32(0xffffffff)
		for _, c := range b {
			state = crc.Step(state, c)
		}
		is(t, "a row", crc.Of(b), ^state)
		is(t, "a row, as the library says", crc.Of(b), crc32.Checksum(b, library()))
	}
}

func TestOfManyBytes(t *testing.T) {
	b := row(1<<20 + 1)
	is(t, "many bytes", crc.Of(b), crc32.Checksum(b, library()))
}

// TestOfTellsChanges: a bit that is turned, bytes that change places, and a
// byte 0 more, ahead or behind, are all seen.
func TestOfTellsChanges(t *testing.T) {
	b := row(40)
	sum := crc.Of(b)
	for i := range 8 * len(b) {
		x := bytes.Clone(b)
		x[i/8] ^= 1 << (i % 8)
		if crc.Of(x) == sum {
			t.Errorf("bit %d is not seen", i)
		}
	}
	if crc.Of([]byte{1, 2}) == crc.Of([]byte{2, 1}) {
		t.Error("places are not seen")
	}
	if crc.Of(append([]byte{0}, b...)) == sum || crc.Of(append(bytes.Clone(b), 0)) == sum {
		t.Error("a byte 0 is not seen")
	}
}

func TestOverOfNothing(t *testing.T) {
	is(t, "no parts", crc.Over(), 0)
	is(t, "a nil list of parts", crc.Over([][]byte(nil)...), 0)
	is(t, "an empty list of parts", crc.Over([][]byte{}...), 0)
	is(t, "a nil part", crc.Over(nil, nil), 0)
	is(t, "an empty part", crc.Over([]byte{}), 0)
	is(t, "empty parts", crc.Over(nil, []byte{}, nil, []byte{}), 0)
}

func TestOver(t *testing.T) {
	for _, c := range examples {
		is(t, c.name, crc.Over(c.b), c.want)
	}
	is(t, "two parts", crc.Over([]byte("1234"), []byte("56789")), 0xe3069283)
	is(t, "three parts", crc.Over([]byte("123"), []byte("456"), []byte("789")), 0xe3069283)
	is(t, "empty ones between", crc.Over(nil, []byte("1234"), []byte{}, []byte("56789"), nil), 0xe3069283)
	one := []byte("12")
	is(t, "the same part twice", crc.Over(one, one), crc.Of([]byte("1212")))
	if crc.Over([]byte("56789"), []byte("1234")) == 0xe3069283 {
		t.Error("the order of parts is not seen")
	}
}

// P2.2

// TestPartedInThree parts rows at any two places.
func TestPartedInThree(t *testing.T) {
	for n := range 24 {
		b := row(n)
		want := crc.Of(b)
		for i := range n + 1 {
			for j := i; j <= n; j++ {
				if got := crc.Over(b[:i], b[i:j], b[j:]); got != want {
					t.Errorf("%d bytes, parted at %d and %d: got %08x, want %08x", n, i, j, got, want)
				}
			}
		}
	}
}

// TestPartedInMany parts one row into parts of one length each, and into
// parts that grow.
func TestPartedInMany(t *testing.T) {
	b := row(500)
	want := crc32.Checksum(b, library())
	for by := 1; by <= len(b)+1; by++ {
		is(t, "parts of one length", crc.Over(parted(b, by, 0)...), want)
		is(t, "parts that grow", crc.Over(parted(b, 0, by)...), want)
	}
}

// parted is b in parts: the first has so many bytes, each one grow more than
// the one ahead.
func parted(b []byte, first, grow int) [][]byte {
	var parts [][]byte
	for n := first; len(b) > 0; n += grow {
		n = min(n, len(b))
		parts = append(parts, b[:n])
		b = b[n:]
	}
	return parts
}

// Rules

// TestChangesNothing: what is handed in stays as it was, the spare room of the
// bytes and of the list of parts included.
func TestChangesNothing(t *testing.T) {
	was := row(64)
	room := bytes.Clone(was)
	crc.Of(room[:10])
	crc.Of(room[20:30])
	if !bytes.Equal(room, was) {
		t.Error("Of changed its bytes, or their room")
	}

	list := [][]byte{room[:5], nil, room[5:9], {}, room[40:50], room[60:]}
	lens := []int{5, 0, 4, 0, 10, 4}
	want := crc.Of(bytes.Join(list[:3], nil))
	is(t, "a list with spare room", crc.Over(list[:3]...), want)
	is(t, "the same list again", crc.Over(list[:3]...), want)
	if !bytes.Equal(room, was) {
		t.Error("Over changed its bytes, or their room")
	}
	for i, part := range list {
		if len(part) != lens[i] {
			t.Errorf("Over changed part %d", i)
		}
	}
	if &list[0][0] != &room[0] || &list[2][0] != &room[5] || &list[4][0] != &room[40] || &list[5][0] != &room[60] {
		t.Error("Over put other parts into its list")
	}
}

// TestKeepsNothing: an answer hangs on the arguments alone, whatever was asked
// ahead of it, and whatever became of what was handed in then.
func TestKeepsNothing(t *testing.T) {
	b := []byte("123456789")
	for range 2 {
		is(t, "Of", crc.Of(b), 0xe3069283)
		is(t, "Over", crc.Over(b[:3], b[3:]), 0xe3069283)
		is(t, "Step", crc.Step(0, 1), 0xf26b8303)
		b[0] = 'x'
		is(t, "Of, changed", crc.Of(b), crc32.Checksum([]byte("x23456789"), library()))
		is(t, "Over, changed", crc.Over(b[:3], b[3:]), crc32.Checksum([]byte("x23456789"), library()))
		b[0] = '1'
	}
}
