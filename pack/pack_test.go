package pack_test

import (
	"bytes"
	"math"
	"testing"

	"revetment/api"
	"revetment/pack"
)

// same is whether got holds want's bytes; nil and empty are alike.
func same(t *testing.T, what string, got, want []byte) {
	t.Helper()
	if !bytes.Equal(got, want) {
		t.Errorf("%s: got % x, want % x", what, got, want)
	}
}

// stands checks what a reader tells of itself.
func stands(t *testing.T, what string, r *pack.Reader, left int, err api.Errno) {
	t.Helper()
	if r.Left() != left || r.Err() != err {
		t.Errorf("%s: Left %d, Err %d; want %d, %d", what, r.Left(), r.Err(), left, err)
	}
}

// dead checks that behind an error nothing is answered, and nothing is read,
// even where what follows could be read well.
func dead(t *testing.T, what string, r *pack.Reader, left int, err api.Errno) {
	t.Helper()
	stands(t, what, r, left, err)
	for range 2 {
		if n := r.Int(math.MinInt, math.MaxInt); n != 0 {
			t.Errorf("%s: Int behind an error: %d", what, n)
		}
		if x := r.Bytes(math.MaxInt); len(x) != 0 {
			t.Errorf("%s: Bytes behind an error: % x", what, x)
		}
		if r.Flag() {
			t.Errorf("%s: Flag behind an error: true", what)
		}
		stands(t, what+", asked again", r, left, err)
	}
}

// tail is what a reader could read well in any way, if it did not hold at its
// error.
func tail() []byte {
	return []byte{1, 0, 0, 0, 0, 0, 0, 0, 1, 1}
}

func with(b []byte, more ...byte) []byte {
	return append(bytes.Clone(b), more...)
}

var numbers = []struct {
	n    int
	want []byte
}{
	{0, []byte{0, 0, 0, 0, 0, 0, 0, 0}},
	{1, []byte{1, 0, 0, 0, 0, 0, 0, 0}},
	{255, []byte{255, 0, 0, 0, 0, 0, 0, 0}},
	{258, []byte{2, 1, 0, 0, 0, 0, 0, 0}},
	{0x0807060504030201, []byte{1, 2, 3, 4, 5, 6, 7, 8}},
	{-1, []byte{255, 255, 255, 255, 255, 255, 255, 255}},
	{-2, []byte{254, 255, 255, 255, 255, 255, 255, 255}},
	{-256, []byte{0, 255, 255, 255, 255, 255, 255, 255}},
	{1 << 40, []byte{0, 0, 0, 0, 0, 1, 0, 0}},
	{-1 << 40, []byte{0, 0, 0, 0, 0, 255, 255, 255}},
	{math.MaxInt, []byte{255, 255, 255, 255, 255, 255, 255, 127}},
	{math.MinInt, []byte{0, 0, 0, 0, 0, 0, 0, 128}},
}

// P1.1

func TestIntLays(t *testing.T) {
	for _, c := range numbers {
		same(t, "Int of nil", pack.Int(nil, c.n), c.want)
		same(t, "Int of nothing", pack.Int([]byte{}, c.n), c.want)
		same(t, "Int behind bytes", pack.Int([]byte{9, 8}, c.n), with([]byte{9, 8}, c.want...))
	}
}

func TestFlagLays(t *testing.T) {
	same(t, "true", pack.Flag(nil, true), []byte{1})
	same(t, "false", pack.Flag(nil, false), []byte{0})
	same(t, "true behind bytes", pack.Flag([]byte{7, 7}, true), []byte{7, 7, 1})
	same(t, "false behind bytes", pack.Flag([]byte{7, 7}, false), []byte{7, 7, 0})
}

func TestBytesLays(t *testing.T) {
	none := []byte{0, 0, 0, 0, 0, 0, 0, 0}
	same(t, "nil", pack.Bytes(nil, nil), none)
	same(t, "nothing", pack.Bytes([]byte{}, []byte{}), none)
	same(t, "nothing behind a byte", pack.Bytes([]byte{5}, nil), with([]byte{5}, none...))
	same(t, "a text", pack.Bytes([]byte{5}, []byte("abc")), []byte{5, 3, 0, 0, 0, 0, 0, 0, 0, 'a', 'b', 'c'})
	long := bytes.Repeat([]byte{1, 2, 3}, 100)
	same(t, "a long text", pack.Bytes(nil, long), with([]byte{44, 1, 0, 0, 0, 0, 0, 0}, long...))
	b := []byte{1, 2}
	same(t, "itself", pack.Bytes(b, b), []byte{1, 2, 2, 0, 0, 0, 0, 0, 0, 0, 1, 2})
}

func TestBytesLaysMoreThanMaxText(t *testing.T) {
	x := bytes.Repeat([]byte{6}, api.MaxText+1)
	same(t, "the length", pack.Bytes(nil, x)[:8], []byte{1, 0, 16, 0, 0, 0, 0, 0})
	r := pack.New(pack.Bytes(nil, x))
	if y := r.Bytes(len(x)); !bytes.Equal(y, x) {
		t.Error(len(y))
	}
	stands(t, "behind it", r, 0, api.OK)
}

func TestPadLays(t *testing.T) {
	const most = 1 << 16
	for _, c := range []struct{ have, unit, want int }{
		{0, 1, 0}, {0, 4, 0}, {0, most, 0},
		{1, 4, 4}, {3, 4, 4}, {4, 4, 4}, {5, 4, 8}, {8, 4, 8}, {9, 4, 12},
		{5, 3, 6}, {7, 5, 10}, {1, 2, 2}, {6, 7, 7}, {8, 7, 14},
		{3, 1, 3}, {3, 0, 3}, {3, -1, 3}, {3, -4, 3}, {0, -4, 0}, {3, math.MinInt, 3},
		{1, most - 1, most - 1}, {1, most, most}, {most, most, most}, {most + 1, most, 2 * most},
		{1, most + 1, most}, {most, most + 1, most}, {most + 1, most + 1, 2 * most},
		{1, 2 * most, most}, {most, 3 * most, most}, {3, math.MaxInt, most}, {0, math.MaxInt, 0},
	} {
		b := bytes.Repeat([]byte{9}, c.have)
		got := pack.Pad(b, c.unit)
		if len(got) != c.want {
			t.Errorf("Pad of %d bytes to %d: %d bytes, want %d", c.have, c.unit, len(got), c.want)
			continue
		}
		same(t, "ahead", got[:c.have], b)
		same(t, "behind", got[c.have:], make([]byte, c.want-c.have))
	}
}

// What is handed in stays as it was, its spare room too, and no answer shares
// memory with it: a write to one is not seen in the other.
func TestLaysIntoNewMemory(t *testing.T) {
	for name, lay := range map[string]func(b []byte) []byte{
		"Int":       func(b []byte) []byte { return pack.Int(b, 0x0102030405060708) },
		"Flag":      func(b []byte) []byte { return pack.Flag(b, true) },
		"Bytes":     func(b []byte) []byte { return pack.Bytes(b, []byte("xyz")) },
		"no Bytes":  func(b []byte) []byte { return pack.Bytes(b, nil) },
		"Pad":       func(b []byte) []byte { return pack.Pad(b, 16) },
		"Pad whole": func(b []byte) []byte { return pack.Pad(b, 2) },
		"Pad by 0":  func(b []byte) []byte { return pack.Pad(b, 0) },
	} {
		room := bytes.Repeat([]byte{7}, 64)
		first := lay(room[:4])
		second := lay(room[:4])
		same(t, name+": the room", room, bytes.Repeat([]byte{7}, 64))
		same(t, name+": twice", first, second)
		spoil(first)
		same(t, name+": the room, when the answer is written to", room, bytes.Repeat([]byte{7}, 64))
		same(t, name+": another answer", second[:4], []byte{7, 7, 7, 7})
		spoil(room)
		same(t, name+": an answer, when the room is written to", second[:4], []byte{7, 7, 7, 7})
	}
}

func TestBytesKeepsItsText(t *testing.T) {
	room := bytes.Repeat([]byte{7}, 32)
	b := pack.Bytes(nil, room[:3])
	spoil(b)
	same(t, "the text's room", room, bytes.Repeat([]byte{7}, 32))
	b = pack.Bytes(nil, room[:3])
	spoil(room)
	same(t, "what was laid", b[8:], []byte{7, 7, 7})
}

// spoil writes over a list and its spare room.
func spoil(b []byte) {
	b = b[:cap(b)]
	for i := range b {
		b[i] = 0xee
	}
}

// P1.2

func TestNewStands(t *testing.T) {
	stands(t, "of nil", pack.New(nil), 0, api.OK)
	stands(t, "of nothing", pack.New([]byte{}), 0, api.OK)
	stands(t, "of bytes", pack.New([]byte{1, 2, 3}), 3, api.OK)
}

func TestReadInt(t *testing.T) {
	for _, c := range numbers {
		r := pack.New(with(c.want, 1, 2))
		if n := r.Int(math.MinInt, math.MaxInt); n != c.n {
			t.Errorf("Int: %d, want %d", n, c.n)
		}
		stands(t, "behind a number", r, 2, api.OK)
		r = pack.New(c.want)
		if n := r.Int(c.n, c.n); n != c.n {
			t.Errorf("Int between itself: %d, want %d", n, c.n)
		}
		stands(t, "behind the last number", r, 0, api.OK)
	}
}

func TestReadIntOutOfBounds(t *testing.T) {
	for _, c := range []struct{ n, low, high int }{
		{7, 0, 6}, {7, 8, 9}, {-1, 0, 6}, {-3, -2, 2}, {3, -2, 2}, {0, 1, 5}, {5, -9, -1},
		{math.MaxInt, math.MinInt, math.MaxInt - 1}, {math.MinInt, math.MinInt + 1, math.MaxInt},
		{4, 5, 3}, {5, 5, 3}, {3, 5, 3}, {0, math.MaxInt, math.MinInt},
	} {
		r := pack.New(with(pack.Int(nil, c.n), tail()...))
		if n := r.Int(c.low, c.high); n != 0 {
			t.Errorf("Int of %d from %d to %d: %d", c.n, c.low, c.high, n)
		}
		dead(t, "out of bounds", r, len(tail()), api.ErrForm)
	}
}

func TestReadIntTooShort(t *testing.T) {
	for n := range 8 {
		r := pack.New(bytes.Repeat([]byte{1}, n))
		if got := r.Int(math.MinInt, math.MaxInt); got != 0 {
			t.Errorf("Int of %d bytes: %d", n, got)
		}
		dead(t, "too short", r, n, api.ErrShort)
		// There is no number that could be out of bounds.
		r = pack.New(bytes.Repeat([]byte{1}, n))
		r.Int(5, 3)
		dead(t, "too short, no bounds", r, n, api.ErrShort)
	}
}

func TestReadFlag(t *testing.T) {
	r := pack.New([]byte{1, 0, 1})
	for i, want := range []bool{true, false, true} {
		if r.Flag() != want {
			t.Errorf("flag %d is not %t", i, want)
		}
		stands(t, "behind a flag", r, 2-i, api.OK)
	}
	if r.Flag() {
		t.Error("a flag of nothing")
	}
	dead(t, "too short", r, 0, api.ErrShort)
}

func TestReadFlagOfOtherBytes(t *testing.T) {
	for v := 2; v < 256; v++ {
		r := pack.New(with([]byte{byte(v)}, tail()...))
		if r.Flag() {
			t.Errorf("a flag of %d", v)
		}
		dead(t, "not a flag", r, len(tail()), api.ErrForm)
	}
}

func TestReadBytes(t *testing.T) {
	for _, c := range []struct {
		text string
		most int
	}{{"", 0}, {"", 5}, {"a", 1}, {"abc", 3}, {"abc", 4}, {"abc", math.MaxInt}} {
		r := pack.New(with(pack.Bytes(nil, []byte(c.text)), 1, 2))
		same(t, "a text", r.Bytes(c.most), []byte(c.text))
		stands(t, "behind a text", r, 2, api.OK)
	}
}

func TestReadBytesOfWrongLength(t *testing.T) {
	for _, c := range []struct{ n, most int }{
		{3, 2}, {1, 0}, {-1, 5}, {math.MinInt, math.MaxInt}, {-1, -1}, {0, -1}, {-2, -1}, {0, math.MinInt},
		{math.MaxInt, math.MaxInt - 1}, {50, 20},
	} {
		r := pack.New(with(pack.Int(nil, c.n), tail()...))
		if x := r.Bytes(c.most); len(x) != 0 {
			t.Errorf("Bytes of length %d, at most %d: % x", c.n, c.most, x)
		}
		dead(t, "wrong length", r, len(tail()), api.ErrForm)
	}
}

func TestReadBytesTooShort(t *testing.T) {
	for n := range 8 {
		r := pack.New(make([]byte, n))
		if x := r.Bytes(9); len(x) != 0 {
			t.Errorf("Bytes without a length: % x", x)
		}
		dead(t, "no length", r, n, api.ErrShort)
		r = pack.New(make([]byte, n))
		r.Bytes(-1)
		dead(t, "no length, none allowed", r, n, api.ErrShort)
	}
	for _, n := range []int{len(tail()) + 1, api.MaxText, math.MaxInt - 8, math.MaxInt} {
		r := pack.New(with(pack.Int(nil, n), tail()...))
		if x := r.Bytes(n); len(x) != 0 {
			t.Errorf("Bytes of length %d: % x", n, x)
		}
		dead(t, "too few", r, len(tail()), api.ErrShort)
	}
}

func TestFirstErrorStays(t *testing.T) {
	r := pack.New([]byte{2, 1})
	r.Flag()
	r.Int(0, 1)
	stands(t, "form, then short", r, 1, api.ErrForm)
	r = pack.New([]byte{2, 1})
	r.Int(0, 1)
	r.Flag()
	stands(t, "short, then form", r, 2, api.ErrShort)
}

func TestNilReader(t *testing.T) {
	var r *pack.Reader
	dead(t, "nil", r, 0, api.ErrNil)
}

func TestReaderSharesNothing(t *testing.T) {
	laid := pack.Bytes(pack.Bytes(nil, []byte("abc")), []byte("def"))
	room := with(laid, 1, 2, 3)
	b := room[:len(laid)]
	r := pack.New(b)
	spoil(room)
	first := r.Bytes(3)
	same(t, "behind a change of what was handed in", first, []byte("abc"))
	spoil(first)
	same(t, "behind a change of an answer", r.Bytes(3), []byte("def"))

	room = with(laid, 1, 2, 3)
	x := pack.New(room[:len(laid)]).Bytes(3)
	spoil(x)
	same(t, "what was handed in", room, with(laid, 1, 2, 3))
}

func TestReadersStandAlone(t *testing.T) {
	b := pack.Bytes(nil, []byte("abc"))
	one, two := pack.New(b), pack.New(b)
	spoil(one.Bytes(3))
	one.Flag()
	stands(t, "the first", one, 0, api.ErrShort)
	stands(t, "the second", two, len(b), api.OK)
	same(t, "the second's text", two.Bytes(3), []byte("abc"))
}

// P1.3

// TestRoundTrip lays rows of things that a fixed rule chooses, and reads them.
func TestRoundTrip(t *testing.T) {
	for start := range 200 {
		seed := uint64(start)*2654435761 + 1
		next := func() uint64 {
			seed ^= seed << 13
			seed ^= seed >> 7
			seed ^= seed << 17
			return seed
		}
		var b []byte
		var reads []func(r *pack.Reader)
		var behind []int
		for range start % 20 {
			switch next() % 3 {
			case 0:
				n := int(next())
				b = pack.Int(b, n)
				reads = append(reads, func(r *pack.Reader) {
					if got := r.Int(n, n); got != n {
						t.Errorf("Int: %d, want %d", got, n)
					}
				})
			case 1:
				is := next()%2 == 0
				b = pack.Flag(b, is)
				reads = append(reads, func(r *pack.Reader) {
					if r.Flag() != is {
						t.Errorf("Flag is not %t", is)
					}
				})
			case 2:
				x := make([]byte, next()%40)
				for i := range x {
					x[i] = byte(next())
				}
				b = pack.Bytes(b, x)
				reads = append(reads, func(r *pack.Reader) { same(t, "Bytes", r.Bytes(len(x)), x) })
			}
			behind = append(behind, len(b))
		}
		r := pack.New(pack.Pad(b, 32))
		pad := r.Left() - len(b)
		for i, read := range reads {
			read(r)
			stands(t, "row", r, len(b)+pad-behind[i], api.OK)
		}
		for range pad {
			if r.Flag() {
				t.Error("what Pad laid is not 0")
			}
		}
		stands(t, "at the end", r, 0, api.OK)
	}
}

// TestCutShort: a row that is cut anywhere reads well up to the cut, and tells
// ErrShort there.
func TestCutShort(t *testing.T) {
	whole := pack.Flag(pack.Bytes(pack.Int(nil, -5), []byte("abcd")), true)
	for n := range len(whole) {
		r := pack.New(whole[:n])
		i, x, f := r.Int(-5, -5), r.Bytes(4), r.Flag()
		if want := n >= 8; (i == -5) != want || !want && i != 0 {
			t.Errorf("cut at %d: Int %d", n, i)
		}
		if want := n >= 20; (string(x) == "abcd") != want || !want && len(x) != 0 {
			t.Errorf("cut at %d: Bytes % x", n, x)
		}
		if f {
			t.Errorf("cut at %d: Flag", n)
		}
		left := n
		switch {
		case n >= 20:
			left = 0
		case n >= 16:
			left = n - 16
		case n >= 8:
			left = n - 8
		}
		stands(t, "cut", r, left, api.ErrShort)
	}
}
