package xor_test

import (
	"bytes"
	"math"
	"slices"
	"testing"

	"revetment/api"
	"revetment/xor"
)

// same is whether got holds want's bytes; nil and empty are alike.
func same(t *testing.T, what string, got, want []byte) {
	t.Helper()
	if !bytes.Equal(got, want) {
		t.Errorf("%s: got % x, want % x", what, short(got), short(want))
	}
}

// short keeps what a failure prints short.
func short(b []byte) []byte {
	return b[:min(len(b), 40)]
}

// row is n bytes that a fixed rule chooses by which.
func row(n, which int) []byte {
	b := make([]byte, n)
	seed := uint32(which)*2654435761 + uint32(n) + 1
	for i := range b {
		seed = seed*1664525 + 1013904223
		b[i] = byte(seed >> 24)
	}
	return b
}

// at is b's byte i, or 0 where it has none: what the chapter lets stand
// behind a shorter block.
func at(b []byte, i int) byte {
	if i < len(b) {
		return b[i]
	}
	return 0
}

// spoil writes over a list and its spare room.
func spoil(b []byte) {
	b = b[:cap(b)]
	for i := range b {
		b[i] ^= 0xee
	}
}

// P3.1: Into

func TestInto(t *testing.T) {
	for _, c := range []struct {
		name       string
		a, b, want []byte
	}{
		{"nil", nil, nil, nil},
		{"nothing", []byte{}, []byte{}, nil},
		{"nil and nothing", nil, []byte{}, nil},
		{"a byte and nil", []byte{7}, nil, []byte{7}},
		{"a byte and nothing", []byte{7}, []byte{}, []byte{7}},
		{"alike in length", []byte{1, 2, 0xff}, []byte{3, 2, 0x0f}, []byte{2, 0, 0xf0}},
		{"the example's", []byte{1, 2}, []byte{3}, []byte{2, 2}},
		{"all bits", []byte{0xff, 0, 0xaa}, []byte{0xff, 0xff, 0x55}, []byte{0, 0xff, 0xff}},
		{"a byte more", []byte{1, 2, 3, 4}, []byte{1, 2, 3}, []byte{0, 0, 0, 4}},
		{"bytes 0 behind", []byte{1, 0, 0}, []byte{1}, []byte{0, 0, 0}},
		{"a byte and many", []byte{5}, []byte{1, 2, 3, 4, 5}, []byte{4, 2, 3, 4, 5}},
	} {
		same(t, c.name, xor.Into(c.a, c.b), c.want)
		same(t, c.name+", turned", xor.Into(c.b, c.a), c.want)
	}
}

// TestIntoOfEachPair goes through every two bytes.
func TestIntoOfEachPair(t *testing.T) {
	for a := range 256 {
		for b := range 256 {
			if got := xor.Into([]byte{byte(a)}, []byte{byte(b)}); len(got) != 1 || got[0] != byte(a^b) {
				t.Fatalf("Into(%02x, %02x): % x", a, b, got)
			}
		}
	}
}

// TestIntoOfEachLength: rows of all lengths against each other, each place on
// its own.
func TestIntoOfEachLength(t *testing.T) {
	for n := range 20 {
		for m := range 20 {
			a, b := row(n, 1), row(m, 2)
			want := make([]byte, max(n, m))
			for i := range want {
				want[i] = at(a, i) ^ at(b, i)
			}
			same(t, "Into", xor.Into(a, b), want)
		}
	}
}

// P3.1: Of

func TestOf(t *testing.T) {
	for _, c := range []struct {
		name   string
		blocks [][]byte
		want   []byte
	}{
		{"no list", nil, nil},
		{"an empty list", [][]byte{}, nil},
		{"a nil block", [][]byte{nil}, nil},
		{"an empty block", [][]byte{{}}, nil},
		{"empty blocks", [][]byte{nil, {}, nil, {}}, nil},
		{"one block", [][]byte{{1, 2, 3}}, []byte{1, 2, 3}},
		{"one block of bytes 0", [][]byte{{0, 0}}, []byte{0, 0}},
		{"the example", [][]byte{{1, 2}, {3}}, []byte{2, 2}},
		{"empty ones between", [][]byte{nil, {1, 2}, {}, {3}, nil}, []byte{2, 2}},
		{"three", [][]byte{{1, 2}, {4, 8}, {0x10, 0x20}}, []byte{0x15, 0x2a}},
		{"the longest first", [][]byte{{1, 1, 1, 1}, {2}, {4, 4}}, []byte{7, 5, 1, 1}},
		{"the longest between", [][]byte{{2}, {1, 1, 1, 1}, {4, 4}}, []byte{7, 5, 1, 1}},
		{"the longest last", [][]byte{{2}, {4, 4}, {1, 1, 1, 1}}, []byte{7, 5, 1, 1}},
		{"nothing left, its length stays", [][]byte{{9, 9}, {9, 9}}, []byte{0, 0}},
	} {
		same(t, c.name, xor.Of(c.blocks...), c.want)
	}
	same(t, "without any", xor.Of(), nil)
	same(t, "given one by one", xor.Of([]byte{1, 2}, []byte{3}), []byte{2, 2})
}

// TestOfIsIntoOfAll: from nothing on, each block goes into what was there.
func TestOfIsIntoOfAll(t *testing.T) {
	for count := range 18 {
		var blocks [][]byte
		var want []byte
		for i := range count {
			block := row(i*7%23, i)
			blocks = append(blocks, block)
			want = xor.Into(want, block)
		}
		same(t, "Of", xor.Of(blocks...), want)
	}
}

// TestOfManyBlocks: one long block among many is not gone through anew for
// each of them.
func TestOfManyBlocks(t *testing.T) {
	blocks := make([][]byte, 1<<20)
	blocks[0] = row(1<<20, 1)
	blocks[1<<19] = []byte{1}
	blocks[len(blocks)-1] = []byte{2, 4}
	want := bytes.Clone(blocks[0])
	want[0] ^= 3
	want[1] ^= 4
	same(t, "many blocks", xor.Of(blocks...), want)
}

func TestOfMoreThanMaxText(t *testing.T) {
	long := row(api.MaxText+3, 1)
	same(t, "Of", xor.Of(long, nil), long)
	same(t, "Into", xor.Into(nil, long), long)
}

// P3.1: Zero

func TestZero(t *testing.T) {
	for _, b := range [][]byte{nil, {}, {0}, {0, 0, 0}, make([]byte, api.MaxText+1)} {
		if !xor.Zero(b) {
			t.Errorf("%d bytes 0 are not Zero", len(b))
		}
	}
	for v := 1; v < 256; v++ {
		if xor.Zero([]byte{byte(v)}) {
			t.Errorf("byte %02x is Zero", v)
		}
	}
	b := make([]byte, 70)
	for i := range b {
		b[i] = 1
		if xor.Zero(b) {
			t.Errorf("a byte 1 at %d is not seen", i)
		}
		b[i] = 0
	}
	if xor.Zero([]byte{1, 0xff}) || xor.Zero([]byte{3, 3}) || xor.Zero([]byte{0x80, 0x80}) {
		t.Error("bytes that make up for each other are Zero")
	}
	if !xor.Zero([]byte{0, 0, 5, 6}[:2]) {
		t.Error("the spare room is looked at")
	}
}

// P3.1: Fit

func TestFit(t *testing.T) {
	abc := []byte("abc")
	for _, c := range []struct {
		name string
		b    []byte
		n    int
		want []byte
	}{
		{"the least n", abc, math.MinInt, nil},
		{"below 0", abc, -1, nil},
		{"0", abc, 0, nil},
		{"one", abc, 1, []byte("a")},
		{"below the length", abc, 2, []byte("ab")},
		{"at the length", abc, 3, abc},
		{"a byte more", abc, 4, []byte("abc\x00")},
		{"more", abc, 6, []byte("abc\x00\x00\x00")},
		{"nil below 0", nil, -1, nil},
		{"nil to 0", nil, 0, nil},
		{"nil to more", nil, 3, []byte{0, 0, 0}},
		{"nothing to more", []byte{}, 2, []byte{0, 0}},
		{"spare room is no byte of it", []byte("abcdef")[:2], 4, []byte("ab\x00\x00")},
	} {
		same(t, c.name, xor.Fit(c.b, c.n), c.want)
	}
}

func TestFitAboveMaxText(t *testing.T) {
	const most = api.MaxText
	for _, have := range []int{0, 3, most - 1, most, most + 1, 2 * most} {
		b := row(have, have)
		for _, n := range []int{most - 1, most, most + 1, 2 * most, math.MaxInt} {
			want := make([]byte, min(n, most))
			copy(want, b)
			got := xor.Fit(b, n)
			if len(got) != len(want) || !bytes.Equal(got, want) {
				t.Errorf("Fit of %d bytes to %d: %d bytes, or not the right ones", have, n, len(got))
			}
		}
	}
}

// P3.1: Split

// parts checks what Split answered.
func parts(t *testing.T, what string, got [][]byte, want ...string) {
	t.Helper()
	same := func(a []byte, b string) bool { return string(a) == b }
	if !slices.EqualFunc(got, want, same) {
		t.Errorf("%s: got %q, want %q", what, got, want)
	}
}

func TestSplit(t *testing.T) {
	b := []byte("abcdef")
	parts(t, "size 1", xor.Split(b, 1), "a", "b", "c", "d", "e", "f")
	parts(t, "size 2", xor.Split(b, 2), "ab", "cd", "ef")
	parts(t, "size 3", xor.Split(b, 3), "abc", "def")
	parts(t, "size 4, two left", xor.Split(b, 4), "abcd", "ef")
	parts(t, "size 5, one left", xor.Split(b, 5), "abcde", "f")
	parts(t, "at the length", xor.Split(b, 6), "abcdef")
	parts(t, "above the length", xor.Split(b, 7), "abcdef")
	parts(t, "the greatest size", xor.Split(b, math.MaxInt), "abcdef")
	parts(t, "size 0", xor.Split(b, 0), "abcdef")
	parts(t, "size below 0", xor.Split(b, -1), "abcdef")
	parts(t, "size below 0, as if of two", xor.Split(b, -2), "abcdef")
	parts(t, "the least size", xor.Split(b, math.MinInt), "abcdef")
	parts(t, "one byte", xor.Split(b[:1], 1), "a")
	parts(t, "one byte, greater size", xor.Split(b[:1], 2), "a")
	parts(t, "one byte, size 0", xor.Split(b[:1], 0), "a")
	parts(t, "spare room is no byte of it", xor.Split(b[:3], 2), "ab", "c")
}

func TestSplitOfNothing(t *testing.T) {
	for _, size := range []int{math.MinInt, -1, 0, 1, 2, math.MaxInt} {
		parts(t, "nil", xor.Split(nil, size))
		parts(t, "nothing", xor.Split([]byte{}, size))
	}
}

// TestSplitOfEachLength: all parts but the last have their size, the last one
// has a byte at least, and one behind the other they are what was split.
func TestSplitOfEachLength(t *testing.T) {
	for n := 1; n < 40; n++ {
		b := row(n, 3)
		for size := 1; size < 45; size++ {
			got := xor.Split(b, size)
			same(t, "all parts", bytes.Join(got, nil), b)
			for i, part := range got {
				if last := i == len(got)-1; len(part) > size || len(part) < 1 || !last && len(part) != size {
					t.Errorf("%d bytes by %d: part %d has %d", n, size, i, len(part))
				}
			}
		}
	}
}

func TestSplitOfMoreThanMaxText(t *testing.T) {
	b := row(api.MaxText+5, 4)
	for _, size := range []int{0, api.MaxText, api.MaxText + 4, api.MaxText + 5} {
		got := xor.Split(b, size)
		same(t, "all parts", bytes.Join(got, nil), b)
		if size > 0 && len(got[0]) != size {
			t.Errorf("by %d: the first part has %d", size, len(got[0]))
		}
	}
	if n := len(xor.Split(b, 0)); n != 1 {
		t.Errorf("by 0: %d parts", n)
	}
}

// P3.2

// stripe is some rows of unlike lengths, an empty one among them.
func stripe(count, which int) [][]byte {
	var blocks [][]byte
	for i := range count {
		blocks = append(blocks, row((i*5+which)%13, which*100+i))
	}
	return blocks
}

// TestOrderPlaysNoPart turns each two blocks of a list, and the whole list.
func TestOrderPlaysNoPart(t *testing.T) {
	for count := range 9 {
		blocks := stripe(count, count)
		want := xor.Of(blocks...)
		for i := range blocks {
			for j := range i {
				turned := slices.Clone(blocks)
				turned[i], turned[j] = turned[j], turned[i]
				same(t, "two turned", xor.Of(turned...), want)
			}
			around := slices.Concat(blocks[i:], blocks[:i])
			same(t, "turned around", xor.Of(around...), want)
		}
		slices.Reverse(blocks)
		same(t, "reversed", xor.Of(blocks...), want)
	}
}

// TestHowPairsAreTakenPlaysNoPart: parities of parities are the parity of all.
func TestHowPairsAreTakenPlaysNoPart(t *testing.T) {
	blocks := stripe(7, 2)
	want := xor.Of(blocks...)
	for i := range len(blocks) + 1 {
		same(t, "in two", xor.Into(xor.Of(blocks[:i]...), xor.Of(blocks[i:]...)), want)
	}
}

func TestOfTwoAlikeNothingIsLeft(t *testing.T) {
	for n := range 70 {
		b := row(n, 5)
		for _, got := range [][]byte{xor.Into(b, b), xor.Of(b, bytes.Clone(b)), xor.Of(b, b, b, b)} {
			if len(got) != n || !xor.Zero(got) {
				t.Errorf("of two alike of %d bytes: % x", n, got)
			}
		}
		same(t, "of three alike one is left", xor.Of(b, b, b), b)
	}
	one, two := row(9, 1), row(9, 2)
	same(t, "two alike beside others", xor.Of(one, two, one), two)
}

// TestWhatLacks: of all others and the parity any one block comes back, with
// bytes 0 behind it up to the parity's length.
func TestWhatLacks(t *testing.T) {
	for count := 1; count <= 9; count++ {
		blocks := stripe(count, count)
		parity := xor.Of(blocks...)
		for i, lacks := range blocks {
			others := slices.Concat(blocks[:i], blocks[i+1:], [][]byte{parity})
			got := xor.Of(others...)
			same(t, "what lacks", got, xor.Fit(lacks, len(parity)))
			same(t, "what lacks, fitted", xor.Fit(got, len(lacks)), lacks)
		}
	}
}

// TestParityOfParts: blocks that are split, and taken part by part, have the
// parts of the parity.
func TestParityOfParts(t *testing.T) {
	a, b := row(11, 1), row(11, 2)
	for size := 1; size <= 12; size++ {
		left, right := xor.Split(a, size), xor.Split(b, size)
		for i, part := range xor.Split(xor.Into(a, b), size) {
			same(t, "a part", part, xor.Into(left[i], right[i]))
		}
	}
}

// Rules

// calls are the calls that answer bytes, each part of Split among them, of
// one room of which only the first ten bytes are handed in.
func calls() map[string]func(b []byte) [][]byte {
	one := func(b []byte) [][]byte { return [][]byte{b} }
	return map[string]func(b []byte) [][]byte{
		"Of one":            func(b []byte) [][]byte { return one(xor.Of(b)) },
		"Of one and nil":    func(b []byte) [][]byte { return one(xor.Of(nil, b, nil)) },
		"Of two":            func(b []byte) [][]byte { return one(xor.Of(b[:4], b[4:])) },
		"Of the same":       func(b []byte) [][]byte { return one(xor.Of(b, b, b)) },
		"Into":              func(b []byte) [][]byte { return one(xor.Into(b[:3], b)) },
		"Into of nil":       func(b []byte) [][]byte { return one(xor.Into(nil, b)) },
		"Into nil":          func(b []byte) [][]byte { return one(xor.Into(b, nil)) },
		"Fit to 0":          func(b []byte) [][]byte { return one(xor.Fit(b, 0)) },
		"Fit below":         func(b []byte) [][]byte { return one(xor.Fit(b, 4)) },
		"Fit at its length": func(b []byte) [][]byte { return one(xor.Fit(b, 10)) },
		"Fit above":         func(b []byte) [][]byte { return one(xor.Fit(b, 20)) },
		"Split by 0":        func(b []byte) [][]byte { return xor.Split(b, 0) },
		"Split by 1":        func(b []byte) [][]byte { return xor.Split(b, 1) },
		"Split by 3":        func(b []byte) [][]byte { return xor.Split(b, 3) },
		"Split by 5":        func(b []byte) [][]byte { return xor.Split(b, 5) },
		"Split by 10":       func(b []byte) [][]byte { return xor.Split(b, 10) },
		"Split by 11":       func(b []byte) [][]byte { return xor.Split(b, 11) },
	}
}

func copies(list [][]byte) [][]byte {
	var out [][]byte
	for _, b := range list {
		out = append(out, bytes.Clone(b))
	}
	return out
}

// TestAnswersInNewMemory: what is handed in stays as it was, its spare room
// too, and a write to an answer, or to its spare room, is seen neither there
// nor in another part or another answer; nor the other way around.
func TestAnswersInNewMemory(t *testing.T) {
	was := row(64, 1)
	for name, call := range calls() {
		room := bytes.Clone(was)
		first, second := call(room[:10]), call(room[:10])
		same(t, name+": the room", room, was)
		want := copies(first)
		for i := range first {
			spoil(first[i])
			same(t, name+": the room, when the answer is written to", room, was)
			for j := i + 1; j < len(first); j++ {
				same(t, name+": another part", first[j], want[j])
			}
			for j := range i {
				spoiled := bytes.Clone(want[j])
				spoil(spoiled[:len(spoiled):len(spoiled)])
				same(t, name+": a part ahead", first[j], spoiled)
			}
			same(t, name+": another answer", second[i], want[i])
		}
		spoil(room)
		for i := range second {
			same(t, name+": an answer, when the room is written to", second[i], want[i])
		}
	}
}

// TestSplitsListsAreTheirOwn: two answers' lists share no memory, nor does
// what is appended to a part reach the one behind it.
func TestSplitsListsAreTheirOwn(t *testing.T) {
	b := []byte("abcdef")
	one, two := xor.Split(b, 2), xor.Split(b, 2)
	one[0], one[1] = nil, []byte("x")
	parts(t, "the other list", two, "ab", "cd", "ef")
	_ = append(two[0], 'x', 'y')
	parts(t, "behind an append", two, "ab", "cd", "ef")
	same(t, "what was split", b, []byte("abcdef"))
}

// TestOfKeepsItsList: the list of blocks stays as it was, its spare room too.
func TestOfKeepsItsList(t *testing.T) {
	list := [][]byte{{1, 2}, nil, {3}, {}, {4, 5, 6}}
	was := slices.Clone(list)
	same(t, "a list with spare room", xor.Of(list[:3]...), []byte{2, 2})
	same(t, "the same list again", xor.Of(list[:3]...), []byte{2, 2})
	for i := range list {
		if len(list[i]) != len(was[i]) || len(was[i]) > 0 && &list[i][0] != &was[i][0] {
			t.Errorf("Of changed block %d of its list", i)
		}
	}
	same(t, "the first block", list[0], []byte{1, 2})
	same(t, "the last block", list[4], []byte{4, 5, 6})
}

// TestZeroChangesNothing: asking leaves the bytes and their room.
func TestZeroChangesNothing(t *testing.T) {
	room := row(16, 1)
	xor.Zero(room[:4])
	same(t, "the room", room, row(16, 1))
}

// TestKeepsNothing: an answer hangs on the arguments alone, whatever was asked
// ahead of it.
func TestKeepsNothing(t *testing.T) {
	b := []byte{1, 2}
	for range 2 {
		same(t, "Of", xor.Of(b, []byte{3}), []byte{2, 2})
		same(t, "Fit", xor.Fit(b, 3), []byte{1, 2, 0})
		b[0] = 9
		same(t, "Of, changed", xor.Of(b, []byte{3}), []byte{10, 2})
		same(t, "Fit, changed", xor.Fit(b, 3), []byte{9, 2, 0})
		b[0] = 1
	}
}
