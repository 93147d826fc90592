package rec_test

import (
	"bytes"
	"fmt"
	"slices"
	"testing"

	"revetment/api"
	"revetment/rec"
)

// P10.1

func right(t *testing.T, what string, x api.Rec, want bool) {
	t.Helper()
	if rec.Right(x) != want {
		t.Errorf("%s: Right is not %t", what, want)
	}
}

func TestRightOfSome(t *testing.T) {
	for i, x := range some() {
		right(t, fmt.Sprint("a right one, ", i), x, true)
	}
	for i, x := range wrong() {
		right(t, fmt.Sprint("a wrong one, ", i), x, false)
	}
}

// TestRightOfEachNumber takes each number to its edges, with all others as
// they may be.
func TestRightOfEachNumber(t *testing.T) {
	for _, base := range []api.Rec{{}, full(), utmost()} {
		for _, name := range names {
			ok := []int{0, 1, 6, 7, 1 << 20, most - 1, most}
			not := []int{least, least + 1, -most, -2, -1, most + 1, 1 << 41, 1 << 62, greatest - 1, greatest}
			switch name {
			case "Kind":
				ok = []int{0, 1, 2, 3, 4, 5, 6}
				not = append(not, 7, 8, 256, 1<<32, most)
			case "Slot":
				ok = append(ok, -1)
				not = slices.DeleteFunc(not, func(n int) bool { return n == -1 })
			}
			for _, n := range ok {
				right(t, fmt.Sprint(name, " ", n), with(base, name, n), true)
			}
			for _, n := range not {
				right(t, fmt.Sprint(name, " ", n), with(base, name, n), false)
			}
		}
	}
}

// TestRightOfTwoNumbers: one number that is right does not make up for
// another one.
func TestRightOfTwoNumbers(t *testing.T) {
	for i, one := range names {
		for _, other := range names[i+1:] {
			right(t, one+" and "+other, with(with(full(), one, -2), other, most+1), false)
			right(t, one+" and "+other, with(with(full(), one, most+1), other, -2), false)
			right(t, one+" and "+other, with(with(full(), one, 0), other, 6), true)
		}
	}
}

func TestRightOfBody(t *testing.T) {
	for _, base := range []api.Rec{{}, full(), utmost()} {
		right(t, "nil", bodied(base, nil), true)
		right(t, "empty", bodied(base, []byte{}), true)
		right(t, "a byte", bodied(base, []byte{9}), true)
		long := make([]byte, api.MaxText+2)
		for n, want := range map[int]bool{0: true, 1: true, api.MaxText - 1: true, api.MaxText: true, api.MaxText + 1: false, api.MaxText + 2: false} {
			right(t, fmt.Sprint(n, " bytes"), bodied(base, long[:n]), want)
		}
	}
}

func isSame(t *testing.T, what string, x, y api.Rec, want bool) {
	t.Helper()
	if rec.Same(x, y) != want || rec.Same(y, x) != want {
		t.Errorf("%s: Same is not %t", what, want)
	}
}

func TestSameOfSome(t *testing.T) {
	all := append(some(), wrong()...)
	for i, x := range all {
		for j, y := range all {
			isSame(t, fmt.Sprint(i, " and ", j), x, y, alike(x, y))
		}
		isSame(t, "one, and it with a Body of its own", x, bodied(x, bytes.Clone(x.Body)), true)
	}
}

// TestSameOfEachNumber: each number alone tells two records apart, be they
// right or not.
func TestSameOfEachNumber(t *testing.T) {
	edges := []int{least, -2, -1, 0, 1, 6, 7, most, most + 1, greatest}
	for _, base := range []api.Rec{{}, full(), utmost()} {
		for _, name := range names {
			for _, a := range edges {
				for _, b := range edges {
					isSame(t, fmt.Sprint(name, " ", a, " and ", b), with(base, name, a), with(base, name, b), a == b)
				}
			}
		}
	}
}

// TestSameOfNumbersThatChangePlaces: no number stands for another one.
func TestSameOfNumbersThatChangePlaces(t *testing.T) {
	for i, one := range names {
		for _, other := range names[i+1:] {
			x := with(with(api.Rec{}, one, 1), other, 2)
			y := with(with(api.Rec{}, one, 2), other, 1)
			isSame(t, one+" and "+other, x, y, false)
		}
	}
}

func TestSameOfBody(t *testing.T) {
	bodies := [][]byte{{0}, {1}, {0, 0}, {1, 0}, {0, 1}, {1, 1}, []byte("abc"), []byte("abd"), []byte("bbc"), []byte("abcd"), row(300), make([]byte, 300)}
	for _, base := range []api.Rec{{}, full()} {
		isSame(t, "nil and empty", bodied(base, nil), bodied(base, []byte{}), true)
		isSame(t, "empty, with spare room", bodied(base, nil), bodied(base, []byte("abc")[:0]), true)
		isSame(t, "unlike spare room", bodied(base, []byte("abc")[:2]), bodied(base, []byte("abd")[:2]), true)
		for i, a := range bodies {
			isSame(t, "something and nothing", bodied(base, a), bodied(base, nil), false)
			for j, b := range bodies {
				isSame(t, fmt.Sprint("Body ", i, " and ", j), bodied(base, a), bodied(base, bytes.Clone(b)), i == j)
			}
		}
		long := make([]byte, api.MaxText+1)
		isSame(t, "too long ones", bodied(base, long), bodied(base, bytes.Clone(long)), true)
		other := bytes.Clone(long)
		other[api.MaxText] = 1
		isSame(t, "too long ones, unlike at their last byte", bodied(base, long), bodied(base, other), false)
		isSame(t, "a byte longer", bodied(base, long), bodied(base, long[:api.MaxText]), false)
	}
}

// P10.2

func TestExample(t *testing.T) {
	for kind := range 7 {
		if n := rec.Blocks(api.Rec{Kind: kind}, 64); n != 2 {
			t.Errorf("a record without a Body, of blocks of 64 bytes: %d blocks", n)
		}
	}
}

// TestPutByHand lays a record whose bytes are written out.
func TestPutByHand(t *testing.T) {
	want := []byte{
		83, 0, 0, 0, 0, 0, 0, 0,
		0xde, 0xed, 0x8d, 0x28, 0, 0, 0, 0,
		4, 0, 0, 0, 0, 0, 0, 0,
		5, 4, 3, 2, 1, 0, 0, 0,
		6, 0, 0, 0, 0, 0, 0, 0,
		2, 0, 0, 0, 0, 0, 0, 0,
		5, 0, 0, 0, 0, 0, 0, 0,
		255, 255, 255, 255, 255, 255, 255, 255,
		9, 0, 0, 0, 0, 0, 0, 0,
		3, 0, 0, 0, 0, 0, 0, 0,
		1, 0, 0, 0, 0, 0, 0, 0,
		3, 0, 0, 0, 0, 0, 0, 0,
		'a', 'b', 'c', 0, 0, 0, 0, 0,
		0, 0, 0, 0, 0, 0, 0, 0,
		0, 0, 0, 0, 0, 0, 0, 0,
		0, 0, 0, 0, 0, 0, 0, 0,
	}
	same(t, "blocks of 32", rec.Put(full(), 32), want)
	same(t, "blocks of 64", rec.Put(full(), 64), want)
	same(t, "blocks of 1", rec.Put(full(), 1), want[:99])
	same(t, "blocks of 8", rec.Put(full(), 8), want[:104])
	gets(t, "blocks of 32", want, 32, full(), 4)
}

// lays checks Put, Blocks, and Join, against the document's words.
func lays(t *testing.T, x api.Rec, block int) {
	t.Helper()
	want := framed(payload(x), block)
	what := fmt.Sprintf("kind %d, %d bytes in Body, blocks of %d", x.Kind, len(x.Body), block)
	same(t, "Put, "+what, rec.Put(x, block), want)
	same(t, "Join, "+what, rec.Join(block, x), want)
	if n := rec.Blocks(x, block); n*block != len(want) {
		t.Errorf("Blocks, %s: %d, want %d", what, n, len(want)/block)
	}
}

func TestPutLays(t *testing.T) {
	for _, x := range some() {
		for _, block := range goodBlocks() {
			lays(t, x, block)
		}
	}
}

func TestPutOfAllBlocks(t *testing.T) {
	for block := 1; block <= api.MaxBlock; block++ {
		lays(t, full(), block)
	}
}

// TestPutOfEachNumber: each number has its place, whatever it is.
func TestPutOfEachNumber(t *testing.T) {
	for _, base := range []api.Rec{{}, full(), utmost()} {
		for _, name := range names {
			for _, n := range []int{0, 1, 5, 6} {
				lays(t, with(base, name, n), 64)
			}
			if name != "Kind" {
				lays(t, with(base, name, most-1), 64)
				lays(t, with(base, name, most), 64)
			}
		}
		lays(t, with(base, "Slot", -1), 64)
	}
}

// TestPutAtTheEdgesOfBlocks: records that fill their blocks to the last byte,
// lack one byte of it, or have one byte in a further block.
func TestPutAtTheEdgesOfBlocks(t *testing.T) {
	for _, block := range goodBlocks() {
		for _, all := range []int{1, 2, 3, 7} {
			for off, want := range map[int]int{-1: all, 0: all, 1: all + 1} {
				body := all*block + off - head - bare
				if body < 0 || block == 1 {
					continue
				}
				x := bodied(full(), bytes.Repeat([]byte{7}, body))
				if n := rec.Blocks(x, block); n != want {
					t.Errorf("%d blocks of %d, and %d: %d blocks, want %d", all, block, off, n, want)
				}
				lays(t, x, block)
				gets(t, "at an edge", rec.Put(x, block), block, x, want)
			}
		}
	}
}

func TestPutOfBodies(t *testing.T) {
	for n := range 300 {
		for _, block := range []int{1, 8, 32, 100} {
			lays(t, bodied(full(), row(n)), block)
			lays(t, bodied(full(), make([]byte, n)), block)
		}
	}
	same(t, "nil and empty", rec.Put(bodied(full(), nil), 64), rec.Put(bodied(full(), []byte{}), 64))
}

func TestPutOfTheGreatest(t *testing.T) {
	body := row(api.MaxText)
	for _, block := range []int{1, 512, 4095, 4096} {
		for _, n := range []int{api.MaxText - 1, api.MaxText} {
			lays(t, bodied(utmost(), body[:n]), block)
		}
	}
	if n := rec.Blocks(bodied(utmost(), body), 4096); n != 257 {
		t.Errorf("of blocks of 4096: %d", n)
	}
}

// lacks checks that nothing is laid.
func lacks(t *testing.T, what string, x api.Rec, block int) {
	t.Helper()
	if b := rec.Put(x, block); len(b) != 0 {
		t.Errorf("%s: Put lays %d bytes", what, len(b))
	}
	if n := rec.Blocks(x, block); n != 0 {
		t.Errorf("%s: Blocks is %d", what, n)
	}
	if b := rec.Join(block, x); len(b) != 0 {
		t.Errorf("%s: Join lays %d bytes", what, len(b))
	}
}

func TestPutOfWrong(t *testing.T) {
	for i, x := range wrong() {
		for _, block := range []int{1, 64, 4096} {
			lacks(t, fmt.Sprint("a wrong one, ", i), x, block)
		}
		lacks(t, "a wrong one, and no block", x, 0)
	}
	for _, block := range badBlocks() {
		for _, x := range some() {
			lacks(t, fmt.Sprint("blocks of ", block), x, block)
		}
	}
}

func TestJoinOfNone(t *testing.T) {
	for _, block := range append(badBlocks(), goodBlocks()...) {
		if len(rec.Join(block)) != 0 || len(rec.Join(block, []api.Rec(nil)...)) != 0 || len(rec.Join(block, []api.Rec{}...)) != 0 {
			t.Errorf("no records, blocks of %d: there is something", block)
		}
	}
}

func TestJoinOfSeveral(t *testing.T) {
	l := some()
	for _, block := range goodBlocks() {
		var want []byte
		for n, x := range l {
			same(t, fmt.Sprint(n, " records"), rec.Join(block, l[:n]...), want)
			want = append(want, framed(payload(x), block)...)
		}
		same(t, "all records", rec.Join(block, l...), want)
	}
	same(t, "the same one twice", rec.Join(32, full(), full()), bytes.Repeat(framed(payload(full()), 32), 2))
	for _, block := range badBlocks() {
		if b := rec.Join(block, l...); len(b) != 0 {
			t.Errorf("blocks of %d: %d bytes", block, len(b))
		}
	}
}

// TestJoinWithWrong: of one that is not right there is nothing, wherever it
// stands, and all others are there.
func TestJoinWithWrong(t *testing.T) {
	l := []api.Rec{full(), {}, utmost()}
	want := rec.Join(32, l...)
	for _, x := range wrong() {
		for place := range len(l) + 1 {
			same(t, fmt.Sprint("a wrong one ahead of ", place), rec.Join(32, slices.Insert(slices.Clone(l), place, x)...), want)
		}
	}
	if b := rec.Join(32, wrong()...); len(b) != 0 {
		t.Errorf("wrong ones alone: %d bytes", len(b))
	}
}

func TestJoinOfMany(t *testing.T) {
	var l []api.Rec
	blocks := 0
	for i := range 5000 {
		x := api.Rec{Kind: i % 7, Seq: i, Body: row(i % 90)}
		l = append(l, x)
		blocks += rec.Blocks(x, 16)
	}
	b := rec.Join(16, l...)
	if len(b) != 16*blocks {
		t.Errorf("%d bytes, want %d blocks", len(b), blocks)
	}
	tells(t, "many", b, 16, l, blocks)
}
