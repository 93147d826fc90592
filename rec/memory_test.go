package rec_test

import (
	"bytes"
	"fmt"
	"slices"
	"testing"

	"revetment/api"
	"revetment/rec"
)

// roomy is n bytes 7, with as many of them behind as spare room, and all of
// them.
func roomy(n int) (b, all []byte) {
	all = bytes.Repeat([]byte{7}, 2*n+8)
	return all[:n], all
}

// unchanged checks that what roomy gave is as it was.
func unchanged(t *testing.T, what string, all []byte) {
	t.Helper()
	same(t, what+": what was handed in", all, bytes.Repeat([]byte{7}, len(all)))
}

// TestAsksChangeNothing: Right, Same and Blocks.
func TestAsksChangeNothing(t *testing.T) {
	for _, n := range []int{0, 1, 50} {
		body, all := roomy(n)
		x, y := bodied(full(), body), bodied(full(), body)
		for range 2 {
			if !rec.Right(x) || !rec.Same(x, y) || rec.Blocks(x, 32) != len(framed(payload(x), 32))/32 {
				t.Error("they do not say the same when asked again")
			}
		}
		unchanged(t, "asked", all)
		if !alike(x, bodied(full(), body)) || !alike(x, y) {
			t.Error("a record is another one")
		}
	}
}

func TestPutIsNewMemory(t *testing.T) {
	for name, put := range map[string]func(x api.Rec, block int) []byte{
		"Put":        rec.Put,
		"Join":       func(x api.Rec, block int) []byte { return rec.Join(block, x) },
		"Join twice": func(x api.Rec, block int) []byte { return rec.Join(block, x, x) },
	} {
		for _, n := range []int{0, 1, 4, 50, 500} {
			// Blocks that the record fills, too: no byte is laid behind it then.
			for _, block := range []int{1, 32, 100, head + bare + n} {
				body, all := roomy(n)
				x := bodied(full(), body)
				first, second := put(x, block), put(x, block)
				want := bytes.Clone(second)
				unchanged(t, name, all)
				same(t, name+": twice", first, second)
				spoil(first)
				unchanged(t, name+", an answer written to", all)
				same(t, name+": another answer", second, want)
				spoil(all)
				same(t, name+": an answer, what was handed in written to", second, want)
				if len(body) > 0 && bytes.Equal(put(x, block), want) {
					t.Error(name, ": what was handed in was kept")
				}
			}
		}
	}
}

// TestJoinKeepsItsList: the list of records, and its spare room, stay.
func TestJoinKeepsItsList(t *testing.T) {
	list := []api.Rec{full(), with(full(), "Kind", 7), {}, utmost(), bodied(full(), row(60)), {Seq: 9}}
	was := slices.Clone(list)
	for n := range len(list) + 1 {
		b := rec.Join(32, list[:n]...)
		spoil(b)
		if !slices.EqualFunc(list, was, alike) {
			t.Errorf("Join of %d changed its list", n)
		}
	}
	if string(list[0].Body) != "abc" || !bytes.Equal(list[4].Body, row(60)) {
		t.Error("Join changed a Body")
	}
}

func TestGetIsNewMemory(t *testing.T) {
	for _, n := range []int{0, 1, 4, 50, 500} {
		for _, block := range []int{1, 32, 100, head + bare + n} {
			x := bodied(full(), bytes.Repeat([]byte{7}, n))
			laid := rec.Put(x, block)
			all := slices.Concat(laid, row(300))
			was := bytes.Clone(all)
			first, _, _ := rec.Get(all[:len(laid)], block)
			second, _, _ := rec.Get(all[:len(laid)], block)
			same(t, "the bytes", all, was)
			spoil(first.Body)
			same(t, "the bytes, an answer written to", all, was)
			same(t, "another answer", second.Body, x.Body)
			spoil(all)
			same(t, "an answer, the bytes written to", second.Body, x.Body)
			if !alike(second, x) {
				t.Errorf("another record: %+v", second)
			}
			refuses(t, "the bytes written to", all, block, api.ErrForm)
		}
	}
}

// TestRefusalsChangeNothing: what Get refuses, and what All leaves, stays as
// it was.
func TestRefusalsChangeNothing(t *testing.T) {
	p := payload(full())
	for i, b := range [][]byte{
		make([]byte, 10),
		headed(-1, 0, p, 32),
		headed(len(p), 1, p, 32),
		framed(p[:90], 32),
		framed(payload(with(full(), "Gen", -1)), 32),
		rec.Put(full(), 32)[:100],
	} {
		was := bytes.Clone(b[:cap(b)])
		rec.Get(b, 32)
		rec.Get(b, 0)
		rec.All(b, 32)
		rec.All(b, 0)
		same(t, fmt.Sprint("refused, ", i), b[:cap(b)], was)
	}
}

// TestAllIsNewMemory: no Body is in the bytes' memory, nor in that of another
// record of the same answer, or of another one, spare room included; nor are
// two answers' lists in one.
func TestAllIsNewMemory(t *testing.T) {
	l := []api.Rec{bodied(full(), row(40)), {}, bodied(utmost(), []byte{1}), bodied(full(), row(700)), full()}
	for _, block := range []int{1, 32, 100} {
		laid := rec.Join(block, l...)
		all := slices.Concat(laid, row(300))
		was := bytes.Clone(all)
		for i := range l {
			first, _ := rec.All(all[:len(laid)], block)
			second, _ := rec.All(all[:len(laid)], block)
			spoil(first[i].Body)
			same(t, "the bytes, a Body written to", all, was)
			for j := range l {
				if i != j && !alike(first[j], l[j]) {
					t.Errorf("Body %d written to: record %d is another one", i, j)
				}
			}
			for j := range first[:cap(first)] {
				first[:cap(first)][j] = api.Rec{Kind: 99}
			}
			if !slices.EqualFunc(second, l, alike) {
				t.Errorf("Body %d, and the list, written to: another answer changed", i)
			}
		}
		kept, _ := rec.All(all[:len(laid)], block)
		spoil(all)
		if !slices.EqualFunc(kept, l, alike) {
			t.Error("the bytes written to: an answer changed")
		}
	}
}

// TestAnswersHangOnArgumentsAlone: whatever was asked ahead.
func TestAnswersHangOnArgumentsAlone(t *testing.T) {
	b := rec.Put(full(), 32)
	for range 3 {
		same(t, "Put", rec.Put(full(), 32), b)
		gets(t, "Get", b, 32, full(), 4)
		refuses(t, "Get of less", b[:96], 32, api.ErrShort)
		lacks(t, "a wrong one", with(full(), "Kind", 7), 32)
		same(t, "Join", rec.Join(32, full()), b)
		tells(t, "All", b, 32, []api.Rec{full()}, 4)
		tells(t, "All of less", b[:127], 32, nil, 0)
	}
}
