package zone_test

import (
	"bytes"
	"math"
	"testing"

	"revetment/api"
	"revetment/zone"
)

const (
	least    = math.MinInt
	greatest = math.MaxInt
)

// alike is whether two zones are the same: their fields are; nil and empty
// bytes are alike.
func alike(a, b zone.Zone) bool {
	return a.Cap == b.Cap && a.Block == b.Block && bytes.Equal(a.Data, b.Data) && a.Safe == b.Safe && a.Done == b.Done
}

func same(t *testing.T, what string, got, want zone.Zone) {
	t.Helper()
	if !alike(got, want) {
		t.Errorf("%s: got %+v, want %+v", what, short(got), short(want))
	}
}

// short keeps what a failure prints short.
func short(z zone.Zone) zone.Zone {
	z.Data = z.Data[:min(len(z.Data), 40)]
	return z
}

// none is whether a zone is what stands beside an error.
func none(z zone.Zone) bool {
	return alike(z, zone.Zone{})
}

// add appends what must be taken.
func add(t *testing.T, z zone.Zone, b string) zone.Zone {
	t.Helper()
	out, e := zone.Append(z, []byte(b))
	if e != api.OK {
		t.Fatalf("Append of %q to %+v: %d", b, z, e)
	}
	return out
}

// refused checks that Append answers an error, and no zone beside it.
func refused(t *testing.T, what string, z zone.Zone, b []byte, want api.Errno) {
	t.Helper()
	got, e := zone.Append(z, b)
	if e != want || !none(got) {
		t.Errorf("%s: got %+v, %d, want an error %d alone", what, short(got), e, want)
	}
}

// holds checks all that is told of a zone: what it looks like, whether it is
// in use, and what is read of it as a whole and block by block.
func holds(t *testing.T, what string, z zone.Zone, want string, safe int, done, active bool) {
	t.Helper()
	wp := len(want) / z.Block
	if got := zone.Look(z); got != (api.Look{Wp: wp, Safe: safe, Done: done}) {
		t.Errorf("%s: Look is %+v, want %d, %d, %t", what, got, wp, safe, done)
	}
	if got := zone.Active(z); got != active {
		t.Errorf("%s: Active is %t", what, got)
	}
	if got, e := zone.Read(z, 0, wp); e != api.OK || string(got) != want {
		t.Errorf("%s: got %q, %d, want %q", what, got, e, want)
	}
	for i := range wp {
		if got, e := zone.Read(z, i, 1); e != api.OK || string(got) != want[i*z.Block:(i+1)*z.Block] {
			t.Errorf("%s: block %d: got %q, %d", what, i, got, e)
		}
	}
	if got, e := zone.Read(z, 0, wp+1); e != api.ErrRange || len(got) != 0 {
		t.Errorf("%s: beyond the write pointer: got %q, %d", what, got, e)
	}
}

// The zones that each call is tried on: of four blocks of two bytes.

func empty() zone.Zone { return zone.New(4, 2) }

// partly has one block that is safe, and two that are not.
func partly(t *testing.T) zone.Zone {
	return add(t, zone.Flush(add(t, empty(), "aa")), "bbcc")
}

// loose has two blocks, and none of them is safe.
func loose(t *testing.T) zone.Zone { return add(t, empty(), "aabb") }

func full(t *testing.T) zone.Zone { return add(t, partly(t), "dd") }

func done(t *testing.T) zone.Zone { return zone.Finish(partly(t)) }

func doneEmpty() zone.Zone { return zone.Finish(empty()) }

func doneFull(t *testing.T) zone.Zone { return zone.Finish(full(t)) }

func allZones(t *testing.T) map[string]zone.Zone {
	return map[string]zone.Zone{
		"empty":             empty(),
		"partly written":    partly(t),
		"written, not safe": loose(t),
		"flushed":           zone.Flush(partly(t)),
		"full":              full(t),
		"full and safe":     zone.Flush(full(t)),
		"finished":          done(t),
		"finished, empty":   doneEmpty(),
		"finished, full":    doneFull(t),
		"reset":             zone.Reset(done(t)),
		"crashed":           zone.Crash(partly(t), 1),
	}
}

// P4.1: New, Look, Active

func TestNew(t *testing.T) {
	for _, c := range []struct{ cap, block, wantCap, wantBlock int }{
		{4, 2, 4, 2},
		{1, 1, 1, 1},
		{1, 7, 1, 7},
		{7, 1, 7, 1},
		{2, 2, 2, 2},
		{0, 5, 1, 5},
		{5, 0, 5, 1},
		{0, 0, 1, 1},
		{-1, 3, 1, 3},
		{3, -1, 3, 1},
		{-4, -2, 1, 1},
		{least, least, 1, 1},
		{least, 3, 1, 3},
		{3, least, 3, 1},
		{4095, 4095, 4095, 4095},
		{4096, 3, 4096, 3},
		{3, 4096, 3, 4096},
		{4096, 4096, 4096, 4096},
		{4097, 3, 4096, 3},
		{3, 4097, 3, 4096},
		{greatest, 2, 4096, 2},
		{2, greatest, 2, 4096},
		{greatest, greatest, 4096, 4096},
		{least, greatest, 1, 4096},
	} {
		z := zone.New(c.cap, c.block)
		if z.Cap != c.wantCap || z.Block != c.wantBlock || len(z.Data) != 0 || z.Safe != 0 || z.Done {
			t.Errorf("New(%d, %d): %+v", c.cap, c.block, z)
		}
		if zone.Look(z) != (api.Look{}) || zone.Active(z) {
			t.Errorf("New(%d, %d) is not empty: %+v", c.cap, c.block, zone.Look(z))
		}
	}
}

// TestNewTakesItsBlocks: a zone takes just as much as its capacity says, in
// blocks of its bytes, whatever its fields are.
func TestNewTakesItsBlocks(t *testing.T) {
	for _, c := range []struct{ cap, block, wantCap, wantBlock int }{
		{1, 1, 1, 1},
		{3, 5, 3, 5},
		{0, -3, 1, 1},
		{least, least, 1, 1},
		{api.MaxCap, 2, api.MaxCap, 2},
		{api.MaxCap + 1, 2, api.MaxCap, 2},
		{greatest, 1, api.MaxCap, 1},
		{2, api.MaxBlock, 2, api.MaxBlock},
		{2, api.MaxBlock + 1, 2, api.MaxBlock},
		{1, greatest, 1, api.MaxBlock},
		{greatest, greatest, api.MaxCap, api.MaxBlock},
	} {
		z := zone.New(c.cap, c.block)
		size := c.wantCap * c.wantBlock
		refused(t, "a block more", z, make([]byte, size+c.wantBlock), api.ErrFull)
		if c.wantBlock > 1 {
			refused(t, "a byte less", z, make([]byte, size-1), api.ErrAlign)
		}
		all, e := zone.Append(z, make([]byte, size))
		if e != api.OK || zone.Look(all) != (api.Look{Wp: c.wantCap}) || zone.Active(all) {
			t.Errorf("New(%d, %d), all of it written: %+v, %d", c.cap, c.block, zone.Look(all), e)
		}
	}
}

func TestLookAndActive(t *testing.T) {
	for name, c := range map[string]struct {
		look   api.Look
		active bool
	}{
		"empty":             {api.Look{}, false},
		"partly written":    {api.Look{Wp: 3, Safe: 1}, true},
		"written, not safe": {api.Look{Wp: 2}, true},
		"flushed":           {api.Look{Wp: 3, Safe: 3}, true},
		"full":              {api.Look{Wp: 4, Safe: 1}, false},
		"full and safe":     {api.Look{Wp: 4, Safe: 4}, false},
		"finished":          {api.Look{Wp: 3, Safe: 3, Done: true}, false},
		"finished, empty":   {api.Look{Done: true}, false},
		"finished, full":    {api.Look{Wp: 4, Safe: 4, Done: true}, false},
		"reset":             {api.Look{}, false},
		"crashed":           {api.Look{Wp: 2, Safe: 2}, true},
	} {
		z := allZones(t)[name]
		if got := zone.Look(z); got != c.look {
			t.Errorf("%s: Look is %+v, want %+v", name, got, c.look)
		}
		if got := zone.Active(z); got != c.active {
			t.Errorf("%s: Active is %t", name, got)
		}
	}
}

// TestActiveOfEachPointer: from the first block on, and up to the last one.
func TestActiveOfEachPointer(t *testing.T) {
	z := zone.New(5, 3)
	for wp := range 6 {
		if got := zone.Active(z); got != (wp > 0 && wp < 5) {
			t.Errorf("write pointer %d of 5: Active is %t", wp, got)
		}
		if zone.Active(zone.Finish(z)) {
			t.Errorf("write pointer %d of 5, finished: Active", wp)
		}
		if wp < 5 {
			z = add(t, z, "xyz")
		}
	}
	one := add(t, zone.New(1, 1), "x")
	if zone.Active(one) {
		t.Error("a zone of one block is in use")
	}
}

// P4.2: Append

func TestAppend(t *testing.T) {
	z := add(t, empty(), "aa")
	holds(t, "one block", z, "aa", 0, false, true)
	z = add(t, z, "bbcc")
	holds(t, "three blocks", z, "aabbcc", 0, false, true)
	z = add(t, z, "dd")
	holds(t, "all blocks", z, "aabbccdd", 0, false, false)
	holds(t, "all at once", add(t, empty(), "aabbccdd"), "aabbccdd", 0, false, false)
	holds(t, "behind what is safe", full(t), "aabbccdd", 1, false, false)
	holds(t, "to one that was reset", add(t, zone.Reset(done(t)), "xy"), "xy", 0, false, true)
	holds(t, "to one that crashed", add(t, zone.Crash(partly(t), 1), "xy"), "aabbxy", 2, false, true)
	holds(t, "bytes 0", add(t, empty(), "\x00\x00"), "\x00\x00", 0, false, true)
	if got := add(t, partly(t), "dd"); got.Cap != 4 || got.Block != 2 {
		t.Errorf("Append changed the capacity or the block: %+v", got)
	}
}

func TestAppendRefused(t *testing.T) {
	zones := allZones(t)
	for name, z := range zones {
		refused(t, name+": nil", z, nil, api.ErrAlign)
		refused(t, name+": no bytes", z, []byte{}, api.ErrAlign)
		refused(t, name+": no bytes, but room", z, make([]byte, 0, 8), api.ErrAlign)
		refused(t, name+": half a block", z, []byte("x"), api.ErrAlign)
		refused(t, name+": a block and a half", z, []byte("xxy"), api.ErrAlign)
		refused(t, name+": more than all, and a half", z, []byte("123456789"), api.ErrAlign)
		refused(t, name+": more than all", z, []byte("1234567890"), api.ErrFull)
	}
	for _, name := range []string{"full", "full and safe", "finished", "finished, empty", "finished, full"} {
		refused(t, name+": one block", zones[name], []byte("xx"), api.ErrFull)
	}
}

// TestAppendOfWhatIsLeft: just as many blocks as are left go in, one more is
// refused, wherever the write pointer is and whatever is safe.
func TestAppendOfWhatIsLeft(t *testing.T) {
	const room, block = 6, 3
	bytesOf := func(n int) []byte { return bytes.Repeat([]byte("xyz"), n) }
	for wp := range room + 1 {
		z := zone.New(room, block)
		if wp > 0 {
			z = add(t, z, string(bytesOf(wp)))
		}
		for _, z := range []zone.Zone{z, zone.Flush(z)} {
			for n := 1; n <= room+1; n++ {
				if n > room-wp {
					refused(t, "more than is left", z, bytesOf(n), api.ErrFull)
					refused(t, "more than is left, not whole", z, bytesOf(n)[1:], api.ErrAlign)
					continue
				}
				got := add(t, z, string(bytesOf(n)))
				if zone.Look(got) != (api.Look{Wp: wp + n, Safe: z.Safe}) {
					t.Errorf("%d blocks behind %d: %+v", n, wp, zone.Look(got))
				}
			}
			refused(t, "finished", zone.Finish(z), bytesOf(1), api.ErrFull)
			refused(t, "finished, not whole", zone.Finish(z), bytesOf(1)[1:], api.ErrAlign)
		}
	}
}

// P4.2: Read

func TestRead(t *testing.T) {
	for _, c := range []struct {
		at, n int
		want  string
	}{
		{0, 0, ""}, {0, 1, "aa"}, {0, 2, "aabb"}, {0, 3, "aabbcc"},
		{1, 0, ""}, {1, 1, "bb"}, {1, 2, "bbcc"},
		{2, 0, ""}, {2, 1, "cc"},
		{3, 0, ""},
	} {
		for _, z := range []zone.Zone{partly(t), zone.Flush(partly(t)), done(t)} {
			if got, e := zone.Read(z, c.at, c.n); e != api.OK || string(got) != c.want {
				t.Errorf("Read(%d, %d) of %+v: got %q, %d", c.at, c.n, z, got, e)
			}
		}
	}
}

func TestReadRefused(t *testing.T) {
	for _, c := range [][2]int{
		{-1, 0}, {-1, 1}, {-1, 2}, {-2, 4}, {least, 0}, {least, 1}, {least, greatest}, {least, least},
		{0, -1}, {1, -1}, {3, -1}, {4, -1}, {4, -2}, {0, least}, {3, least}, {greatest, -1}, {greatest, least},
		{greatest, -greatest}, {-greatest, greatest}, {-1, -1},
		{0, 4}, {1, 3}, {2, 2}, {3, 1}, {0, 5}, {0, greatest},
		{4, 0}, {4, 1}, {5, 0}, {greatest, 0},
		{greatest, 1}, {1, greatest}, {2, greatest}, {3, greatest}, {greatest, greatest}, {greatest - 1, 2},
		{greatest/2 + 1, greatest/2 + 1}, {greatest/2 + 1, greatest/2 + 2}, {greatest/2 + 2, greatest/2 + 3},
	} {
		for _, z := range []zone.Zone{partly(t), zone.Flush(partly(t)), done(t)} {
			if got, e := zone.Read(z, c[0], c[1]); e != api.ErrRange || len(got) != 0 {
				t.Errorf("Read(%d, %d): got %q, %d", c[0], c[1], got, e)
			}
		}
	}
}

// TestReadOfNothingWritten: where the write pointer is 0, nothing but nothing
// is read.
func TestReadOfNothingWritten(t *testing.T) {
	for _, z := range []zone.Zone{empty(), doneEmpty(), zone.Reset(full(t))} {
		if got, e := zone.Read(z, 0, 0); e != api.OK || len(got) != 0 {
			t.Errorf("Read(0, 0): %q, %d", got, e)
		}
		for _, c := range [][2]int{{0, 1}, {1, 0}, {1, 1}, {-1, 1}, {0, -1}} {
			if got, e := zone.Read(z, c[0], c[1]); e != api.ErrRange || len(got) != 0 {
				t.Errorf("Read(%d, %d): %q, %d", c[0], c[1], got, e)
			}
		}
	}
}

func TestReadOfFullZones(t *testing.T) {
	for _, z := range []zone.Zone{full(t), doneFull(t)} {
		if got, e := zone.Read(z, 0, 4); e != api.OK || string(got) != "aabbccdd" {
			t.Errorf("all of it: %q, %d", got, e)
		}
		if got, e := zone.Read(z, 4, 0); e != api.OK || len(got) != 0 {
			t.Errorf("nothing at its end: %q, %d", got, e)
		}
		if got, e := zone.Read(z, 4, 1); e != api.ErrRange || len(got) != 0 {
			t.Errorf("a block beyond: %q, %d", got, e)
		}
	}
}

// P4.2: Flush, Finish, Reset

func TestFlush(t *testing.T) {
	holds(t, "empty", zone.Flush(empty()), "", 0, false, false)
	holds(t, "partly written", zone.Flush(partly(t)), "aabbcc", 3, false, true)
	holds(t, "none safe", zone.Flush(loose(t)), "aabb", 2, false, true)
	holds(t, "full", zone.Flush(full(t)), "aabbccdd", 4, false, false)
	holds(t, "finished", zone.Flush(done(t)), "aabbcc", 3, true, false)
	holds(t, "finished, empty", zone.Flush(doneEmpty()), "", 0, true, false)
	holds(t, "finished, full", zone.Flush(doneFull(t)), "aabbccdd", 4, true, false)
}

func TestFinish(t *testing.T) {
	holds(t, "empty", zone.Finish(empty()), "", 0, true, false)
	holds(t, "partly written", zone.Finish(partly(t)), "aabbcc", 3, true, false)
	holds(t, "none safe", zone.Finish(loose(t)), "aabb", 2, true, false)
	holds(t, "full", zone.Finish(full(t)), "aabbccdd", 4, true, false)
	holds(t, "finished", zone.Finish(done(t)), "aabbcc", 3, true, false)
	holds(t, "finished, empty", zone.Finish(doneEmpty()), "", 0, true, false)
	holds(t, "finished, full", zone.Finish(doneFull(t)), "aabbccdd", 4, true, false)
}

func TestReset(t *testing.T) {
	for name, z := range allZones(t) {
		got := zone.Reset(z)
		holds(t, name, got, "", 0, false, false)
		same(t, name+", reset", got, empty())
		holds(t, name+", reset and written", add(t, got, "xxyyzzww"), "xxyyzzww", 0, false, false)
	}
}

// TestTheyKeepCapacityAndBlock: no call makes a zone wider or narrower.
func TestTheyKeepCapacityAndBlock(t *testing.T) {
	z := add(t, zone.New(3, 5), "abcdefghij")
	for name, got := range map[string]zone.Zone{
		"Flush":  zone.Flush(z),
		"Finish": zone.Finish(z),
		"Reset":  zone.Reset(z),
		"Crash":  zone.Crash(z, 1),
		"Append": add(t, z, "12345"),
	} {
		if got.Cap != 3 || got.Block != 5 {
			t.Errorf("%s: %d blocks of %d", name, got.Cap, got.Block)
		}
	}
}

// P4.3: Crash

// TestCrashOfTheExample: three blocks, of which one is safe, and keep 4.
func TestCrashOfTheExample(t *testing.T) {
	holds(t, "the example", zone.Crash(partly(t), 4), "aabb", 2, false, true)
}

func TestCrash(t *testing.T) {
	for _, c := range []struct {
		keep int
		want string
	}{
		{least, "aa"}, {least + 1, "aa"}, {-3, "aa"}, {-2, "aa"}, {-1, "aa"},
		{0, "aa"}, {1, "aabb"}, {2, "aabbcc"},
		{3, "aa"}, {4, "aabb"}, {5, "aabbcc"}, {6, "aa"}, {255, "aa"},
		// The greatest int is 1 modulo 3.
		{greatest, "aabb"}, {greatest - 1, "aa"},
	} {
		holds(t, "a block that is safe, and two", zone.Crash(partly(t), c.keep), c.want, len(c.want)/2, false, true)
	}
	holds(t, "none safe, none kept", zone.Crash(loose(t), 0), "", 0, false, false)
	holds(t, "none safe, below 0", zone.Crash(loose(t), -1), "", 0, false, false)
	holds(t, "none safe, one kept", zone.Crash(loose(t), 1), "aa", 1, false, true)
	holds(t, "none safe, all kept", zone.Crash(loose(t), 2), "aabb", 2, false, true)
	holds(t, "none safe, one more", zone.Crash(loose(t), 3), "", 0, false, false)
	holds(t, "full, all kept", zone.Crash(full(t), 3), "aabbccdd", 4, false, false)
	holds(t, "full, none kept", zone.Crash(full(t), 4), "aa", 1, false, true)
	holds(t, "full, the greatest", zone.Crash(full(t), greatest), "aabbccdd", 4, false, false)
}

// TestCrashOfWhatIsSafe: where all that is written is safe, all stays,
// whatever keep is; what is finished stays so.
func TestCrashOfWhatIsSafe(t *testing.T) {
	for _, keep := range []int{least, -1, 0, 1, 2, 3, 4, 5, greatest} {
		holds(t, "empty", zone.Crash(empty(), keep), "", 0, false, false)
		holds(t, "flushed", zone.Crash(zone.Flush(partly(t)), keep), "aabbcc", 3, false, true)
		holds(t, "full and safe", zone.Crash(zone.Flush(full(t)), keep), "aabbccdd", 4, false, false)
		holds(t, "finished", zone.Crash(done(t), keep), "aabbcc", 3, true, false)
		holds(t, "finished, empty", zone.Crash(doneEmpty(), keep), "", 0, true, false)
		holds(t, "finished, full", zone.Crash(doneFull(t), keep), "aabbccdd", 4, true, false)
	}
}

// TestCrashOfEachKeep goes through all numbers of safe and of other blocks.
func TestCrashOfEachKeep(t *testing.T) {
	const text = "abcdefgh"
	for safe := range 5 {
		for others := range 4 {
			z := zone.New(8, 1)
			if safe > 0 {
				z = zone.Flush(add(t, z, text[:safe]))
			}
			if others > 0 {
				z = add(t, z, text[safe:safe+others])
			}
			for keep := -3; keep < 20; keep++ {
				stay := safe
				if keep > 0 {
					stay += keep % (others + 1)
				}
				holds(t, "Crash", zone.Crash(z, keep), text[:stay], stay, false, stay > 0)
			}
		}
	}
}

// P4.4

// chance is a row of numbers by a fixed rule.
type chance uint32

func (c *chance) below(n int) int {
	*c = *c*1664525 + 1013904223
	return int(*c>>8) % n
}

// twin is a zone as the chapter tells it, as a list of blocks.
type twin struct {
	cap, block int
	blocks     []string
	safe       int
	done       bool
}

func (w *twin) append(b []byte) api.Errno {
	if len(b) == 0 || len(b)%w.block != 0 {
		return api.ErrAlign
	}
	if w.done || len(w.blocks)+len(b)/w.block > w.cap {
		return api.ErrFull
	}
	for ; len(b) > 0; b = b[w.block:] {
		w.blocks = append(w.blocks, string(b[:w.block]))
	}
	return api.OK
}

func (w *twin) crash(keep int) {
	others := len(w.blocks) - w.safe
	w.safe += max(keep, 0) % (others + 1)
	w.blocks = w.blocks[:w.safe]
}

// text is all that the twin has.
func (w *twin) text() string {
	out := ""
	for _, b := range w.blocks {
		out += b
	}
	return out
}

// move makes one call on both, and tells whether it was a Reset.
func move(t *testing.T, c *chance, z zone.Zone, w *twin) (zone.Zone, bool) {
	t.Helper()
	switch c.below(12) {
	case 0:
		*w = twin{cap: w.cap, block: w.block}
		return zone.Reset(z), true
	case 1:
		w.safe, w.done = len(w.blocks), true
		return zone.Finish(z), false
	case 2, 3:
		w.safe = len(w.blocks)
		return zone.Flush(z), false
	case 4, 5, 6:
		keep := c.below(9) - 2
		w.crash(keep)
		return zone.Crash(z, keep), false
	}
	b := make([]byte, c.below(3*w.block+1))
	for i := range b {
		b[i] = byte('a' + c.below(26))
	}
	want := w.append(b)
	got, e := zone.Append(z, b)
	if e != want {
		t.Fatalf("Append of %d bytes to %+v: got %d, want %d", len(b), z, e, want)
	}
	if e != api.OK {
		if !none(got) {
			t.Fatalf("a zone beside the error %d: %+v", e, got)
		}
		return z, false
	}
	return got, false
}

// TestWhatIsSafeStays makes many calls in many orders: what is safe stays but
// for Reset, behind a Crash there is a beginning of what was, and all is as
// the twin has it.
func TestWhatIsSafeStays(t *testing.T) {
	c := chance(1)
	for range 300 {
		w := twin{cap: 1 + c.below(6), block: 1 + c.below(3)}
		z := zone.New(w.cap, w.block)
		for range 40 {
			safe := string(z.Data[:z.Safe*z.Block])
			next, reset := move(t, &c, z, &w)
			got, e := zone.Read(next, 0, zone.Look(next).Wp)
			if e != api.OK || string(got) != w.text() {
				t.Fatalf("got %q, %d, want %q", got, e, w.text())
			}
			if !reset && !bytes.HasPrefix(got, []byte(safe)) {
				t.Fatalf("%q was safe, and %q is there", safe, got)
			}
			wp := len(w.blocks)
			holds(t, "behind a call", next, w.text(), w.safe, w.done, !w.done && wp > 0 && wp < w.cap)
			for keep := range 5 {
				crashed := zone.Crash(next, keep)
				if !bytes.HasPrefix(got, crashed.Data) || len(crashed.Data) < w.safe*w.block {
					t.Fatalf("Crash of %q with keep %d: %q", got, keep, crashed.Data)
				}
			}
			z = next
		}
	}
}

// TestCrashTwice: behind a Crash all that stayed is safe, and the next one
// takes nothing more.
func TestCrashTwice(t *testing.T) {
	for keep := range 4 {
		once := zone.Crash(full(t), keep)
		for again := -1; again < 6; again++ {
			same(t, "Crash of what crashed", zone.Crash(once, again), once)
		}
	}
}

// Rules

// calls are the calls that answer bytes, in a zone or by themselves.
func calls() map[string]func(z zone.Zone) []byte {
	return map[string]func(z zone.Zone) []byte{
		"Flush":            func(z zone.Zone) []byte { return zone.Flush(z).Data },
		"Finish":           func(z zone.Zone) []byte { return zone.Finish(z).Data },
		"Reset":            func(z zone.Zone) []byte { return zone.Reset(z).Data },
		"Crash, none kept": func(z zone.Zone) []byte { return zone.Crash(z, 0).Data },
		"Crash, one kept":  func(z zone.Zone) []byte { return zone.Crash(z, 1).Data },
		"Crash, all kept":  func(z zone.Zone) []byte { return zone.Crash(z, 2).Data },
		"Append": func(z zone.Zone) []byte {
			out, _ := zone.Append(z, []byte("dd"))
			return out.Data
		},
		"Append of itself": func(z zone.Zone) []byte {
			out, _ := zone.Append(z, z.Data[:2])
			return out.Data
		},
		"Append refused": func(z zone.Zone) []byte {
			out, _ := zone.Append(z, []byte("ddeeff"))
			return out.Data
		},
		"Read": func(z zone.Zone) []byte {
			out, _ := zone.Read(z, 0, 3)
			return out
		},
		"Read of some": func(z zone.Zone) []byte {
			out, _ := zone.Read(z, 1, 1)
			return out
		},
		"Read of none": func(z zone.Zone) []byte {
			out, _ := zone.Read(z, 1, 0)
			return out
		},
	}
}

// roomy is a zone of three blocks, of which one is safe, whose bytes have
// spare room behind them.
func roomy() (zone.Zone, []byte) {
	room := []byte("aabbccddeeffgghh")
	return zone.Zone{Cap: 4, Block: 2, Data: room[:6], Safe: 1}, room
}

// spoil writes over a list and its spare room.
func spoil(b []byte) {
	b = b[:cap(b)]
	for i := range b {
		b[i] ^= 0xee
	}
}

// TestAnswersInNewMemory: a zone that is handed in stays as it was, its spare
// room too, and a write to an answer, or to its spare room, is seen neither
// there nor in another answer; nor the other way around.
func TestAnswersInNewMemory(t *testing.T) {
	for name, call := range calls() {
		z, room := roomy()
		was := string(room)
		first, second := call(z), call(z)
		want := string(first)
		if string(room) != was || len(z.Data) != 6 {
			t.Errorf("%s changed what was handed in: %q", name, room)
		}
		spoil(first)
		if string(room) != was {
			t.Errorf("%s: what was handed in is shared with the answer", name)
		}
		if string(second) != want {
			t.Errorf("%s: two answers share memory", name)
		}
		spoil(room)
		if string(second) != want {
			t.Errorf("%s: the answer is shared with what was handed in", name)
		}
	}
}

// TestAppendKeepsItsBytes: what is appended is neither changed nor kept.
func TestAppendKeepsItsBytes(t *testing.T) {
	for _, z := range []zone.Zone{empty(), add(t, empty(), "aa")} {
		room := []byte("xxyyzz")
		got, e := zone.Append(z, room[:4])
		if e != api.OK || string(room) != "xxyyzz" {
			t.Errorf("Append changed its bytes: %q, %d", room, e)
		}
		want := string(got.Data)
		spoil(room)
		if string(got.Data) != want {
			t.Error("Append kept its bytes")
		}
		was := string(room)
		spoil(got.Data)
		if string(room) != was {
			t.Error("Append's answer is shared with its bytes")
		}
	}
}

// TestAppendsKeepApart: two Appends to one and the same zone, each with
// another one behind it, don't see each other.
func TestAppendsKeepApart(t *testing.T) {
	z := zone.New(40, 1)
	for wp := range 30 {
		one, two := add(t, z, "1"), add(t, z, "2")
		three, four := add(t, one, "3"), add(t, two, "4")
		start := string(z.Data)
		for _, c := range []struct {
			z    zone.Zone
			want string
		}{{z, ""}, {one, "1"}, {two, "2"}, {three, "13"}, {four, "24"}} {
			if string(c.z.Data) != start+c.want {
				t.Fatalf("behind %d blocks: %q, want %q", wp, c.z.Data, start+c.want)
			}
		}
		z = one
	}
}

// TestCrashesKeepApart: what is appended behind a Crash, or behind a Reset,
// does not reach the zone that crashed.
func TestCrashesKeepApart(t *testing.T) {
	z := partly(t)
	add(t, zone.Crash(z, 0), "xxyy")
	add(t, zone.Crash(z, 1), "zz")
	add(t, zone.Reset(z), "ww")
	add(t, zone.Flush(z), "vv")
	holds(t, "what crashed", z, "aabbcc", 1, false, true)
}

// TestCallsChangeNoZone: a zone that is handed in has all fields as before.
func TestCallsChangeNoZone(t *testing.T) {
	for name, z := range allZones(t) {
		was := z
		was.Data = bytes.Clone(z.Data)
		zone.Append(z, []byte("xx"))
		zone.Append(z, []byte("x"))
		zone.Read(z, 0, 2)
		zone.Flush(z)
		zone.Finish(z)
		zone.Reset(z)
		zone.Crash(z, 1)
		zone.Look(z)
		zone.Active(z)
		same(t, name, z, was)
	}
}

// TestFromArgumentsAlone: the same zone is answered the same, whatever was
// asked ahead of it.
func TestFromArgumentsAlone(t *testing.T) {
	for name, z := range allZones(t) {
		first, e := zone.Append(z, []byte("xx"))
		crashed := zone.Crash(z, 1)
		zone.Append(empty(), []byte("yyzz"))
		zone.Crash(full(t), 2)
		again, f := zone.Append(z, []byte("xx"))
		if e != f {
			t.Errorf("%s: Append answers %d, then %d", name, e, f)
		}
		same(t, name+": Append", again, first)
		same(t, name+": Crash", zone.Crash(z, 1), crashed)
	}
}

// TestZonesMadeByHand: what such zones answer is open, but every call ends,
// and what it answers can be used.
func TestZonesMadeByHand(t *testing.T) {
	odd := []int{least, -2, -1, 0, 1, 2, 3, api.MaxCap + 1, greatest}
	for _, room := range odd {
		for _, block := range odd {
			for _, safe := range odd {
				for _, data := range []string{"", "a", "abc", "abcdef"} {
					callAll(t, zone.Zone{Cap: room, Block: block, Data: []byte(data), Safe: safe})
					callAll(t, zone.Zone{Cap: room, Block: block, Data: []byte(data), Safe: safe, Done: true})
				}
			}
		}
	}
	callAll(t, zone.Zone{})
}

// callAll makes all calls on a zone, and on what they answer.
func callAll(t *testing.T, z zone.Zone) {
	t.Helper()
	made := []zone.Zone{z, zone.Flush(z), zone.Finish(z), zone.Reset(z), zone.Crash(z, 1), zone.Crash(z, greatest)}
	for _, b := range []string{"", "x", "xy", "xyz"} {
		got, e := zone.Append(z, []byte(b))
		if e != api.OK && !none(got) {
			t.Errorf("Append of %q to %+v: a zone beside the error %d", b, z, e)
		}
		made = append(made, got)
	}
	for _, z := range made {
		look := zone.Look(z)
		if look.Wp > max(z.Cap, 1) || look.Safe < 0 || look.Safe > look.Wp {
			t.Errorf("Look of %+v: %+v", z, look)
		}
		zone.Active(z)
		zone.Crash(z, 2)
		for _, n := range []int{least, -1, 0, 1, greatest} {
			zone.Read(z, n, 1)
			zone.Read(z, 1, n)
		}
		if _, e := zone.Read(z, 0, look.Wp); e != api.OK {
			t.Errorf("Read of all of %+v: %d", z, e)
		}
	}
}

// TestGreatestZone: all blocks of all bytes that may be, with a block that is
// safe.
func TestGreatestZone(t *testing.T) {
	z := zone.New(api.MaxCap, api.MaxBlock)
	one := bytes.Repeat([]byte{7}, api.MaxBlock)
	z, _ = zone.Append(z, one)
	z = zone.Flush(z)
	z, e := zone.Append(z, make([]byte, (api.MaxCap-1)*api.MaxBlock))
	if e != api.OK || zone.Look(z) != (api.Look{Wp: api.MaxCap, Safe: 1}) || zone.Active(z) {
		t.Fatalf("all of it: %+v, %d", zone.Look(z), e)
	}
	refused(t, "a block more", z, one, api.ErrFull)
	crashed := zone.Crash(z, api.MaxCap-2)
	if zone.Look(crashed) != (api.Look{Wp: api.MaxCap - 1, Safe: api.MaxCap - 1}) || !zone.Active(crashed) {
		t.Errorf("all but one kept: %+v", zone.Look(crashed))
	}
	if got, e := zone.Read(zone.Crash(z, api.MaxCap), 0, 1); e != api.OK || !bytes.Equal(got, one) {
		t.Errorf("the safe block: %d bytes, %d", len(got), e)
	}
}
