package state_test

import (
	"bytes"
	"fmt"
	"slices"
	"testing"

	"revetment/api"
	"revetment/conf"
	"revetment/sample"
	"revetment/state"
)

// P11.3: Put and Get

// gets checks that Get tells the state s.
func gets(t *testing.T, what string, b []byte, s api.State) {
	t.Helper()
	u, e := state.Get(b)
	if e != api.OK {
		t.Errorf("%s: Get tells error %d", what, int(e))
	}
	same(t, what, u, s)
}

// denies checks that Get tells one of these errors, and nothing beside it.
func denies(t *testing.T, what string, b []byte, want ...api.Errno) {
	t.Helper()
	u, e := state.Get(b)
	if !slices.Contains(want, e) {
		t.Errorf("%s: Get tells error %d, want %d", what, int(e), want)
	}
	same(t, what+": beside an error", u, api.State{})
}

// TestPutByHand: bytes that are written out.
func TestPutByHand(t *testing.T) {
	s := api.State{
		Conf:   sample.Listed(0, 3, 1, 40, 18, 2, 1, 3, 1, 1, 5),
		Epoch:  258,
		Seq:    3,
		Status: []int{0, 2, 0},
		Zones:  []api.Zone{{Gen: 5, Slot: -1, Full: true}, {Gen: 1 << 33, Slot: 2, Whole: true, Pars: []api.Par{{W: 36, B: bytes.Repeat([]byte{9}, 40)}}}},
	}
	want := slices.Concat(
		[]byte{0, 0, 0, 0, 0, 0, 0, 0},
		[]byte{3, 0, 0, 0, 0, 0, 0, 0},
		[]byte{1, 0, 0, 0, 0, 0, 0, 0},
		[]byte{40, 0, 0, 0, 0, 0, 0, 0},
		[]byte{18, 0, 0, 0, 0, 0, 0, 0},
		[]byte{2, 0, 0, 0, 0, 0, 0, 0},
		[]byte{1, 0, 0, 0, 0, 0, 0, 0},
		[]byte{3, 0, 0, 0, 0, 0, 0, 0},
		[]byte{1, 0, 0, 0, 0, 0, 0, 0},
		[]byte{1, 0, 0, 0, 0, 0, 0, 0},
		[]byte{5, 0, 0, 0, 0, 0, 0, 0},
		[]byte{2, 1, 0, 0, 0, 0, 0, 0},
		[]byte{3, 0, 0, 0, 0, 0, 0, 0},
		[]byte{0, 0, 0, 0, 0, 0, 0, 0},
		[]byte{2, 0, 0, 0, 0, 0, 0, 0},
		[]byte{0, 0, 0, 0, 0, 0, 0, 0},
		[]byte{5, 0, 0, 0, 0, 0, 0, 0},
		[]byte{255, 255, 255, 255, 255, 255, 255, 255},
		[]byte{1},
		[]byte{0, 0, 0, 0, 0, 0, 0, 0},
		[]byte{0},
		[]byte{0, 0, 0, 0, 0, 0, 0, 0},
		[]byte{0, 0, 0, 0, 2, 0, 0, 0},
		[]byte{2, 0, 0, 0, 0, 0, 0, 0},
		[]byte{0},
		[]byte{0, 0, 0, 0, 0, 0, 0, 0},
		[]byte{1},
		[]byte{1, 0, 0, 0, 0, 0, 0, 0},
		[]byte{36, 0, 0, 0, 0, 0, 0, 0},
		[]byte{40, 0, 0, 0, 0, 0, 0, 0},
		bytes.Repeat([]byte{9}, 40),
	)
	right(t, "by hand", s, true)
	if b := state.Put(s); !bytes.Equal(b, want) {
		t.Errorf("Put lays\n%d, want\n%d", b, want)
	}
	gets(t, "by hand", want, s)
}

// puts checks Put and Get of a right state, against the document's words.
func puts(t *testing.T, what string, s api.State) {
	t.Helper()
	b := laid(s)
	if got := state.Put(s); !bytes.Equal(got, b) {
		t.Errorf("%s: Put lays %d bytes that are others than the %d", what, len(got), len(b))
	}
	gets(t, what, b, s)
}

func TestPutLays(t *testing.T) {
	for i, s := range rights() {
		puts(t, fmt.Sprint("state ", i), s)
	}
	for _, n := range []int{1, 2, 255, 256, top - 1, top} {
		puts(t, fmt.Sprint("Epoch and Seq ", n), with(mixed(), func(s *api.State) { s.Epoch, s.Seq = n, n-1 }))
		puts(t, fmt.Sprint("Seq ", n), with(mixed(), func(s *api.State) { s.Seq = n }))
	}
	for i := range 6 {
		for slot := -1; slot < sixSlots; slot++ {
			puts(t, fmt.Sprint("slot ", slot, " of zone ", i), zoned(begun(six()), i, func(z *api.Zone) { z.Gen, z.Slot = slot+1, slot }))
		}
	}
	for m := range 4 {
		for n := range 3 {
			puts(t, fmt.Sprint("Status ", n, " of member ", m), with(calm(), func(s *api.State) { s.Status[m] = n }))
		}
	}
}

// TestPutOfMuddles: of states of which many parts are changed, those that are
// right are put and got, and of all others nothing is put.
func TestPutOfMuddles(t *testing.T) {
	d := dice(5)
	for i := range 5000 {
		s := twin([]api.State{mixed(), calm(), lost(), begun(six())}[d.below(4)])
		muddle(&d, &s)
		if may(s) {
			puts(t, fmt.Sprint("muddle ", i), s)
			continue
		}
		if b := state.Put(s); len(b) != 0 {
			t.Errorf("muddle %d: Put lays %d bytes of what is not right", i, len(b))
		}
		denies(t, fmt.Sprint("muddle ", i), laid(s), api.ErrForm)
	}
}

// TestPutOfTheGreatest: of so many bytes as may be.
func TestPutOfTheGreatest(t *testing.T) {
	puts(t, "the greatest", utmost(sample.Great()))
	puts(t, "the greatest at the beginning", begun(sample.Great()))
}

func TestPutOfWrong(t *testing.T) {
	for _, w := range wrongs() {
		if b := state.Put(w.s); len(b) != 0 {
			t.Errorf("%s: Put lays %d bytes", w.what, len(b))
		}
	}
	if b := state.Put(api.State{}); len(b) != 0 {
		t.Errorf("nothing: Put lays %d bytes", len(b))
	}
	for _, c := range sample.Refused() {
		if b := state.Put(api.State{Conf: c, Epoch: 1}); len(b) != 0 {
			t.Errorf("%+v: Put lays %d bytes", c, len(b))
		}
	}
}

func TestGetOfNothing(t *testing.T) {
	denies(t, "nil", nil, api.ErrShort)
	denies(t, "no bytes", []byte{}, api.ErrShort)
	denies(t, "a byte", []byte{7}, api.ErrShort)
	denies(t, "settings alone", conf.Put(six()), api.ErrShort)
	denies(t, "bytes 0", make([]byte, 1000), api.ErrForm)
	denies(t, "bytes ff", bytes.Repeat([]byte{0xff}, 1000), api.ErrForm)
}

// TestGetOfLess: any number of bytes is wanting, though they stand behind.
func TestGetOfLess(t *testing.T) {
	for i, s := range []api.State{mixed(), lost(), begun(conf.Plain()), utmost(conf.Plain()), begun(sample.Small())} {
		b := laid(s)
		for n := range len(b) {
			denies(t, fmt.Sprint("state ", i, ", ", n, " bytes of ", len(b)), b[:n], api.ErrShort)
		}
	}
}

func TestGetOfMore(t *testing.T) {
	for i, s := range rights() {
		b := laid(s)
		for _, more := range [][]byte{{0}, {1}, {0xff}, make([]byte, 7), make([]byte, 8), make([]byte, 2000), b} {
			denies(t, fmt.Sprint("state ", i, ", and ", len(more), " bytes"), slices.Concat(b, more), api.ErrForm)
		}
	}
}

// spot is a number, or a flag, among bytes: values that no right state has
// there.
type spot struct {
	what  string
	at    int
	flag  bool
	never []int
}

// spots are all numbers and flags of what is laid of mixed.
func spots() []spot {
	var l []spot
	at := 0
	number := func(what string, never ...int) {
		l = append(l, spot{what, at, false, append(never, least, greatest)})
		at += 8
	}
	flag := func(what string) {
		l = append(l, spot{what, at, true, []int{2, 3, 0x80, 0x81, 0xfe, 0xff}})
		at++
	}
	number("ID", -1, top+1)
	number("Members", -1, 0, 1, 2, 17, 1<<20, 1<<40, 1<<62)
	number("Unit", -1, 0, 4, 65, 1<<40)
	number("Block", -1, 0, 1, 4097, 1<<40)
	number("Cap", -1, 0, 2, 24, 31, 4098, 1<<40)
	number("Zones", -1, 0, 3, 60, 1<<20, 1<<40, 1<<62)
	number("Spare", -1, 0, 5, 1<<40)
	number("Meta", -1, 0, 2, 5, 1<<40)
	number("Open", -1, 0, 5, 1<<40)
	number("Active", -1, 0, 1, 7, 1<<40)
	number("Limit", -1, 0, 8, 65, 1<<40)
	number("Epoch", -1, 0, top+1)
	number("Seq", -1, top+1)
	for m := range 4 {
		number(fmt.Sprint("Status of ", m), -1, 3, 4, 1<<32)
	}
	for i, z := range mixed().Zones {
		name := fmt.Sprint(" of zone ", i)
		number("Gen"+name, -1, top+1)
		number("Slot"+name, -2, 8, 9, 1<<32)
		flag("Full" + name)
		number("W"+name, -1, sixSize+1, 1<<32)
		flag("Whole" + name)
		number("how many Pars"+name, -1, 3, 4, 1<<40)
		for range z.Pars {
			number("Par's W"+name, -1, 0, sixSize+1, 1<<32)
			number("how long B is"+name, -1, sixBytes+1, api.MaxText, api.MaxText+1, 1<<40)
			at += sixBytes
		}
	}
	return l
}

// set is b with another number, or flag, at that spot.
func (p spot) set(b []byte, n int) []byte {
	b = bytes.Clone(b)
	if p.flag {
		b[p.at] = byte(n)
	} else {
		copy(b[p.at:], number(n))
	}
	return b
}

// TestGetOfEachSpot: each number and flag at what no right state has there,
// and at what mixed has.
func TestGetOfEachSpot(t *testing.T) {
	was := laid(mixed())
	all := spots()
	last := all[len(all)-1]
	if len(all) != 11+2+4+6*6+2*3 || last.at+8 != len(was) {
		t.Errorf("%d spots, the last one at %d of %d bytes", len(all), last.at, len(was))
	}
	for _, p := range all {
		for _, n := range p.never {
			denies(t, fmt.Sprint(p.what, " ", n), p.set(was, n), api.ErrForm)
		}
	}
	gets(t, "as it was", was, mixed())
}

// TestGetOfFlags: of a byte, all values but two are refused.
func TestGetOfFlags(t *testing.T) {
	was := laid(begun(six()))
	at := 8 * (11 + 2 + 4 + 2)
	for n := range 256 {
		b := bytes.Clone(was)
		b[at] = byte(n)
		if n < 2 {
			gets(t, fmt.Sprint("Full ", n), b, zoned(begun(six()), 0, func(z *api.Zone) { z.Full = n == 1 }))
		} else {
			denies(t, fmt.Sprint("Full ", n), b, api.ErrForm)
		}
	}
	s := zoned(mixed(), 2, func(z *api.Zone) { z.Whole = false })
	for _, is := range []bool{false, true} {
		gets(t, fmt.Sprint("Whole ", is), laid(zoned(s, 2, func(z *api.Zone) { z.Whole = is })), zoned(s, 2, func(z *api.Zone) { z.Whole = is }))
	}
}

// TestGetOfWrongStates: their bytes are laid as those of right ones.
func TestGetOfWrongStates(t *testing.T) {
	for _, w := range wrongs() {
		if w.torn {
			denies(t, w.what, laid(w.s), api.ErrForm, api.ErrShort)
		} else {
			denies(t, w.what, laid(w.s), api.ErrForm)
		}
	}
	for _, c := range sample.Refused() {
		s := api.State{Conf: c, Epoch: 1}
		for range min(c.Members, 100) {
			s.Status = append(s.Status, 0)
		}
		for range min(c.Zones, 100) {
			s.Zones = append(s.Zones, api.Zone{Slot: -1})
		}
		denies(t, sprint(c), laid(s), api.ErrForm)
	}
	less := with(calm(), func(s *api.State) { s.Zones = s.Zones[:5] })
	denies(t, "a zone less", laid(less), api.ErrShort)
	more := with(calm(), func(s *api.State) { s.Zones = append(s.Zones, api.Zone{Slot: 1}) })
	denies(t, "a zone more", laid(more), api.ErrForm)
}

// together are states of which no number alone tells that they are not right,
// nor a length.
func together() map[string]api.State {
	return map[string]api.State{
		"two members": with(calm(), func(s *api.State) { s.Status[0], s.Status[3] = 1, 2 }),
		"two zones":   zoned(mixed(), 0, func(z *api.Zone) { z.Slot = 5 }),
		"W":           zoned(mixed(), 4, func(z *api.Zone) { z.W = 1 }),
		"no slot, W":  zoned(mixed(), 3, func(z *api.Zone) { z.W = 1 }),
		"Whole":       zoned(lost(), 1, func(z *api.Zone) { z.Whole = true }),
		"no slot":     zoned(mixed(), 0, func(z *api.Zone) { z.Whole = true }),
		"Pars":        zoned(mixed(), 0, func(z *api.Zone) { z.Pars = []api.Par{par(1, 1)} }),
		"B":           zoned(mixed(), 1, func(z *api.Zone) { z.Pars[0].B = z.Pars[0].B[1:] }),
	}
}

// TestGetTellsPacksErrorFirst: bytes are wanting, and what there is is not
// right.
func TestGetTellsPacksErrorFirst(t *testing.T) {
	for what, s := range together() {
		right(t, what, s, false)
		b := laid(s)
		for n := range len(b) {
			denies(t, fmt.Sprint(what, ", ", n, " bytes of ", len(b)), b[:n], api.ErrShort)
		}
		denies(t, what, b, api.ErrForm)
		denies(t, what+", and a byte behind", append(b, 0), api.ErrForm)
	}
}

// TestGetTellsPacksFirstError: a flag that is none is told ahead of what is
// wanting behind it, and what is wanting up to there ahead of it.
func TestGetTellsPacksFirstError(t *testing.T) {
	was := laid(mixed())
	for _, p := range spots() {
		if !p.flag {
			continue
		}
		b := p.set(was, 2)
		for n := range len(b) {
			want := api.ErrForm
			if n <= p.at {
				want = api.ErrShort
			}
			denies(t, fmt.Sprint(p.what, ", ", n, " bytes"), b[:n], want)
		}
	}
	far := number(1<<62 + 1)
	denies(t, "a number of the settings is too far, and all behind is wanting", far, api.ErrForm)
	denies(t, "a number of the settings is too far, and a byte of it is wanting", far[:7], api.ErrShort)
}

// TestGetOfTwoFaults: where a number is refused, and bytes behind are wanting,
// it is one of these errors, whatever else.
func TestGetOfTwoFaults(t *testing.T) {
	was := laid(mixed())
	for _, p := range spots() {
		for _, n := range p.never {
			b := p.set(was, n)
			denies(t, p.what+", and a byte behind", append(b, 0), api.ErrForm)
			for less := p.at; less < len(b); less += 97 {
				denies(t, fmt.Sprint(p.what, ", less"), b[:less], api.ErrForm, api.ErrShort)
			}
		}
	}
}

// TestGetOfAnyBytes: of bytes of which some are changed, Get tells an error, or
// a right state of which they are what is put.
func TestGetOfAnyBytes(t *testing.T) {
	d := dice(77)
	got := 0
	for i := range 30000 {
		b := laid([]api.State{mixed(), calm(), begun(conf.Plain())}[d.below(3)])
		for range 1 + d.below(3) {
			b[d.below(len(b))] ^= byte(d.of(1, 2, 4, 8, 0x80, 0xff))
		}
		b = b[:len(b)-d.of(0, 0, 0, 0, 1, 8, 100)]
		s, e := state.Get(b)
		switch {
		case e == api.OK && may(s) && bytes.Equal(laid(s), b):
			got++
		case e == api.OK:
			t.Fatalf("bytes %d: no right state, or another one: %s", i, short(s))
		default:
			denies(t, fmt.Sprint("bytes ", i), b, api.ErrForm, api.ErrShort)
		}
	}
	if got < 1000 {
		t.Errorf("%d were got", got)
	}
}

// P11.5

func TestPutIsGot(t *testing.T) {
	for i, s := range rights() {
		u, e := state.Get(state.Put(s))
		if e != api.OK || !state.Same(u, s) || !bytes.Equal(state.Put(u), state.Put(s)) {
			t.Errorf("state %d: error %d", i, int(e))
		}
		same(t, fmt.Sprint("state ", i), u, s)
	}
}
