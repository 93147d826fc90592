package scan_test

import (
	"bytes"
	"encoding/binary"
	"fmt"
	"hash/crc32"
	"math"
	"reflect"
	"testing"

	"revetment/api"
	"revetment/conf"
	"revetment/rec"
	"revetment/sample"
	"revetment/scan"
	"revetment/state"
)

const (
	least    = math.MinInt
	greatest = math.MaxInt
	top      = 1 << 40 // the greatest Epoch, Seq and Gen
)

// What follows of the settings six.
const (
	sixSize  = 90
	sixSlots = 8
	sixBytes = 128 // of a parity
)

// six is settings of four members with six logical zones.
func six() api.Conf { return sample.Listed(9, 4, 2, 64, 30, 6, 2, 3, 2, 4, 9) }

// narrow is settings of three members, with blocks that no record fills.
func narrow() api.Conf { return sample.Listed(0, 3, 1, 40, 18, 2, 1, 3, 1, 1, 5) }

// row is n bytes that a fixed rule chooses by seed.
func row(n, seed int) []byte {
	b := make([]byte, n)
	x := uint32(seed)*2654435761 + 1
	for i := range b {
		x = x*1664525 + 1013904223
		b[i] = byte(x >> 24)
	}
	return b
}

// dice throws by a fixed rule.
type dice uint64

// below is a number from 0 to n less 1.
func (d *dice) below(n int) int {
	*d = *d*6364136223846793005 + 1442695040888963407
	return int(uint64(*d) >> 33 % uint64(n))
}

// of is one of some numbers.
func (d *dice) of(some ...int) int { return some[d.below(len(some))] }

// par is a parity of the settings six.
func par(w, seed int) api.Par { return api.Par{W: w, B: row(sixBytes, seed)} }

// mixed is a right state with zones of unlike kinds, of which one member is
// rebuilt. The slots 1, 3, 4 and 6 are free.
func mixed() api.State {
	return api.State{
		Conf:   six(),
		Epoch:  0x0102030405,
		Seq:    6,
		Status: []int{0, 0, api.MemRebuild, 0},
		Zones: []api.Zone{
			{Gen: 3, Slot: -1},
			{Gen: top, Slot: 5, Whole: true, Pars: []api.Par{par(7, 1), par(sixSize, 2)}},
			{Gen: 7, Slot: 0, Full: true, W: sixSize, Pars: []api.Par{par(1, 3)}},
			{Gen: 1, Slot: -1, Full: true},
			{Gen: 0, Slot: sixSlots - 1, Whole: true},
			{Gen: 0, Slot: 2, Full: true, Whole: true},
		},
	}
}

// begun is the state at the beginning.
func begun(c api.Conf) api.State {
	s, e := state.New(c)
	if e != api.OK {
		panic("no state of these settings")
	}
	return s
}

// rights are right states of many kinds, none of them of many bytes.
func rights() []api.State {
	l := []api.State{mixed(), begun(six()), begun(narrow())}
	for _, c := range sample.Good() {
		l = append(l, begun(c))
	}
	return l
}

// twin is s in memory of its own, with nil for empty lists.
func twin(s api.State) api.State {
	s.Status = append([]int(nil), s.Status...)
	s.Zones = append([]api.Zone(nil), s.Zones...)
	for i := range s.Zones {
		z := &s.Zones[i]
		z.Pars = append([]api.Par(nil), z.Pars...)
		for j := range z.Pars {
			z.Pars[j].B = append([]byte(nil), z.Pars[j].B...)
		}
	}
	return s
}

// with is s with a change, in memory of its own.
func with(s api.State, change func(s *api.State)) api.State {
	s = twin(s)
	change(&s)
	return s
}

// alike is whether two states hold the same, nil and empty lists being alike.
func alike(a, b api.State) bool { return reflect.DeepEqual(twin(a), twin(b)) }

// numbers are n as they are laid.
func numbers(n ...int) []byte {
	var b []byte
	for _, x := range n {
		b = binary.LittleEndian.AppendUint64(b, uint64(x))
	}
	return b
}

// framed is a payload, of whatever, as a record's blocks.
func framed(p []byte, block int) []byte {
	sum := crc32.Checksum(p, crc32.MakeTable(crc32.Castagnoli))
	b := append(numbers(len(p), int(sum)), p...)
	for len(b)%block != 0 {
		b = append(b, 0)
	}
	return b
}

// check is the checkpoint of s, as a record.
func check(s api.State, member int) api.Rec {
	return api.Rec{Kind: api.RecCheck, Epoch: s.Epoch, Seq: s.Seq, Member: member, Body: state.Put(s)}
}

// next is x as the record behind s.
func next(s api.State, x api.Rec) api.Rec {
	x.Epoch, x.Seq = s.Epoch, s.Seq+1
	return x
}

// trail is a log that is laid record by record, and what it says behind each of
// them, the checkpoint ahead.
type trail struct {
	member int
	laid   []byte
	recs   []api.Rec
	ends   []int
	states []api.State
}

// laidFrom is a log with a checkpoint of s, and records behind it, which follow.
func laidFrom(t *testing.T, s api.State, member int, l ...api.Rec) *trail {
	t.Helper()
	r := &trail{member: member}
	r.lay(check(s, member), s)
	for i, x := range l {
		x = next(s, x)
		u, e := state.Apply(s, x)
		if e != api.OK {
			t.Fatalf("record %d of the trail, kind %d: error %d", i, x.Kind, int(e))
		}
		s = u
		r.lay(x, s)
	}
	return r
}

func (r *trail) lay(x api.Rec, s api.State) {
	r.laid = append(r.laid, rec.Put(x, s.Conf.Block)...)
	r.recs = append(r.recs, x)
	r.ends = append(r.ends, len(r.laid))
	r.states = append(r.states, s)
}

// last is the number of the last record.
func (r *trail) last() int { return len(r.recs) - 1 }

func (r *trail) conf() api.Conf { return r.states[0].Conf }

// upTo is what is found, if record i is the last that follows.
func (r *trail) upTo(i int) api.Found {
	return api.Found{State: r.states[i], Count: i, Blocks: r.ends[i] / r.conf().Block}
}

// whole is which record is the last one that n bytes hold whole; -1: none is.
func (r *trail) whole(n int) int {
	i := 0
	for i < len(r.ends) && r.ends[i] <= n {
		i++
	}
	return i - 1
}

// pieces are the bytes up to the end of record i, and what is behind, in memory
// of their own.
func (r *trail) pieces(i int) (ahead, behind []byte) {
	return bytes.Clone(r.laid[:r.ends[i]]), bytes.Clone(r.laid[r.ends[i]:])
}

// reads checks that b says what is wanted, and stays as it was.
func (r *trail) reads(t *testing.T, what string, b []byte, last int) {
	t.Helper()
	reads(t, what, b, r.conf(), r.member, r.upTo(last))
}

func reads(t *testing.T, what string, b []byte, c api.Conf, member int, want api.Found) {
	t.Helper()
	was := bytes.Clone(b[:cap(b)])
	f, e := scan.Log(b, c, member)
	if e != api.OK || f.Count != want.Count || f.Blocks != want.Blocks {
		t.Errorf("%s: error %d, %d records, %d blocks; want %d records, %d blocks", what, int(e), f.Count, f.Blocks, want.Count, want.Blocks)
	}
	if !alike(f.State, want.State) {
		t.Errorf("%s: another state, of Seq %d, want of Seq %d", what, f.State.Seq, want.State.Seq)
	}
	if !bytes.Equal(b[:cap(b)], was) {
		t.Errorf("%s: what was handed in is another one", what)
	}
}

// refuses checks that b is answered with that error, and nothing beside it.
func refuses(t *testing.T, what string, b []byte, c api.Conf, member int, want api.Errno) {
	t.Helper()
	was := bytes.Clone(b[:cap(b)])
	f, e := scan.Log(b, c, member)
	if e != want {
		t.Errorf("%s: error %d, want %d", what, int(e), int(want))
	}
	if f.Count != 0 || f.Blocks != 0 || !alike(f.State, api.State{}) {
		t.Errorf("%s: beside an error there is %d, %d, and a state of Seq %d", what, f.Count, f.Blocks, f.State.Seq)
	}
	if !bytes.Equal(b[:cap(b)], was) {
		t.Errorf("%s: what was handed in is another one", what)
	}
}

// lays checks bytes that were answered.
func lays(t *testing.T, what string, got, want []byte) {
	t.Helper()
	if !bytes.Equal(got, want) {
		t.Errorf("%s: %d bytes that are not the %d", what, len(got), len(want))
	}
}

// allKinds are records of each kind, some more than once, that follow the
// beginning of six one behind the other.
func allKinds() []api.Rec {
	return []api.Rec{
		{Kind: api.RecMap, Zone: 0, Slot: 3},
		{Kind: api.RecParity, Zone: 0, W: 4, Body: row(sixBytes, 1)},
		{Kind: api.RecParity, Zone: 0, W: 9, Body: row(sixBytes, 2)},
		{Kind: api.RecParity, Zone: 0, W: 9, Body: make([]byte, sixBytes)},
		{Kind: api.RecMap, Zone: 1, Slot: 0, Body: row(300, 3)},
		{Kind: api.RecFinish, Zone: 1, W: 20},
		{Kind: api.RecStatus, Member: 2, Status: api.MemLost},
		{Kind: api.RecStatus, Member: 2, Status: api.MemRebuild},
		{Kind: api.RecMap, Zone: 5, Slot: sixSlots - 1},
		{Kind: api.RecWhole, Zone: 0},
		{Kind: api.RecReset, Zone: 1, Gen: 1},
		{Kind: api.RecFinish, Zone: 4},
		{Kind: api.RecParity, Zone: 5, W: sixSize, Body: row(sixBytes, 4)},
		{Kind: api.RecStatus, Member: 2, Status: api.MemWhole},
		{Kind: api.RecReset, Zone: 0, Gen: 1},
	}
}

// sixTrail is a log of six with records of each kind.
func sixTrail(t *testing.T) *trail {
	t.Helper()
	return laidFrom(t, begun(six()), 1, allKinds()...)
}

// narrowTrail is a log of narrow.
func narrowTrail(t *testing.T) *trail {
	t.Helper()
	return laidFrom(t, begun(narrow()), 2,
		api.Rec{Kind: api.RecMap, Zone: 1, Slot: 2},
		api.Rec{Kind: api.RecParity, Zone: 1, W: 3, Body: row(40, 1)},
		api.Rec{Kind: api.RecStatus, Member: 0, Status: 1},
		api.Rec{Kind: api.RecReset, Zone: 1, Gen: 1},
		api.Rec{Kind: api.RecMap, Zone: 0, Slot: 2},
	)
}

// mixedTrail is a log whose checkpoint has a state in the middle of all.
func mixedTrail(t *testing.T) *trail {
	t.Helper()
	return laidFrom(t, mixed(), 0,
		api.Rec{Kind: api.RecWhole, Zone: 2},
		api.Rec{Kind: api.RecMap, Zone: 0, Gen: 3, Slot: 4},
		api.Rec{Kind: api.RecParity, Zone: 1, Gen: top, W: 8, Body: row(sixBytes, 6)},
		api.Rec{Kind: api.RecStatus, Member: 2},
		api.Rec{Kind: api.RecFinish, Zone: 0, W: 1},
	)
}

// trails are all of them, by their names.
func trails(t *testing.T) map[string]*trail {
	t.Helper()
	return map[string]*trail{"six": sixTrail(t), "narrow": narrowTrail(t), "mixed": mixedTrail(t)}
}

// wrong is a state that is not right, in one way.
type wrong struct {
	what string
	s    api.State
}

// wrongs are states that are not right, each in one part.
func wrongs() []wrong {
	var l []wrong
	add := func(what string, change func(s *api.State)) {
		l = append(l, wrong{what, with(mixed(), change)})
	}
	for _, n := range []int{least, 0, top + 1, greatest} {
		add(fmt.Sprint("Epoch ", n), func(s *api.State) { s.Epoch = n })
	}
	for _, n := range []int{least, -1, top + 1, greatest} {
		add(fmt.Sprint("Seq ", n), func(s *api.State) { s.Seq = n })
		add(fmt.Sprint("Gen ", n), func(s *api.State) { s.Zones[5].Gen = n })
	}
	for _, n := range []int{least, -2, 0, sixSlots, greatest} {
		add(fmt.Sprint("Slot ", n), func(s *api.State) { s.Zones[4].Slot = n })
	}
	for _, n := range []int{least, -1, sixSize + 1, greatest} {
		add(fmt.Sprint("W ", n), func(s *api.State) { s.Zones[2].W = n })
		add(fmt.Sprint("a Par's W ", n), func(s *api.State) { s.Zones[1].Pars[1].W = n })
	}
	for _, n := range []int{least, -1, 3, greatest} {
		add(fmt.Sprint("Status ", n), func(s *api.State) { s.Status[3] = n })
	}
	add("no member is rebuilt", func(s *api.State) { s.Status[2] = 1 })
	add("two members", func(s *api.State) { s.Status[3] = 1 })
	add("less Status", func(s *api.State) { s.Status = s.Status[:3] })
	add("more Status", func(s *api.State) { s.Status = append(s.Status, 0) })
	add("no Status", func(s *api.State) { s.Status = nil })
	add("less zones", func(s *api.State) { s.Zones = s.Zones[:5] })
	add("more zones", func(s *api.State) { s.Zones = append(s.Zones, api.Zone{Slot: -1}) })
	add("no zones", func(s *api.State) { s.Zones = nil })
	add("W, not Full", func(s *api.State) { s.Zones[1].W = 1 })
	add("W without a slot", func(s *api.State) { s.Zones[3].W = 1 })
	add("Whole without a slot", func(s *api.State) { s.Zones[0].Whole = true })
	add("Pars without a slot", func(s *api.State) { s.Zones[0].Pars = []api.Par{par(1, 1)} })
	add("three Pars", func(s *api.State) { s.Zones[1].Pars = append(s.Zones[1].Pars, par(1, 1)) })
	add("less bytes of a Par", func(s *api.State) { s.Zones[2].Pars[0].B = row(sixBytes-1, 1) })
	add("more bytes of a Par", func(s *api.State) { s.Zones[2].Pars[0].B = row(sixBytes+1, 1) })
	for _, c := range sample.Refused() {
		l = append(l, wrong{fmt.Sprintf("%+v", c), with(mixed(), func(s *api.State) { s.Conf = c })})
		l = append(l, wrong{fmt.Sprintf("%+v, fitted", c), fitted(c)})
	}
	return append(l, wrong{"nothing", api.State{}}, wrong{"other settings", with(mixed(), func(s *api.State) { s.Conf = conf.Plain() })})
}

// fitted is a state that is right but for its settings.
func fitted(c api.Conf) api.State {
	s := api.State{Conf: c, Epoch: 1}
	for range min(c.Members, 100) {
		s.Status = append(s.Status, 0)
	}
	for range min(c.Zones, 100) {
		s.Zones = append(s.Zones, api.Zone{Slot: -1})
	}
	return s
}
