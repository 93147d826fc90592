package scan_test

import (
	"bytes"
	"fmt"
	"slices"
	"testing"

	"revetment/api"
	"revetment/conf"
	"revetment/rec"
	"revetment/sample"
	"revetment/scan"
	"revetment/state"
)

// P12.2 and P12.3: records behind the checkpoint

// TestLogByHand: what is found, in numbers that are written out.
func TestLogByHand(t *testing.T) {
	r := sixTrail(t)
	f, e := scan.Log(r.laid, six(), 1)
	if e != api.OK || f.Count != 15 || f.Blocks*64 != len(r.laid) || f.State.Seq != 15 || f.State.Epoch != 1 {
		t.Errorf("error %d, %d records, %d blocks, Seq %d", int(e), f.Count, f.Blocks, f.State.Seq)
	}
	// 7 blocks of the checkpoint, 2 of a record without a Body, 4 of one with a
	// parity, 7 of one with 300 bytes.
	if f.Blocks != 7+10*2+4*4+7 {
		t.Errorf("%d blocks", f.Blocks)
	}
	want := []api.Zone{
		{Gen: 1, Slot: -1},
		{Gen: 1, Slot: -1},
		{Slot: -1},
		{Slot: -1},
		{Slot: -1, Full: true},
		{Slot: 7, Pars: []api.Par{{W: 90, B: row(sixBytes, 4)}}},
	}
	if !alike(f.State, api.State{Conf: six(), Epoch: 1, Seq: 15, Status: []int{0, 0, 0, 0}, Zones: want}) {
		t.Errorf("%+v", f.State)
	}
}

// TestLogOfWhatIsLaid: what First and Next lay is read, at each record.
func TestLogOfWhatIsLaid(t *testing.T) {
	for name, r := range trails(t) {
		b := scan.First(r.states[0], r.member)
		r.reads(t, name+", a checkpoint", b, 0)
		for i := 1; i <= r.last(); i++ {
			x := r.recs[i]
			x.Epoch, x.Seq = 0, 0
			b = append(b, scan.Next(r.states[i-1], x)...)
			r.reads(t, fmt.Sprint(name, ", ", i, " records"), b, i)
		}
		lays(t, name, b, r.laid)
	}
}

// TestLogOfStatesInBetween: a checkpoint of each state that a log went through
// stands for all up to there.
func TestLogOfStatesInBetween(t *testing.T) {
	for name, r := range trails(t) {
		for i, s := range r.states {
			_, behind := r.pieces(i)
			first := scan.First(s, 2)
			what := fmt.Sprint(name, ", from ", i, " on")
			reads(t, what, append(first, behind...), r.conf(), 2, api.Found{
				State:  r.states[r.last()],
				Count:  r.last() - i,
				Blocks: (len(first) + len(behind)) / r.conf().Block,
			})
		}
	}
}

// cut checks what is read of the first n bytes.
func (r *trail) cut(t *testing.T, what string, n int) {
	t.Helper()
	what = fmt.Sprint(what, ", ", n, " bytes of ", len(r.laid))
	if i := r.whole(n); i < 0 {
		refuses(t, what, r.laid[:n], r.conf(), r.member, api.ErrShort)
	} else {
		r.reads(t, what, r.laid[:n], i)
	}
}

// TestLogCutOff: at each byte, and so at each block, though all stands behind.
func TestLogCutOff(t *testing.T) {
	for name, r := range trails(t) {
		for n := range len(r.laid) + 1 {
			r.cut(t, name, n)
		}
	}
}

// agree is how many bytes both begin with.
func agree(a, b []byte) int {
	n := 0
	for n < min(len(a), len(b)) && a[n] == b[n] {
		n++
	}
	return n
}

// TestLogCutOffInBlocks: a beginning in whole blocks, with all kinds of bytes
// behind it where the log was. (Bytes 0 may be what stood there.)
func TestLogCutOffInBlocks(t *testing.T) {
	for name, r := range trails(t) {
		block := r.conf().Block
		for n := r.ends[0]; n <= len(r.laid); n += block {
			left := len(r.laid) - n
			for i, junk := range [][]byte{make([]byte, left), bytes.Repeat([]byte{0xff}, left), row(left, n), r.laid[:left]} {
				b := append(bytes.Clone(r.laid[:n]), junk...)
				r.reads(t, fmt.Sprint(name, ", ", n, " bytes, others ", i), b, r.whole(agree(b, r.laid)))
			}
		}
	}
}

// torn checks that a log is read up to record i, with that behind it, and with
// the records that followed behind that.
func (r *trail) torn(t *testing.T, what string, i int, with []byte) {
	t.Helper()
	if len(with) == 0 {
		t.Errorf("%s: nothing stands there", what)
	}
	ahead, behind := r.pieces(i)
	r.reads(t, fmt.Sprint(what, " behind record ", i), append(ahead, with...), i)
	r.reads(t, fmt.Sprint(what, " behind record ", i, ", and what followed"), slices.Concat(ahead, with, behind), i)
}

// TestLogWithOthersBetween: what does not follow ends it, though what follows
// stands behind.
func TestLogWithOthersBetween(t *testing.T) {
	for name, r := range trails(t) {
		c := r.conf()
		for i, s := range r.states {
			some := map[string][]byte{
				"a byte":          {0},
				"a block":         make([]byte, c.Block),
				"many blocks":     make([]byte, 20*c.Block),
				"any bytes":       row(5*c.Block, i),
				"its checkpoint":  scan.First(s, r.member),
				"another's":       scan.First(s, (r.member+1)%c.Members),
				"the first again": r.laid[:r.ends[0]],
				"an old one":      rec.Put(r.recs[i], c.Block),
				"half a record":   scan.Next(s, api.Rec{Kind: api.RecReset, Gen: s.Zones[0].Gen + 1})[:c.Block],
			}
			ahead := with(s, func(s *api.State) { s.Seq++ })
			some["a checkpoint that is next"] = scan.First(ahead, r.member)
			x := check(s, r.member)
			some["a checkpoint with the next Seq"] = scan.Next(s, x)
			for what, b := range some {
				r.torn(t, name+", "+what, i, b)
			}
		}
	}
}

// TestLogOfOtherEpochs: a record that follows but for its Epoch, or its Seq.
func TestLogOfOtherEpochs(t *testing.T) {
	for name, r := range trails(t) {
		for i := 1; i <= r.last(); i++ {
			was := r.recs[i]
			for _, n := range []int{0, was.Epoch - 1, was.Epoch + 1, was.Epoch + 2, top} {
				x := was
				x.Epoch = n
				r.torn(t, fmt.Sprint(name, ", Epoch ", n), i-1, rec.Put(x, r.conf().Block))
			}
			for _, n := range []int{0, was.Seq - 1, was.Seq + 1, was.Seq + 2, top} {
				x := was
				x.Seq = n
				r.torn(t, fmt.Sprint(name, ", Seq ", n), i-1, rec.Put(x, r.conf().Block))
			}
		}
	}
}

// TestLogWithoutARecord: one that lacks, one that is there twice, and two that
// are turned.
func TestLogWithoutARecord(t *testing.T) {
	for name, r := range trails(t) {
		for i := 1; i <= r.last(); i++ {
			ahead, _ := r.pieces(i - 1)
			one, behind := r.laid[r.ends[i-1]:r.ends[i]], r.laid[r.ends[i]:]
			r.reads(t, fmt.Sprint(name, ", without record ", i), slices.Concat(ahead, behind), i-1)
			r.reads(t, fmt.Sprint(name, ", record ", i, " twice"), slices.Concat(ahead, one, one, behind), i)
			if i < r.last() {
				other := r.laid[r.ends[i]:r.ends[i+1]]
				r.reads(t, fmt.Sprint(name, ", record ", i, " is turned"), slices.Concat(ahead, other, one), i-1)
			}
		}
	}
}

// TestLogOfChangedRecords: with one byte changed, at each place behind the
// checkpoint, all ahead of that record is read.
func TestLogOfChangedRecords(t *testing.T) {
	for name, r := range trails(t) {
		b := bytes.Clone(r.laid)
		for i := r.ends[0]; i < len(b); i++ {
			for _, by := range []byte{1, 0x80} {
				b[i] ^= by
				r.reads(t, fmt.Sprint(name, ", byte ", i, " by ", by), b, r.whole(i))
				b[i] ^= by
			}
		}
	}
}

// TestLogOfRecordsThatDoNotFollow: each has the next Epoch and Seq, and yet
// state does not take it.
func TestLogOfRecordsThatDoNotFollow(t *testing.T) {
	some := []api.Rec{
		{Kind: api.RecCheck},
		{Kind: api.RecMap, Zone: 6, Slot: 1},
		{Kind: api.RecMap, Zone: top, Slot: 1},
		{Kind: api.RecMap, Zone: 2, Slot: sixSlots},
		{Kind: api.RecMap, Zone: 2, Slot: -1},
		{Kind: api.RecMap, Zone: 2, Slot: 1, Gen: 1},
		{Kind: api.RecReset, Zone: 2, Gen: 2},
		{Kind: api.RecReset, Zone: 2},
		{Kind: api.RecFinish, Zone: 2, W: 1},
		{Kind: api.RecFinish, Zone: 5, W: sixSize + 1},
		{Kind: api.RecParity, Zone: 2, W: 1, Body: row(sixBytes, 1)},
		{Kind: api.RecParity, Zone: 5, W: 1, Body: row(sixBytes-1, 1)},
		{Kind: api.RecParity, Zone: 0, W: 1},
		{Kind: api.RecWhole, Zone: 2},
		{Kind: api.RecWhole, Zone: 6},
		{Kind: api.RecStatus, Member: 4, Status: 1},
		{Kind: api.RecStatus, Member: 3, Status: 3},
	}
	r := sixTrail(t)
	for i, s := range r.states {
		for j, x := range some {
			if _, e := state.Apply(s, next(s, x)); e != api.ErrForm {
				t.Errorf("record %d behind %d: error %d", j, i, int(e))
			}
			r.torn(t, fmt.Sprint("record ", j), i, scan.Next(s, x))
		}
	}
}

// TestLogOfOldRecords: blocks of a log that was there ahead stand behind the
// new one. Where a record of the old one is the next one of the new one, it
// follows; else it plays no part.
func TestLogOfOldRecords(t *testing.T) {
	for name, old := range trails(t) {
		block := old.conf().Block
		for i, s := range old.states {
			first := scan.First(s, old.member)
			raised := with(s, func(s *api.State) { s.Epoch++ })
			other := scan.First(raised, old.member)
			for j := range old.states {
				_, behind := old.pieces(j)
				what := fmt.Sprint(name, ", a checkpoint at ", i, ", records from ", j, " on")
				want := api.Found{State: s, Blocks: len(first) / block}
				if i == j {
					want = api.Found{State: old.states[old.last()], Count: old.last() - i, Blocks: (len(first) + len(behind)) / block}
				}
				reads(t, what, slices.Concat(first, behind), old.conf(), old.member, want)
				reads(t, what+", in another Epoch", slices.Concat(other, behind), old.conf(), old.member, api.Found{State: raised, Blocks: len(other) / block})
			}
			// Written over, block by block: the old log is torn at any of its blocks.
			for n := len(other); n < len(old.laid); n += block {
				b := append(bytes.Clone(other), old.laid[n:]...)
				reads(t, fmt.Sprint(name, ", written over up to ", n), b, old.conf(), old.member, api.Found{State: raised, Blocks: len(other) / block})
			}
		}
	}
}

// TestLogAtTheLastSeq: no more comes behind it.
func TestLogAtTheLastSeq(t *testing.T) {
	s := with(mixed(), func(s *api.State) { s.Seq = top - 2 })
	r := laidFrom(t, s, 3, api.Rec{Kind: api.RecWhole, Zone: 2}, api.Rec{Kind: api.RecStatus, Member: 2})
	r.reads(t, "up to the last", r.laid, 2)
	for _, seq := range []int{0, 1, top - 1, top} {
		x := api.Rec{Kind: api.RecStatus, Member: 2, Epoch: s.Epoch, Seq: seq}
		r.torn(t, fmt.Sprint("Seq ", seq, " behind the last"), 2, rec.Put(x, 64))
	}
	p := framed(numbers(api.RecStatus, s.Epoch, top+1, 0, 0, 0, 0, 2, 0, 0), 64)
	r.torn(t, "a Seq that may not be", 2, p)
}

// TestLogOfManyRecords: of so many as a zone never has.
func TestLogOfManyRecords(t *testing.T) {
	for _, c := range []api.Conf{six(), narrow()} {
		var l []api.Rec
		for i := range 3000 {
			l = append(l, api.Rec{Kind: api.RecReset, Zone: i % c.Zones, Gen: i/c.Zones + 1})
		}
		r := laidFrom(t, begun(c), 0, l...)
		r.reads(t, "all of them", r.laid, 3000)
		for _, n := range []int{0, 1, 1499, 2998, 2999} {
			r.torn(t, "zero blocks", n, make([]byte, 3*c.Block))
			r.cut(t, "a block wants", r.ends[n+1]-c.Block)
		}
	}
}

// TestLogOfGreatSettings: of the greatest blocks and parities.
func TestLogOfGreatSettings(t *testing.T) {
	c := sample.Great()
	var l []api.Rec
	for i := range 5 {
		l = append(l,
			api.Rec{Kind: api.RecMap, Zone: 59 - i, Slot: 60 - i},
			api.Rec{Kind: api.RecParity, Zone: 59 - i, W: conf.Size(c) - i, Body: row(64*4096, i)},
		)
	}
	r := laidFrom(t, begun(c), 15, l...)
	for i := range r.recs {
		r.cut(t, "the greatest", r.ends[i])
		r.cut(t, "the greatest, a byte less", r.ends[i]-1)
		r.cut(t, "the greatest, a block less", r.ends[i]-c.Block)
	}
	r.torn(t, "zero blocks", 7, make([]byte, c.Block))
}

// proposed is a record that may follow s, or lacks not much of it.
func proposed(d *dice, s api.State) api.Rec {
	c := s.Conf
	x := next(s, api.Rec{
		Kind:   d.of(1, 1, 2, 3, 4, 4, 5, 6, 6),
		Zone:   d.below(len(s.Zones)),
		W:      d.below(conf.Size(c) + 1),
		Member: d.below(len(s.Status)),
		Status: d.below(3),
		Body:   row(c.Unit*c.Block, d.below(1000)),
	})
	if free := state.Free(s); x.Kind == api.RecMap {
		x.Slot = free[d.below(len(free))]
	}
	if m, _, odd := state.Odd(s); odd {
		x.Member = m
	}
	x.Gen = s.Zones[x.Zone].Gen
	if x.Kind == api.RecReset {
		x.Gen++
	}
	switch d.below(60) {
	case 0:
		x.Kind = api.RecCheck
	case 1:
		x.Epoch += d.of(-1, 1)
	case 2:
		x.Seq = max(0, x.Seq+d.of(-1, 1))
	case 3:
		x.Gen++
	}
	return x
}

// TestLogOfLongRows: records are laid, whether they follow or not; what is read
// is all up to the first that does not, and of each beginning no more than it
// has.
func TestLogOfLongRows(t *testing.T) {
	var counts [2]int
	for seed := range 400 {
		d := dice(seed)
		c := []api.Conf{six(), narrow(), conf.Plain()}[seed%3]
		r := laidFrom(t, begun(c), seed%3)
		follows := true
		for range 40 {
			s := r.states[r.last()]
			x := proposed(&d, s)
			u, e := state.Apply(s, x)
			if e != api.OK && d.below(8) > 0 {
				continue // a row that ends early tells little
			}
			if follows = follows && e == api.OK; follows {
				r.lay(x, u)
			} else {
				r.laid = append(r.laid, rec.Put(x, c.Block)...)
			}
		}
		what := fmt.Sprint("row ", seed)
		r.reads(t, what, r.laid, r.last())
		for range 10 {
			n := d.below(len(r.laid)/c.Block+1) * c.Block
			r.cut(t, what, n)
			r.cut(t, what, d.below(len(r.laid)+1))
		}
		counts[min(1, r.last()/10)]++
	}
	if slices.Min(counts[:]) < 40 {
		t.Errorf("%d rows are short, and long", counts)
	}
}
