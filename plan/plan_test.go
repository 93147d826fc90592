package plan_test

import (
	"cmp"
	"fmt"
	"math"
	"math/rand"
	"slices"
	"testing"

	"revetment/api"
	"revetment/conf"
	"revetment/geom"
	"revetment/plan"
	"revetment/sample"
)

const (
	least    = math.MinInt
	greatest = math.MaxInt
)

// block is a step of one logical block.
func block(m, phys, lb int) api.Step { return api.Step{Member: m, Phys: phys, LB: lb, N: 1} }

// parity is a step of a stripe's parity, of n blocks.
func parity(m, phys, lb, n int) api.Step {
	return api.Step{Parity: true, Member: m, Phys: phys, LB: lb, N: n}
}

// zone is a zone that is written from its beginning on, as the document's words
// say it, with no division: units go from member to member, and the parity a
// member further with each stripe.
type zone struct {
	c      api.Conf
	places []api.Place // by logical block
	steps  []api.Step  // of all of it
	upTo   []int       // by how many logical blocks are written, how many steps
}

func next(m, members int) int {
	if m+1 == members {
		return 0
	}
	return m + 1
}

func written(c api.Conf) zone {
	z := zone{c: c, upTo: []int{0}}
	for stripe, p := 0, 0; (stripe+1)*c.Unit <= c.Cap; stripe, p = stripe+1, next(p, c.Members) {
		start, first := stripe*c.Unit, len(z.places)
		for m, unit := next(p, c.Members), 0; m != p; m, unit = next(m, c.Members), unit+1 {
			for in := range c.Unit {
				z.steps = append(z.steps, block(m, start+in, len(z.places)))
				z.places = append(z.places, api.Place{Stripe: stripe, Unit: unit, In: in, Member: m, Phys: start + in})
				z.upTo = append(z.upTo, len(z.steps))
			}
		}
		z.steps = append(z.steps, parity(p, start, first, c.Unit))
		z.upTo[len(z.places)] = len(z.steps)
	}
	return z
}

func (z zone) size() int { return len(z.places) }

// has is whether n blocks from at on are the zone's.
func (z zone) has(at, n int) bool {
	return at >= 0 && n >= 0 && at <= z.size() && n <= z.size() && at+n <= z.size()
}

// part is the steps that n logical blocks from at on should become.
func (z zone) part(at, n int) []api.Step {
	if !z.has(at, n) {
		return nil
	}
	return z.steps[z.upTo[at]:z.upTo[at+n]]
}

// peers is what Peers should answer, looked for among all that is written.
func (z zone) peers(lb, n int) (peers []api.Place, whole bool) {
	if !z.has(0, n) || lb < 0 || lb >= n {
		return nil, false
	}
	own, there := z.places[lb], 0
	for _, p := range z.places[:n] {
		if p.Stripe != own.Stripe {
			continue
		}
		there++
		if p.In == own.In && p.Unit != own.Unit {
			peers = append(peers, p)
		}
	}
	return peers, there == (z.c.Members-1)*z.c.Unit
}

// singles is all blocks of members that the first n logical blocks ask for, a
// step each, by rising Phys, then by rising Member.
func (z zone) singles(n int) []api.Step {
	var all []api.Step
	for _, s := range z.part(0, n) {
		for k := range s.N {
			s := s
			s.Phys, s.N = s.Phys+k, 1
			all = append(all, s)
		}
	}
	slices.SortFunc(all, func(a, b api.Step) int {
		return cmp.Or(cmp.Compare(a.Phys, b.Phys), cmp.Compare(a.Member, b.Member))
	})
	return all
}

// lacking is those steps that members with so many blocks lack.
func lacking(singles []api.Step, from []int) []api.Step {
	var all []api.Step
	for _, s := range singles {
		if s.Phys >= from[s.Member] {
			all = append(all, s)
		}
	}
	return all
}

// edges are numbers about which units, stripes and a zone begin and end, and
// such as are far from all of them.
func edges(c api.Conf) []int {
	unit, row, size := c.Unit, conf.Row(c), conf.Size(c)
	all := []int{least, least + 1, -1 << 32, -size, size / 2, greatest - size, greatest - 1, greatest}
	for _, n := range []int{0, unit, row, size - row, size} {
		all = append(all, n-1, n, n+1)
	}
	slices.Sort(all)
	return slices.Compact(all)
}

// little are the settings of which each range of a zone can be asked.
func little() []api.Conf {
	return slices.DeleteFunc(sample.Good(), func(c api.Conf) bool { return conf.Size(c) > 210 })
}

// told is a list in few words, as a zone's steps are many.
func told[T any](l []T) string {
	if len(l) > 12 {
		return fmt.Sprintf("%d: %+v .. %+v", len(l), l[:6], l[len(l)-6:])
	}
	return fmt.Sprintf("%+v", l)
}

func steps(t *testing.T, c api.Conf, at, n int, want ...api.Step) {
	t.Helper()
	if got := plan.Steps(c, at, n); !slices.Equal(got, want) {
		t.Fatalf("Steps(%+v, %d, %d): %s, want %s", c, at, n, told(got), told(want))
	}
	count(t, c, at, n, len(want))
}

func count(t *testing.T, c api.Conf, at, n, want int) {
	t.Helper()
	if got := plan.Count(c, at, n); got != want {
		t.Fatalf("Count(%+v, %d, %d): %d, want %d", c, at, n, got, want)
	}
}

func peers(t *testing.T, c api.Conf, lb, n int, whole bool, want ...api.Place) {
	t.Helper()
	if got, parity := plan.Peers(c, lb, n); !slices.Equal(got, want) || parity != whole {
		t.Fatalf("Peers(%+v, %d, %d): %s, %v; want %s, %v", c, lb, n, told(got), parity, told(want), whole)
	}
}

func missing(t *testing.T, c api.Conf, from []int, n int, want ...api.Step) {
	t.Helper()
	if got := plan.Missing(c, from, n); !slices.Equal(got, want) {
		t.Fatalf("Missing(%+v, %v, %d): %s, want %s", c, from, n, told(got), told(want))
	}
}

// P9.1

func TestExample(t *testing.T) {
	steps(t, conf.Plain(), 4, 3, block(3, 0, 4), block(3, 1, 5), parity(0, 0, 0, 2), block(2, 2, 6))
	count(t, conf.Plain(), 4, 3, 4)
}

// TestStepsOfPlain: units of 2 blocks, stripes of 6.
func TestStepsOfPlain(t *testing.T) {
	c := conf.Plain()
	steps(t, c, 0, 0)
	steps(t, c, 0, 1, block(1, 0, 0))
	steps(t, c, 0, 2, block(1, 0, 0), block(1, 1, 1))
	steps(t, c, 0, 3, block(1, 0, 0), block(1, 1, 1), block(2, 0, 2))
	steps(t, c, 1, 2, block(1, 1, 1), block(2, 0, 2))
	steps(t, c, 3, 2, block(2, 1, 3), block(3, 0, 4))
	steps(t, c, 4, 1, block(3, 0, 4))
	steps(t, c, 5, 0)
	steps(t, c, 5, 1, block(3, 1, 5), parity(0, 0, 0, 2))
	steps(t, c, 6, 0)
	steps(t, c, 6, 1, block(2, 2, 6))
	steps(t, c, 7, 1, block(2, 3, 7))
	steps(t, c, 11, 2, block(0, 3, 11), parity(1, 2, 6, 2), block(3, 4, 12))
	steps(t, c, 5, 7,
		block(3, 1, 5), parity(0, 0, 0, 2),
		block(2, 2, 6), block(2, 3, 7), block(3, 2, 8), block(3, 3, 9), block(0, 2, 10), block(0, 3, 11), parity(1, 2, 6, 2))
	steps(t, c, 23, 1, block(2, 7, 23), parity(3, 6, 18, 2))
	steps(t, c, 70, 1, block(2, 22, 70))
	steps(t, c, 70, 2, block(2, 22, 70), block(2, 23, 71), parity(3, 22, 66, 2))
	steps(t, c, 71, 1, block(2, 23, 71), parity(3, 22, 66, 2))
	steps(t, c, 71, 0)
	steps(t, c, 72, 0)
}

// TestStepsOfTheLeast: a whole zone of 3 members, with units of 1 block.
func TestStepsOfTheLeast(t *testing.T) {
	c := sample.Small()
	steps(t, c, 0, 10,
		block(1, 0, 0), block(2, 0, 1), parity(0, 0, 0, 1),
		block(2, 1, 2), block(0, 1, 3), parity(1, 1, 2, 1),
		block(0, 2, 4), block(1, 2, 5), parity(2, 2, 4, 1),
		block(1, 3, 6), block(2, 3, 7), parity(0, 3, 6, 1),
		block(2, 4, 8), block(0, 4, 9), parity(1, 4, 8, 1))
	steps(t, c, 1, 2, block(2, 0, 1), parity(0, 0, 0, 1), block(2, 1, 2))
	steps(t, c, 10, 0)
	steps(t, c, 9, 2)
	steps(t, c, 11, 0)
}

// TestStepsOfTheGreatest: about the ends of units and of stripes.
func TestStepsOfTheGreatest(t *testing.T) {
	c := sample.Great()
	steps(t, c, 63, 2, block(1, 63, 63), block(2, 0, 64))
	steps(t, c, 958, 1, block(15, 62, 958))
	steps(t, c, 959, 1, block(15, 63, 959), parity(0, 0, 0, 64))
	steps(t, c, 959, 2, block(15, 63, 959), parity(0, 0, 0, 64), block(2, 64, 960))
	steps(t, c, 1919, 1, block(0, 127, 1919), parity(1, 64, 960, 64))
	steps(t, c, 61438, 2, block(14, 4094, 61438), block(14, 4095, 61439), parity(15, 4032, 60480, 64))
	steps(t, c, 61440, 0)
	steps(t, c, 61439, 2)
	steps(t, c, 61440, 1)
}

func TestCount(t *testing.T) {
	p, s, g := conf.Plain(), sample.Small(), sample.Great()
	for _, w := range []struct {
		c           api.Conf
		at, n, want int
	}{
		{p, 0, 0, 0}, {p, 0, 1, 1}, {p, 0, 5, 5}, {p, 0, 6, 7}, {p, 0, 7, 8}, {p, 1, 5, 6}, {p, 5, 1, 2}, {p, 5, 6, 7}, {p, 5, 7, 9}, {p, 6, 5, 5}, {p, 6, 6, 7}, {p, 0, 71, 82}, {p, 0, 72, 84}, {p, 72, 0, 0}, {p, 0, 73, 0},
		{s, 0, 1, 1}, {s, 0, 2, 3}, {s, 1, 1, 2}, {s, 1, 2, 3}, {s, 1, 3, 5}, {s, 0, 10, 15}, {s, 10, 0, 0},
		{g, 0, 959, 959}, {g, 0, 960, 961}, {g, 1, 959, 960}, {g, 959, 962, 964}, {g, 0, 61439, 61502}, {g, 0, 61440, 61504}, {g, 0, 61441, 0},
	} {
		count(t, w.c, w.at, w.n, w.want)
	}
}

// TestAllRanges: each range of a zone, and what is a block beyond it.
func TestAllRanges(t *testing.T) {
	for _, c := range little() {
		z := written(c)
		for at := -1; at <= z.size()+1; at++ {
			for n := -1; n <= z.size()+1; n++ {
				steps(t, c, at, n, z.part(at, n)...)
			}
		}
	}
}

// TestRangesAtEdges: at and n at all edges, each with each.
func TestRangesAtEdges(t *testing.T) {
	for _, c := range sample.Good() {
		z := written(c)
		for _, at := range edges(c) {
			for _, n := range edges(c) {
				steps(t, c, at, n, z.part(at, n)...)
			}
		}
	}
}

// TestBothTogether: just at Size, and one above it.
func TestBothTogether(t *testing.T) {
	for _, c := range sample.Good() {
		z := written(c)
		for _, at := range []int{0, 1, c.Unit, conf.Row(c) - 1, conf.Row(c), z.size() / 2, z.size() - 1, z.size()} {
			steps(t, c, at, z.size()-at, z.steps[z.upTo[at]:]...)
			steps(t, c, at, z.size()-at+1)
			steps(t, c, at+1, z.size()-at)
		}
	}
}

// TestSumBeyondAnInt: of at and n there is nothing, though their sum, wrapped
// round, were within a zone.
func TestSumBeyondAnInt(t *testing.T) {
	for _, c := range sample.Good() {
		for _, at := range []int{1, 2, 5, conf.Size(c), 1 << 62, greatest - 1, greatest} {
			for _, n := range []int{greatest - at + 1, greatest - at + 2, greatest - 1, greatest} {
				steps(t, c, at, n)
				steps(t, c, n, at)
			}
		}
		for _, n := range []int{least, least + 1, least + 72} {
			steps(t, c, n, n)
			steps(t, c, n, greatest)
			steps(t, c, greatest, n)
		}
	}
}

// TestOrder: logical blocks rise by one, and the parity of each stripe stands
// just behind its last block, and nowhere else.
func TestOrder(t *testing.T) {
	for _, c := range sample.Good() {
		row, at := conf.Row(c), conf.Row(c)/2
		lb, due := at, false
		for _, s := range plan.Steps(c, at, conf.Size(c)-at) {
			if s.Parity != due {
				t.Fatalf("%+v: ahead of logical block %d: %+v", c, lb, s)
			}
			if s.Parity {
				due = false
				if s != parity(geom.Parity(c, (lb-1)/row), (lb-1)/row*c.Unit, lb-row, c.Unit) {
					t.Fatalf("%+v: ahead of logical block %d: %+v", c, lb, s)
				}
				continue
			}
			p, _ := geom.Of(c, lb)
			if s != block(p.Member, p.Phys, lb) {
				t.Fatalf("%+v: at logical block %d: %+v", c, lb, s)
			}
			lb++
			due = lb%row == 0
		}
		if due || lb != conf.Size(c) {
			t.Fatalf("%+v: ends at %d, of %d", c, lb, conf.Size(c))
		}
	}
}

// P9.2

func TestPeersOfPlain(t *testing.T) {
	c := conf.Plain()
	at := func(unit, in, member, phys int) api.Place {
		return api.Place{Stripe: 1, Unit: unit, In: in, Member: member, Phys: phys}
	}
	peers(t, c, 6, 7, false)
	peers(t, c, 6, 8, false)
	peers(t, c, 6, 9, false, at(1, 0, 3, 2))
	peers(t, c, 6, 10, false, at(1, 0, 3, 2))
	peers(t, c, 6, 11, false, at(1, 0, 3, 2), at(2, 0, 0, 2))
	peers(t, c, 6, 12, true, at(1, 0, 3, 2), at(2, 0, 0, 2))
	peers(t, c, 6, 13, true, at(1, 0, 3, 2), at(2, 0, 0, 2))
	peers(t, c, 6, 72, true, at(1, 0, 3, 2), at(2, 0, 0, 2))
	peers(t, c, 7, 9, false)
	peers(t, c, 7, 11, false, at(1, 1, 3, 3))
	peers(t, c, 7, 12, true, at(1, 1, 3, 3), at(2, 1, 0, 3))
	peers(t, c, 8, 9, false, at(0, 0, 2, 2))
	peers(t, c, 9, 10, false, at(0, 1, 2, 3))
	peers(t, c, 9, 12, true, at(0, 1, 2, 3), at(2, 1, 0, 3))
	peers(t, c, 10, 11, false, at(0, 0, 2, 2), at(1, 0, 3, 2))
	peers(t, c, 11, 12, true, at(0, 1, 2, 3), at(1, 1, 3, 3))
}

func TestPeersOfTheLeast(t *testing.T) {
	c := sample.Small()
	peers(t, c, 0, 1, false)
	peers(t, c, 0, 2, true, api.Place{Unit: 1, Member: 2})
	peers(t, c, 1, 2, true, api.Place{Member: 1})
	peers(t, c, 8, 9, false)
	peers(t, c, 9, 10, true, api.Place{Stripe: 4, Member: 2, Phys: 4})
}

func TestPeersOfTheGreatest(t *testing.T) {
	c := sample.Great()
	var all []api.Place
	for unit := range 14 {
		all = append(all, api.Place{Stripe: 63, Unit: unit, In: 63, Member: unit, Phys: 4095})
	}
	peers(t, c, 61439, 61440, true, all...)
	peers(t, c, 60543, 60544, false)
	peers(t, c, 60543, 61375, false, all[1:13]...)
	peers(t, c, 60543, 61376, false, all[1:14]...)
	peers(t, c, 60543, 61439, false, all[1:14]...)
	last := api.Place{Stripe: 63, Unit: 14, In: 63, Member: 14, Phys: 4095}
	peers(t, c, 60543, 61440, true, append(slices.Clone(all[1:14]), last)...)
}

// TestAllPeers: each logical block of a zone with each count of blocks that are
// written, and a block beyond them.
func TestAllPeers(t *testing.T) {
	for _, c := range little() {
		z := written(c)
		for lb := -1; lb <= z.size()+1; lb++ {
			for n := -1; n <= z.size()+1; n++ {
				want, whole := z.peers(lb, n)
				peers(t, c, lb, n, whole, want...)
			}
		}
	}
}

func TestPeersAtEdges(t *testing.T) {
	for _, c := range sample.Good() {
		z := written(c)
		for _, n := range edges(c) {
			for _, lb := range append(edges(c), n/2, n-1, n) {
				want, whole := z.peers(lb, n)
				peers(t, c, lb, n, whole, want...)
			}
		}
	}
}

// TestNoPeers: of a block that is not written, and where more is to be written
// than there is.
func TestNoPeers(t *testing.T) {
	for _, c := range sample.Good() {
		size := conf.Size(c)
		for _, n := range []int{0, 1, c.Unit, conf.Row(c), size} {
			for _, lb := range []int{least, least + 1, -1, n, n + 1, size, size + 1, 1 << 62, greatest} {
				peers(t, c, lb, n, false)
			}
		}
		for _, n := range []int{least, -1, 0, size + 1, size + conf.Row(c), 1 << 62, greatest} {
			for _, lb := range []int{least, -1, 0, 1, size - 1, size, n - 1, n} {
				peers(t, c, lb, n, false)
			}
		}
	}
}

// TestPeersAndParityAreAllOthers: where the stripe is whole they lie on all
// members but the block's own, each once.
func TestPeersAndParityAreAllOthers(t *testing.T) {
	for _, c := range sample.Good() {
		row := conf.Row(c)
		for lb := 0; lb < conf.Size(c); lb += 1 + lb/row {
			own, _ := geom.Of(c, lb)
			l, whole := plan.Peers(c, lb, (own.Stripe+1)*row)
			if !whole {
				t.Fatalf("Peers(%+v, %d): the stripe is not whole", c, lb)
			}
			on := []int{own.Member, geom.Parity(c, own.Stripe)}
			for _, p := range l {
				on = append(on, p.Member)
				if p.Stripe != own.Stripe || p.In != own.In || p.Phys != own.Phys {
					t.Fatalf("Peers(%+v, %d): %+v beside %+v", c, lb, p, own)
				}
			}
			slices.Sort(on)
			for m := range c.Members {
				if len(on) != c.Members || on[m] != m {
					t.Fatalf("Peers(%+v, %d): on members %v", c, lb, on)
				}
			}
		}
	}
}

// P9.3

func TestMissingOfPlain(t *testing.T) {
	c := conf.Plain()
	seven := []api.Step{
		parity(0, 0, 0, 1), block(1, 0, 0), block(2, 0, 2), block(3, 0, 4),
		parity(0, 1, 0, 1), block(1, 1, 1), block(2, 1, 3), block(3, 1, 5),
		block(2, 2, 6),
	}
	missing(t, c, []int{0, 0, 0, 0}, 7, seven...)
	missing(t, c, []int{-1, -2, least, least + 1}, 7, seven...)
	missing(t, c, []int{2, 2, 3, 2}, 7)
	missing(t, c, []int{3, 2, 3, 2}, 7)
	missing(t, c, []int{greatest, greatest, greatest, greatest}, 7)
	missing(t, c, []int{greatest, greatest - 1, 2, 24}, 7, block(2, 2, 6))
	missing(t, c, []int{0, 2, 2, 1}, 7, parity(0, 0, 0, 1), parity(0, 1, 0, 1), block(3, 1, 5), block(2, 2, 6))
	missing(t, c, []int{1, 1, 2, 2}, 7, parity(0, 1, 0, 1), block(1, 1, 1), block(2, 2, 6))
	missing(t, c, []int{2, 2, 0, 2}, 7, block(2, 0, 2), block(2, 1, 3), block(2, 2, 6))
	missing(t, c, []int{0, 2, 3, 2}, 7, parity(0, 0, 0, 1), parity(0, 1, 0, 1))
	missing(t, c, []int{2, 2, 4, 4}, 12, block(0, 2, 10), parity(1, 2, 6, 1), block(0, 3, 11), parity(1, 3, 6, 1))
	missing(t, c, []int{0, 0, 0, 0}, 0)
	missing(t, c, []int{0, 0, 0, 0}, 1, block(1, 0, 0))
	missing(t, c, []int{0, 0, 0, 0}, 5, block(1, 0, 0), block(2, 0, 2), block(3, 0, 4), block(1, 1, 1), block(2, 1, 3))
	missing(t, c, []int{23, 24, 23, 22}, 72, parity(3, 22, 66, 1), block(0, 23, 67), block(2, 23, 71), parity(3, 23, 66, 1))
	missing(t, c, []int{23, 24, 23, 22}, 71, block(0, 23, 67))
}

func TestMissingOfTheGreatest(t *testing.T) {
	c := sample.Great()
	have := slices.Repeat([]int{4096}, 16)
	missing(t, c, have, 61440)
	have[15] = 4094
	missing(t, c, have, 61440, parity(15, 4094, 60480, 1), parity(15, 4095, 60480, 1))
	missing(t, c, have, 61439)
	have[14], have[0] = 4095, 4095
	missing(t, c, have, 61440, parity(15, 4094, 60480, 1), block(0, 4095, 60543), block(14, 4095, 61439), parity(15, 4095, 60480, 1))
	if l := plan.Missing(c, make([]int, 16), 61440); len(l) != 65536 || l[0] != parity(0, 0, 0, 1) || l[65535] != parity(15, 4095, 60480, 1) {
		t.Error(told(l))
	}
}

// TestAllMissing: of the least settings, with each count of blocks that each
// member can have, and one below and one above it.
func TestAllMissing(t *testing.T) {
	c := sample.Small()
	z := written(c)
	for n := range z.size() + 1 {
		all := z.singles(n)
		for a := -1; a <= c.Cap+1; a++ {
			for b := -1; b <= c.Cap+1; b++ {
				for d := -1; d <= c.Cap+1; d++ {
					from := []int{a, b, d}
					missing(t, c, from, n, lacking(all, from)...)
				}
			}
		}
	}
}

// haves are how many blocks members can have that need so many: none, all, one
// fewer, one more, numbers that may not be, and one member alone with none.
func haves(c api.Conf, needs []int) [][]int {
	all := [][]int{slices.Repeat([]int{least}, c.Members), slices.Repeat([]int{greatest}, c.Members), make([]int, c.Members)}
	for _, d := range []int{-1, 0, 1} {
		l := slices.Clone(needs)
		for m := range l {
			l[m] += d
		}
		all = append(all, l)
	}
	for _, m := range []int{0, c.Members - 1} {
		for _, n := range []int{-1, 0, c.Unit, greatest} {
			l := slices.Clone(needs)
			l[m] = n
			all = append(all, l)
		}
	}
	r := rand.New(rand.NewSource(int64(c.Members)))
	for range 3 {
		l := make([]int, c.Members)
		for m := range l {
			l[m] = r.Intn(c.Cap+3) - 1
		}
		all = append(all, l)
	}
	return all
}

// counts are some of what can be written of a zone.
func counts(c api.Conf) []int {
	return slices.DeleteFunc(edges(c), func(n int) bool { return n < 0 || n > conf.Size(c) })
}

func TestMissingAtEdges(t *testing.T) {
	for _, c := range sample.Good() {
		z := written(c)
		for _, n := range counts(c) {
			all := z.singles(n)
			for _, from := range haves(c, geom.Needs(c, n)) {
				missing(t, c, from, n, lacking(all, from)...)
			}
		}
	}
}

// TestMissingMakesUp: what is there already, and what lacks behind it, one
// block behind the other, is just what geom.Need says of each member.
func TestMissingMakesUp(t *testing.T) {
	for _, c := range little() {
		for n := range conf.Size(c) + 1 {
			for _, from := range haves(c, geom.Needs(c, n)) {
				have, last := make([]int, c.Members), api.Step{Phys: -1}
				for m := range have {
					have[m] = max(from[m], 0)
				}
				for _, s := range plan.Missing(c, from, n) {
					if s.N != 1 || s.Phys != have[s.Member] || s.Phys < last.Phys || s.Phys == last.Phys && s.Member <= last.Member {
						t.Fatalf("Missing(%+v, %v, %d): %+v behind %+v", c, from, n, s, last)
					}
					if lb, data := geom.Back(c, s.Member, s.Phys); lb != s.LB || data == s.Parity {
						t.Fatalf("Missing(%+v, %v, %d): %+v", c, from, n, s)
					}
					have[s.Member]++
					last = s
				}
				for m := range have {
					if have[m] != max(from[m], geom.Need(c, m, n)) {
						t.Fatalf("Missing(%+v, %v, %d): member %d has %d then", c, from, n, m, have[m])
					}
				}
			}
		}
	}
}

// TestMissingOfOtherCounts: from has not Members numbers.
func TestMissingOfOtherCounts(t *testing.T) {
	for _, c := range sample.Good() {
		for _, n := range []int{0, 1, conf.Row(c), conf.Size(c)} {
			missing(t, c, nil, n)
			for k := range 2*c.Members + 1 {
				if k != c.Members {
					missing(t, c, make([]int, k), n)
					// Spare room holds no numbers.
					missing(t, c, make([]int, k, 4*c.Members), n)
				}
			}
		}
	}
}

func TestMissingBeyondAZone(t *testing.T) {
	for _, c := range sample.Good() {
		size := conf.Size(c)
		for _, n := range []int{least, least + 1, -size, -1, size + 1, size + conf.Row(c), 1 << 62, greatest} {
			for _, from := range haves(c, geom.Needs(c, n)) {
				missing(t, c, from, n)
			}
		}
	}
}

// What settings that are refused answer.

// TestRefused: of settings that conf.Check refuses there is nothing, whatever
// stands beside them.
func TestRefused(t *testing.T) {
	some := []int{least, -1, 0, 1, 2, 5, 6, 7, 12, 24, 72, 1000, 1 << 40, greatest}
	for _, c := range sample.Refused() {
		for _, a := range some {
			for _, b := range some {
				steps(t, c, a, b)
				peers(t, c, a, b, false)
			}
			missing(t, c, nil, a)
			missing(t, c, make([]int, min(max(c.Members, 0), 100)), a)
			for k := range 18 {
				missing(t, c, make([]int, k), a)
			}
		}
	}
}

// P9.4

// behind holds the steps of both of two ranges against those of one.
func behind(t *testing.T, c api.Conf, at, amid, end int) {
	t.Helper()
	both := append(plan.Steps(c, at, amid-at), plan.Steps(c, amid, end-amid)...)
	steps(t, c, at, end-at, both...)
	if n := plan.Count(c, at, amid-at) + plan.Count(c, amid, end-amid); n != len(both) {
		t.Fatalf("%+v: Count of %d to %d, and to %d: %d, want %d", c, at, amid, end, n, len(both))
	}
}

func TestRangeBehindRange(t *testing.T) {
	for _, c := range little() {
		for end := range min(conf.Size(c), 30) + 1 {
			for amid := range end + 1 {
				for at := range amid + 1 {
					behind(t, c, at, amid, end)
				}
			}
		}
	}
}

func TestRangeBehindRangeAtEdges(t *testing.T) {
	for _, c := range sample.Good() {
		size, row := conf.Size(c), conf.Row(c)
		for _, amid := range counts(c) {
			behind(t, c, max(amid-row-1, 0), amid, min(amid+row+1, size))
		}
		behind(t, c, 0, size/2, size)
	}
}

// TestStepsFromTheBeginning: each step is at its member's write pointer, and
// behind each logical block, and its stripe's parity, if that one is whole,
// members have what geom.Need says.
func TestStepsFromTheBeginning(t *testing.T) {
	for _, c := range sample.Good() {
		have, n := make([]int, c.Members), 0
		all := plan.Steps(c, 0, conf.Size(c))
		for i, s := range all {
			if s.Phys != have[s.Member] {
				t.Fatalf("%+v: %+v, where the member has %d blocks", c, s, have[s.Member])
			}
			have[s.Member] += s.N
			if !s.Parity {
				n++
			}
			if i+1 < len(all) && all[i+1].Parity {
				continue
			}
			if want := geom.Needs(c, n); !slices.Equal(have, want) {
				t.Fatalf("%+v: behind %d: %v, want %v", c, n, have, want)
			}
		}
		if n != conf.Size(c) {
			t.Fatalf("%+v: %d logical blocks", c, n)
		}
	}
}

func TestStepsUpToEach(t *testing.T) {
	for _, c := range little() {
		for n := range conf.Size(c) + 1 {
			have := make([]int, c.Members)
			for _, s := range plan.Steps(c, 0, n) {
				have[s.Member] += s.N
			}
			if want := geom.Needs(c, n); !slices.Equal(have, want) {
				t.Fatalf("Steps(%+v, 0, %d): %v blocks, want %v", c, n, have, want)
			}
			missing(t, c, have, n)
		}
	}
}

// Memory, and from arguments alone.

// spoil writes over a list and its spare room.
func spoil[T any](l []T, with T) {
	l = l[:cap(l)]
	for i := range l {
		l[i] = with
	}
}

func TestAnswersInNewMemory(t *testing.T) {
	no, nowhere := api.Step{Member: -9, Phys: -9, LB: -9, N: -9}, api.Place{Stripe: -9, Member: -9}
	for _, c := range little() {
		z, from := written(c), make([]int, c.Members)
		row := conf.Row(c)
		first, second := plan.Steps(c, 1, row), plan.Steps(c, 1, row)
		spoil(first, no)
		if !slices.Equal(second, z.part(1, row)) {
			t.Errorf("%+v: another answer of Steps: %s", c, told(second))
		}
		steps(t, c, 1, row, z.part(1, row)...)

		want, whole := z.peers(1, row)
		one, _ := plan.Peers(c, 1, row)
		two, _ := plan.Peers(c, 1, row)
		spoil(one, nowhere)
		if !slices.Equal(two, want) {
			t.Errorf("%+v: another answer of Peers: %s", c, told(two))
		}
		peers(t, c, 1, row, whole, want...)

		all := z.singles(row + 1)
		first, second = plan.Missing(c, from, row+1), plan.Missing(c, from, row+1)
		spoil(first, no)
		if !slices.Equal(second, all) {
			t.Errorf("%+v: another answer of Missing: %s", c, told(second))
		}
		missing(t, c, from, row+1, all...)
	}
}

// TestFromIsLeft: nor is its spare room changed, and what becomes of it behind
// the call plays no part.
func TestFromIsLeft(t *testing.T) {
	for _, c := range little() {
		z := written(c)
		room := make([]int, 3*c.Members)
		for i := range room {
			room[i] = i%4 - 1
		}
		was, from := slices.Clone(room), room[c.Members:2*c.Members]
		want := lacking(z.singles(z.size()), from)
		got := plan.Missing(c, from, z.size())
		plan.Missing(c, from[:c.Members-1], z.size())
		plan.Missing(c, room, z.size())
		plan.Missing(c, from, z.size()+1)
		if !slices.Equal(room, was) {
			t.Errorf("%+v: %v, was %v", c, room, was)
		}
		spoil(room, 1)
		if !slices.Equal(got, want) {
			t.Errorf("%+v: %s, want %s", c, told(got), told(want))
		}
		missing(t, c, from, z.size(), lacking(z.singles(z.size()), from)...)
	}
}

// answers is all that one set of arguments tells.
func answers(c api.Conf, a, b int) string {
	from := make([]int, min(max(c.Members, 0), 20))
	for m := range from {
		from[m] = a + m
	}
	l, parity := plan.Peers(c, a, b)
	return fmt.Sprint(plan.Steps(c, a, b), plan.Count(c, a, b), l, parity, plan.Missing(c, from, b))
}

// TestFromArgumentsAlone: calls of other settings between, also of such as are
// refused, change no answer; and none changes its settings.
func TestFromArgumentsAlone(t *testing.T) {
	some := []int{-1, 0, 1, 5, 10, greatest}
	for _, c := range little() {
		was := c
		for _, a := range some {
			for _, b := range some {
				want := answers(c, a, b)
				for _, other := range append(sample.Refused(), sample.Good()...) {
					answers(other, b, a)
				}
				if got := answers(c, a, b); got != want {
					t.Fatalf("%+v, %d, %d: %s, then %s", c, a, b, want, got)
				}
			}
		}
		if c != was {
			t.Errorf("settings changed: %+v, were %+v", c, was)
		}
	}
}
