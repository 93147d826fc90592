package geom_test

import (
	"fmt"
	"math"
	"slices"
	"testing"

	"revetment/api"
	"revetment/conf"
	"revetment/geom"
	"revetment/sample"
)

const (
	least    = math.MinInt
	greatest = math.MaxInt
)

// cell is what a member has at a block of its zone.
type cell struct {
	lb   int
	data bool
}

// zone is a zone as the document's words lay it, block by block, with no
// division: units go from member to member, and the parity a member further
// with each stripe.
type zone struct {
	places   []api.Place // by logical block
	cells    [][]cell    // by member, then by block
	parities []int       // by stripe
	needs    [][]int     // by how many logical blocks are written
}

func next(m, members int) int {
	if m+1 == members {
		return 0
	}
	return m + 1
}

func laid(c api.Conf) zone {
	z := zone{cells: make([][]cell, c.Members)}
	have := make([]int, c.Members)
	z.needs = append(z.needs, slices.Clone(have))
	for stripe, p := 0, 0; (stripe+1)*c.Unit <= c.Cap; stripe, p = stripe+1, next(p, c.Members) {
		first := len(z.places)
		z.parities = append(z.parities, p)
		for m, unit := next(p, c.Members), 0; m != p; m, unit = next(m, c.Members), unit+1 {
			for in := range c.Unit {
				z.places = append(z.places, api.Place{Stripe: stripe, Unit: unit, In: in, Member: m, Phys: len(z.cells[m])})
				z.cells[m] = append(z.cells[m], cell{len(z.places) - 1, true})
				have[m]++
				z.needs = append(z.needs, slices.Clone(have))
			}
		}
		for range c.Unit {
			z.cells[p] = append(z.cells[p], cell{first, false})
		}
		have[p] += c.Unit
		z.needs[len(z.places)] = slices.Clone(have)
	}
	return z
}

// number holds one number against another one; what tells of which call, by
// its settings and its other arguments.
func number(t *testing.T, got, want int, what string, c api.Conf, of ...int) {
	t.Helper()
	if got != want {
		t.Errorf("%s of %+v and %v: %d, want %d", what, c, of, got, want)
	}
}

func lies(t *testing.T, c api.Conf, lb int, want api.Place, there bool) {
	t.Helper()
	if p, ok := geom.Of(c, lb); p != want || ok != there {
		t.Errorf("Of(%+v, %d): %+v, %v; want %+v, %v", c, lb, p, ok, want, there)
	}
}

func holds(t *testing.T, c api.Conf, m, phys int, want cell) {
	t.Helper()
	if lb, data := geom.Back(c, m, phys); lb != want.lb || data != want.data {
		t.Errorf("Back(%+v, %d, %d): %d, %v; want %d, %v", c, m, phys, lb, data, want.lb, want.data)
	}
}

func need(t *testing.T, c api.Conf, n int, want ...int) {
	t.Helper()
	if got := geom.Needs(c, n); !slices.Equal(got, want) {
		t.Errorf("Needs(%+v, %d): %v, want %v", c, n, got, want)
	}
	for m, w := range want {
		number(t, geom.Need(c, m, n), w, "Need", c, m, n)
	}
}

// without are numbers that count none of so many.
func without(count int) []int {
	return []int{least, least + 1, -1 << 32, -count - 1, -count, -2, -1, count, count + 1, 2 * count, 1 << 32, 1 << 62, greatest - 1, greatest}
}

// within are the first ones, one amid, and the last ones of so many.
func within(count int) []int {
	return []int{0, 1, count / 2, count - 2, count - 1}
}

// P8.1

// TestTurnOfPlain: four members, stripe by stripe: -1 is where the parity is.
func TestTurnOfPlain(t *testing.T) {
	c := conf.Plain()
	for stripe, units := range [][]int{
		{-1, 0, 1, 2}, {2, -1, 0, 1}, {1, 2, -1, 0}, {0, 1, 2, -1},
		{-1, 0, 1, 2}, {2, -1, 0, 1}, {1, 2, -1, 0}, {0, 1, 2, -1},
		{-1, 0, 1, 2}, {2, -1, 0, 1}, {1, 2, -1, 0}, {0, 1, 2, -1},
	} {
		for m, unit := range units {
			number(t, geom.Unit(c, stripe, m), unit, "Unit", c, stripe, m)
			if unit == -1 {
				number(t, geom.Parity(c, stripe), m, "Parity", c, stripe)
			} else {
				number(t, geom.Member(c, stripe, unit), m, "Member", c, stripe, unit)
			}
		}
	}
}

func TestTurnOfTheLeast(t *testing.T) {
	c := sample.Small()
	for stripe, units := range [][]int{{-1, 0, 1}, {1, -1, 0}, {0, 1, -1}, {-1, 0, 1}, {1, -1, 0}} {
		for m, unit := range units {
			number(t, geom.Unit(c, stripe, m), unit, "Unit", c, stripe, m)
		}
		number(t, geom.Parity(c, stripe), stripe%3, "Parity", c, stripe)
		number(t, geom.Member(c, stripe, 0), (stripe+1)%3, "Member", c, stripe, 0)
		number(t, geom.Member(c, stripe, 1), (stripe+2)%3, "Member", c, stripe, 1)
	}
}

func TestTurnOfTheGreatest(t *testing.T) {
	c := sample.Great()
	for _, w := range []struct{ stripe, parity, unit, member int }{
		{0, 0, 0, 1}, {0, 0, 14, 15}, {1, 1, 13, 15}, {1, 1, 14, 0}, {15, 15, 0, 0}, {15, 15, 14, 14}, {16, 0, 7, 8}, {63, 15, 0, 0}, {63, 15, 14, 14}, {62, 14, 0, 15}, {62, 14, 1, 0},
	} {
		number(t, geom.Parity(c, w.stripe), w.parity, "Parity", c, w.stripe)
		number(t, geom.Unit(c, w.stripe, w.parity), -1, "Unit", c, w.stripe, w.parity)
		number(t, geom.Member(c, w.stripe, w.unit), w.member, "Member", c, w.stripe, w.unit)
		number(t, geom.Unit(c, w.stripe, w.member), w.unit, "Unit", c, w.stripe, w.member)
	}
}

// TestTurns: Parity, Member and Unit of all that there is.
func TestTurns(t *testing.T) {
	for _, c := range sample.Good() {
		z := laid(c)
		for stripe, p := range z.parities {
			number(t, geom.Parity(c, stripe), p, "Parity", c, stripe)
			m := p
			for unit := range c.Members - 1 {
				m = next(m, c.Members)
				number(t, geom.Member(c, stripe, unit), m, "Member", c, stripe, unit)
				number(t, geom.Unit(c, stripe, m), unit, "Unit", c, stripe, m)
			}
			number(t, geom.Unit(c, stripe, p), -1, "Unit", c, stripe, p)
		}
	}
}

func TestNoSuchStripe(t *testing.T) {
	for _, c := range sample.Good() {
		for _, stripe := range without(conf.Stripes(c)) {
			number(t, geom.Parity(c, stripe), 0, "Parity", c, stripe)
			for k := range c.Members {
				number(t, geom.Member(c, stripe, k), 0, "Member", c, stripe, k)
				number(t, geom.Unit(c, stripe, k), 0, "Unit", c, stripe, k)
			}
		}
	}
}

func TestNoSuchUnit(t *testing.T) {
	for _, c := range sample.Good() {
		for _, stripe := range within(conf.Stripes(c)) {
			for _, unit := range without(conf.Data(c)) {
				number(t, geom.Member(c, stripe, unit), 0, "Member", c, stripe, unit)
			}
		}
	}
}

func TestUnitOfNoSuchMember(t *testing.T) {
	for _, c := range sample.Good() {
		for _, stripe := range within(conf.Stripes(c)) {
			for _, m := range without(c.Members) {
				number(t, geom.Unit(c, stripe, m), 0, "Unit", c, stripe, m)
			}
		}
	}
}

// P8.2

func TestExample(t *testing.T) {
	lies(t, conf.Plain(), 7, api.Place{Stripe: 1, Unit: 0, In: 1, Member: 2, Phys: 3}, true)
	holds(t, conf.Plain(), 2, 3, cell{7, true})
}

func TestOfSome(t *testing.T) {
	p, s, g := conf.Plain(), sample.Small(), sample.Great()
	for _, w := range []struct {
		c    api.Conf
		lb   int
		want api.Place
	}{
		{p, 0, api.Place{Stripe: 0, Unit: 0, In: 0, Member: 1, Phys: 0}},
		{p, 1, api.Place{Stripe: 0, Unit: 0, In: 1, Member: 1, Phys: 1}},
		{p, 2, api.Place{Stripe: 0, Unit: 1, In: 0, Member: 2, Phys: 0}},
		{p, 5, api.Place{Stripe: 0, Unit: 2, In: 1, Member: 3, Phys: 1}},
		{p, 6, api.Place{Stripe: 1, Unit: 0, In: 0, Member: 2, Phys: 2}},
		{p, 11, api.Place{Stripe: 1, Unit: 2, In: 1, Member: 0, Phys: 3}},
		{p, 18, api.Place{Stripe: 3, Unit: 0, In: 0, Member: 0, Phys: 6}},
		{p, 24, api.Place{Stripe: 4, Unit: 0, In: 0, Member: 1, Phys: 8}},
		{p, 66, api.Place{Stripe: 11, Unit: 0, In: 0, Member: 0, Phys: 22}},
		{p, 71, api.Place{Stripe: 11, Unit: 2, In: 1, Member: 2, Phys: 23}},
		{s, 0, api.Place{Stripe: 0, Unit: 0, In: 0, Member: 1, Phys: 0}},
		{s, 1, api.Place{Stripe: 0, Unit: 1, In: 0, Member: 2, Phys: 0}},
		{s, 2, api.Place{Stripe: 1, Unit: 0, In: 0, Member: 2, Phys: 1}},
		{s, 9, api.Place{Stripe: 4, Unit: 1, In: 0, Member: 0, Phys: 4}},
		{g, 0, api.Place{Stripe: 0, Unit: 0, In: 0, Member: 1, Phys: 0}},
		{g, 63, api.Place{Stripe: 0, Unit: 0, In: 63, Member: 1, Phys: 63}},
		{g, 64, api.Place{Stripe: 0, Unit: 1, In: 0, Member: 2, Phys: 0}},
		{g, 959, api.Place{Stripe: 0, Unit: 14, In: 63, Member: 15, Phys: 63}},
		{g, 960, api.Place{Stripe: 1, Unit: 0, In: 0, Member: 2, Phys: 64}},
		{g, 61439, api.Place{Stripe: 63, Unit: 14, In: 63, Member: 14, Phys: 4095}},
	} {
		lies(t, w.c, w.lb, w.want, true)
		holds(t, w.c, w.want.Member, w.want.Phys, cell{w.lb, true})
	}
}

// TestBackOfParity: the first logical block of the stripe, wherever within the
// unit phys is, and false.
func TestBackOfParity(t *testing.T) {
	p, s, g := conf.Plain(), sample.Small(), sample.Great()
	for _, w := range []struct {
		c           api.Conf
		m, phys, lb int
	}{
		{p, 0, 0, 0}, {p, 0, 1, 0}, {p, 1, 2, 6}, {p, 1, 3, 6}, {p, 3, 7, 18}, {p, 0, 8, 24}, {p, 3, 22, 66}, {p, 3, 23, 66},
		{s, 0, 0, 0}, {s, 1, 1, 2}, {s, 2, 2, 4}, {s, 0, 3, 6}, {s, 1, 4, 8},
		{g, 0, 0, 0}, {g, 0, 63, 0}, {g, 1, 64, 960}, {g, 1, 127, 960}, {g, 15, 4032, 60480}, {g, 15, 4095, 60480},
	} {
		holds(t, w.c, w.m, w.phys, cell{w.lb, false})
	}
}

// TestPlaces: Of of all logical blocks of a zone, and Back of all blocks of
// its members.
func TestPlaces(t *testing.T) {
	for _, c := range sample.Good() {
		z := laid(c)
		number(t, conf.Size(c), len(z.places), "logical blocks", c)
		for lb, want := range z.places {
			lies(t, c, lb, want, true)
		}
		for m, cells := range z.cells {
			number(t, conf.Stripes(c)*c.Unit, len(cells), "blocks", c, m)
			for phys, want := range cells {
				holds(t, c, m, phys, want)
			}
		}
	}
}

func TestOfNoSuchBlock(t *testing.T) {
	for _, c := range sample.Good() {
		for _, lb := range without(conf.Size(c)) {
			lies(t, c, lb, api.Place{}, false)
		}
	}
}

func TestBackOfNoSuchBlock(t *testing.T) {
	for _, c := range sample.Good() {
		for m := range c.Members {
			for _, phys := range without(conf.Stripes(c) * c.Unit) {
				holds(t, c, m, phys, cell{})
			}
		}
	}
}

func TestBackOfNoSuchMember(t *testing.T) {
	for _, c := range sample.Good() {
		for _, m := range without(c.Members) {
			for _, phys := range within(conf.Stripes(c) * c.Unit) {
				holds(t, c, m, phys, cell{})
			}
		}
	}
}

// P8.3

// TestNeedOfPlain: units of 2 blocks, stripes of 6: at their ends, a block
// ahead and a block behind.
func TestNeedOfPlain(t *testing.T) {
	c := conf.Plain()
	need(t, c, least, 0, 0, 0, 0)
	need(t, c, -7, 0, 0, 0, 0)
	need(t, c, -1, 0, 0, 0, 0)
	need(t, c, 0, 0, 0, 0, 0)
	need(t, c, 1, 0, 1, 0, 0)
	need(t, c, 2, 0, 2, 0, 0)
	need(t, c, 3, 0, 2, 1, 0)
	need(t, c, 4, 0, 2, 2, 0)
	need(t, c, 5, 0, 2, 2, 1)
	need(t, c, 6, 2, 2, 2, 2)
	need(t, c, 7, 2, 2, 3, 2)
	need(t, c, 8, 2, 2, 4, 2)
	need(t, c, 9, 2, 2, 4, 3)
	need(t, c, 11, 3, 2, 4, 4)
	need(t, c, 12, 4, 4, 4, 4)
	need(t, c, 13, 4, 4, 4, 5)
	need(t, c, 66, 22, 22, 22, 22)
	need(t, c, 67, 23, 22, 22, 22)
	need(t, c, 71, 24, 24, 23, 22)
	need(t, c, 72, 24, 24, 24, 24)
	need(t, c, 73, 24, 24, 24, 24)
	need(t, c, 78, 24, 24, 24, 24)
	need(t, c, greatest, 24, 24, 24, 24)
}

func TestNeedOfTheLeast(t *testing.T) {
	c := sample.Small()
	need(t, c, least, 0, 0, 0)
	need(t, c, -1, 0, 0, 0)
	need(t, c, 0, 0, 0, 0)
	need(t, c, 1, 0, 1, 0)
	need(t, c, 2, 1, 1, 1)
	need(t, c, 3, 1, 1, 2)
	need(t, c, 4, 2, 2, 2)
	need(t, c, 5, 3, 2, 2)
	need(t, c, 8, 4, 4, 4)
	need(t, c, 9, 4, 4, 5)
	need(t, c, 10, 5, 5, 5)
	need(t, c, 11, 5, 5, 5)
	need(t, c, greatest, 5, 5, 5)
}

func TestNeedOfTheGreatest(t *testing.T) {
	c := sample.Great()
	all := func(n int) []int { return slices.Repeat([]int{n}, 16) }
	but := func(n int, at map[int]int) []int {
		l := all(n)
		for m, k := range at {
			l[m] = k
		}
		return l
	}
	need(t, c, least, all(0)...)
	need(t, c, -1, all(0)...)
	need(t, c, 0, all(0)...)
	need(t, c, 1, but(0, map[int]int{1: 1})...)
	need(t, c, 63, but(0, map[int]int{1: 63})...)
	need(t, c, 64, but(0, map[int]int{1: 64})...)
	need(t, c, 65, but(0, map[int]int{1: 64, 2: 1})...)
	need(t, c, 959, but(64, map[int]int{0: 0, 15: 63})...)
	need(t, c, 960, all(64)...)
	need(t, c, 961, but(64, map[int]int{2: 65})...)
	need(t, c, 61439, but(4096, map[int]int{14: 4095, 15: 4032})...)
	need(t, c, 61440, all(4096)...)
	need(t, c, 61441, all(4096)...)
	need(t, c, greatest, all(4096)...)
}

// TestNeeds: all that may be written of a zone, and beyond it on both sides.
func TestNeeds(t *testing.T) {
	for _, c := range sample.Good() {
		z := laid(c)
		size := conf.Size(c)
		for n, want := range z.needs {
			need(t, c, n, want...)
		}
		for _, n := range without(size) {
			if n < 0 {
				need(t, c, n, make([]int, c.Members)...)
			} else {
				need(t, c, n, slices.Repeat([]int{conf.Stripes(c) * c.Unit}, c.Members)...)
			}
		}
	}
}

func TestNeedOfNoSuchMember(t *testing.T) {
	for _, c := range sample.Good() {
		for _, m := range without(c.Members) {
			for _, n := range append(without(conf.Size(c)), within(conf.Size(c))...) {
				number(t, geom.Need(c, m, n), 0, "Need", c, m, n)
			}
		}
	}
}

// What settings that are refused answer.

// TestRefused: of settings that conf.Check refuses there is nothing, whatever
// stands beside them.
func TestRefused(t *testing.T) {
	some := []int{least, -1, 0, 1, 2, 3, 5, 6, 7, 12, 15, 23, 24, 71, 72, 1000, 1 << 20, 1 << 40, greatest}
	for _, c := range sample.Refused() {
		for _, a := range some {
			number(t, geom.Parity(c, a), 0, "Parity", c, a)
			lies(t, c, a, api.Place{}, false)
			if l := geom.Needs(c, a); l != nil {
				t.Errorf("Needs(%+v, %d): %v", c, a, l)
			}
			for _, b := range some {
				number(t, geom.Member(c, a, b), 0, "Member", c, a, b)
				number(t, geom.Unit(c, a, b), 0, "Unit", c, a, b)
				number(t, geom.Need(c, a, b), 0, "Need", c, a, b)
				holds(t, c, a, b, cell{})
			}
		}
	}
}

// P8.4

// spot is a block of a member.
type spot struct{ member, phys int }

// TestNoTwoAtOnePlace: nor does a logical block lie where a parity does.
func TestNoTwoAtOnePlace(t *testing.T) {
	for _, c := range sample.Good() {
		at := map[spot]int{}
		for lb := range conf.Size(c) {
			p, ok := geom.Of(c, lb)
			if !ok || p.Member < 0 || p.Member >= c.Members || p.Phys < 0 || p.Phys >= c.Cap {
				t.Fatalf("Of(%+v, %d): %+v, %v", c, lb, p, ok)
			}
			s := spot{p.Member, p.Phys}
			if other, ok := at[s]; ok {
				t.Fatalf("%+v: %d and %d are both at %+v", c, other, lb, s)
			}
			at[s] = lb
			if p.Member != geom.Member(c, p.Stripe, p.Unit) || p.Unit != geom.Unit(c, p.Stripe, p.Member) || p.Member == geom.Parity(c, p.Stripe) {
				t.Fatalf("Of(%+v, %d): %+v, where Member, Unit or Parity say otherwise", c, lb, p)
			}
		}
	}
}

// TestOfAndBackAgree: in both directions, over all blocks of a zone.
func TestOfAndBackAgree(t *testing.T) {
	for _, c := range sample.Good() {
		for lb := range conf.Size(c) {
			p, _ := geom.Of(c, lb)
			holds(t, c, p.Member, p.Phys, cell{lb, true})
		}
		data := 0
		for m := range c.Members {
			for phys := range conf.Stripes(c) * c.Unit {
				lb, isData := geom.Back(c, m, phys)
				p, ok := geom.Of(c, lb)
				if !ok || p.Stripe != phys/c.Unit {
					t.Fatalf("Back(%+v, %d, %d): %d, of another stripe", c, m, phys, lb)
				}
				if isData {
					data++
				}
				if isData != (spot{p.Member, p.Phys} == spot{m, phys}) || isData == (geom.Unit(c, p.Stripe, m) == -1) {
					t.Fatalf("Back(%+v, %d, %d): %d, %v, which lies at %+v", c, m, phys, lb, isData, p)
				}
			}
		}
		number(t, data, conf.Size(c), "blocks that are data", c)
	}
}

// TestParitiesAreEven: up to one.
func TestParitiesAreEven(t *testing.T) {
	for _, c := range sample.Good() {
		has := make([]int, c.Members)
		for stripe := range conf.Stripes(c) {
			has[geom.Parity(c, stripe)]++
		}
		if slices.Max(has)-slices.Min(has) > 1 {
			t.Errorf("%+v: %v", c, has)
		}
	}
}

// TestNeedNeverFalls: a block more needs a block more of its member, and a
// unit of the parity's, if the stripe is whole by it.
func TestNeedNeverFalls(t *testing.T) {
	for _, c := range sample.Good() {
		before := geom.Needs(c, -1)
		for n := range conf.Size(c) + 3 {
			now := geom.Needs(c, n)
			sum := 0
			for m := range now {
				if now[m] < before[m] {
					t.Fatalf("%+v: Needs falls from %v to %v, at %d", c, before, now, n)
				}
				sum += now[m]
			}
			done := min(n, conf.Size(c))
			number(t, sum, done+done/conf.Row(c)*c.Unit, "blocks in all", c, n)
			before = now
		}
		for m, n := range before {
			number(t, n, conf.Stripes(c)*c.Unit, "all blocks", c, m)
		}
	}
}

// TestWrittenInOrder: each logical block lies where its member's blocks end
// that were needed ahead of it.
func TestWrittenInOrder(t *testing.T) {
	for _, c := range sample.Good() {
		for lb := range conf.Size(c) {
			p, _ := geom.Of(c, lb)
			number(t, geom.Need(c, p.Member, lb), p.Phys, "Need", c, p.Member, lb)
		}
	}
}

// Memory, and from arguments alone.

// spoil writes over a list and its spare room.
func spoil(l []int) {
	l = l[:cap(l)]
	for i := range l {
		l[i] = -99
	}
}

func TestNeedsInNewMemory(t *testing.T) {
	for _, c := range sample.Good() {
		for _, n := range []int{-1, 0, 1, conf.Row(c), conf.Row(c) + 1, conf.Size(c), greatest} {
			first, second := geom.Needs(c, n), geom.Needs(c, n)
			want := slices.Clone(first)
			spoil(first)
			if !slices.Equal(second, want) {
				t.Errorf("%+v: another answer: %v, want %v", c, second, want)
			}
			need(t, c, n, want...)
		}
	}
}

// answers is all that one set of arguments tells.
func answers(c api.Conf, a, b int) string {
	p, ok := geom.Of(c, a)
	lb, data := geom.Back(c, a, b)
	return fmt.Sprint(geom.Parity(c, a), geom.Member(c, a, b), geom.Unit(c, a, b), p, ok, lb, data, geom.Need(c, a, b), geom.Needs(c, a))
}

// TestFromArgumentsAlone: calls of other settings between, also of such as are
// refused, change no answer; and none changes its settings.
func TestFromArgumentsAlone(t *testing.T) {
	for _, c := range sample.Good() {
		was := c
		for _, a := range []int{-1, 0, 1, 2, 5, 100, greatest} {
			for _, b := range []int{-1, 0, 1, 2, 5, 100, greatest} {
				want := answers(c, a, b)
				for _, other := range sample.Refused() {
					answers(other, a, b)
				}
				for _, other := range sample.Good() {
					answers(other, b, a)
				}
				if got := answers(c, a, b); got != want {
					t.Fatalf("%+v, %d, %d: %s, then %s", c, a, b, want, got)
				}
			}
		}
		if c != was {
			t.Errorf("settings changed: %+v, were %+v", c, was)
		}
	}
}
