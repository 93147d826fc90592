package conf_test

import (
	"bytes"
	"fmt"
	"math"
	"math/big"
	"slices"
	"testing"

	"revetment/api"
	"revetment/conf"
	"revetment/pack"
)

const (
	least    = math.MinInt
	greatest = math.MaxInt
	known    = 1 << 20 // the greatest number of which anything follows
	maxID    = 1 << 40
	laid     = 1 << 62 // the greatest number that is got
)

// names are the numbers' names, in the order in which they are laid.
var names = []string{"ID", "Members", "Unit", "Block", "Cap", "Zones", "Spare", "Meta", "Open", "Active", "Limit"}

// at is the number of that name.
func at(c *api.Conf, name string) *int {
	switch name {
	case "ID":
		return &c.ID
	case "Members":
		return &c.Members
	case "Unit":
		return &c.Unit
	case "Block":
		return &c.Block
	case "Cap":
		return &c.Cap
	case "Zones":
		return &c.Zones
	case "Spare":
		return &c.Spare
	case "Meta":
		return &c.Meta
	case "Open":
		return &c.Open
	case "Active":
		return &c.Active
	case "Limit":
		return &c.Limit
	}
	panic("no number is named " + name)
}

// with is c with one number another one.
func with(c api.Conf, name string, n int) api.Conf {
	*at(&c, name) = n
	return c
}

// listed is settings by their numbers, in the order in which they are laid.
func listed(n ...int) api.Conf {
	var c api.Conf
	for i, name := range names {
		*at(&c, name) = n[i]
	}
	return c
}

// roomy is settings in which each number may go far, while Room stays below
// Cap.
func roomy() api.Conf {
	return listed(0, 4, 2, 512, 4096, 8, 2, 4, 3, 5, 20)
}

// bases are settings that may be, of unlike kinds.
func bases() []api.Conf {
	return []api.Conf{
		conf.Plain(),
		roomy(),
		listed(0, 3, 1, 4096, 5, 1, 1, 3, 1, 1, 5),
		listed(maxID, 16, 64, 4096, 4096, 60, 1, 3, 60, 60, 64),
		listed(1, 5, 3, 100, 999, 10, 40, 14, 1, 10, 64),
		listed(1, 16, 64, 1, 4096, 1, 2, 61, 1, 1, 64),
	}
}

func checks(t *testing.T, what string, c api.Conf, want api.Errno) {
	t.Helper()
	if e := conf.Check(c); e != want {
		t.Errorf("%s: Check(%+v): %d, want %d", what, c, int(e), int(want))
	}
}

// follow is all that follows of settings.
type follow struct{ Data, Stripes, Row, Size, Slots, All, Room int }

func of(c api.Conf) follow {
	return follow{conf.Data(c), conf.Stripes(c), conf.Row(c), conf.Size(c), conf.Slots(c), conf.All(c), conf.Room(c)}
}

func follows(t *testing.T, what string, c api.Conf, want follow) {
	t.Helper()
	if got := of(c); got != want {
		t.Errorf("%s, of %+v:\ngot  %+v\nwant %+v", what, c, got, want)
	}
}

func gets(t *testing.T, what string, b []byte, want api.Conf, err api.Errno) {
	t.Helper()
	if c, e := conf.Get(b); c != want || e != err {
		t.Errorf("%s: Get: %+v, %d; want %+v, %d", what, c, int(e), want, int(err))
	}
}

func same(t *testing.T, what string, got, want []byte) {
	t.Helper()
	if !bytes.Equal(got, want) {
		t.Errorf("%s:\ngot  % x\nwant % x", what, got, want)
	}
}

// spoil writes over a list and its spare room.
func spoil(b []byte) {
	b = b[:cap(b)]
	for i := range b {
		b[i] = 0xee
	}
}

// P7.1

func TestFollowsOfPlain(t *testing.T) {
	c := conf.Plain()
	if conf.Row(c) != 6 || conf.Stripes(c) != 12 || conf.Size(c) != 72 || conf.All(c) != 7 {
		t.Errorf("the example: %+v", of(c))
	}
	follows(t, "Plain", c, follow{Data: 3, Stripes: 12, Row: 6, Size: 72, Slots: 4, All: 7, Room: 18})
}

func TestFollowsOfOthers(t *testing.T) {
	for _, c := range []struct {
		name string
		conf api.Conf
		want follow
	}{
		{"roomy", roomy(), follow{3, 2048, 6, 12288, 10, 14, 22}},
		{"all are 1", listed(1, 1, 1, 1, 1, 1, 1, 1, 1, 1, 1), follow{0, 1, 0, 0, 2, 3, 380}},
		{"a prime each", listed(2, 3, 5, 7, 11, 13, 17, 19, 23, 29, 31), follow{2, 2, 10, 20, 30, 49, 211}},
		{"as many as may be", listed(0, 16, 64, 4096, 4096, 60, 1, 3, 60, 60, 64), follow{15, 64, 960, 61440, 61, 64, 3907}},
		{"more than may be", listed(0, 1000, 2000, 5000, 70000, 300, 400, 500, 600, 700, 800), follow{999, 35, 1998000, 69930000, 700, 1200, 602007}},
	} {
		follows(t, c.name, c.conf, c.want)
	}
}

// TestFollowsUpTo: a number at 1, and at 2^20, is not too small, nor too
// great; all of them at once either.
func TestFollowsUpTo(t *testing.T) {
	const m = known
	follows(t, "Members 1", with(conf.Plain(), "Members", 1), follow{0, 12, 0, 0, 4, 7, 18})
	follows(t, "Unit 1", with(conf.Plain(), "Unit", 1), follow{3, 24, 3, 72, 4, 7, 14})
	follows(t, "Block 1", with(conf.Plain(), "Block", 1), follow{3, 12, 6, 72, 4, 7, 506})
	follows(t, "Cap 1", with(conf.Plain(), "Cap", 1), follow{3, 0, 6, 0, 4, 7, 18})
	follows(t, "Zones 1", with(conf.Plain(), "Zones", 1), follow{3, 12, 6, 72, 2, 5, 13})
	follows(t, "Meta 1", with(conf.Plain(), "Meta", 1), follow{3, 12, 6, 72, 4, 5, 18})
	follows(t, "Members 2^20", with(conf.Plain(), "Members", m), follow{m - 1, 12, 2*m - 2, 24 * (m - 1), 4, 7, 131090})
	follows(t, "Unit 2^20", with(conf.Plain(), "Unit", m), follow{3, 0, 3 * m, 0, 4, 7, 4*m + 10})
	follows(t, "Block 2^20", with(conf.Plain(), "Block", m), follow{3, 12, 6, 72, 4, 7, 11})
	follows(t, "Cap 2^20", with(conf.Plain(), "Cap", m), follow{3, m / 2, 6, 3 * m, 4, 7, 18})
	follows(t, "Zones 2^20", with(conf.Plain(), "Zones", m), follow{3, 12, 6, 72, m + 1, m + 4, 2*m + 2 + 786438 + 2})
	follows(t, "Spare 2^20", with(conf.Plain(), "Spare", m), follow{3, 12, 6, 72, m + 3, m + 6, 18})
	follows(t, "Meta 2^20", with(conf.Plain(), "Meta", m), follow{3, 12, 6, 72, 4, m + 4, 18})
	plain := of(conf.Plain())
	for _, name := range []string{"Spare", "Open", "Active", "Limit"} {
		follows(t, name+" 1", with(conf.Plain(), name, 1), plain)
	}
	for _, name := range []string{"Open", "Active", "Limit"} {
		follows(t, name+" 2^20", with(conf.Plain(), name, m), plain)
	}
	follows(t, "all are 2^20", listed(m, m, m, m, m, m, m, m, m, m, m),
		follow{m - 1, 1, (m - 1) * m, (m - 1) * m, 2 * m, 3 * m, (m+1)*m + 57 + 2})
}

// TestNothingFollows: one number below 1, or above 2^20, turns all to 0.
func TestNothingFollows(t *testing.T) {
	for _, base := range bases() {
		for _, name := range names[1:] {
			for _, n := range []int{0, -1, -2, -known, -laid, least, known + 1, known + 2, 1 << 32, 1<<32 + 1, maxID, laid, greatest} {
				follows(t, fmt.Sprint(name, " ", n), with(base, name, n), follow{})
			}
		}
	}
	follows(t, "settings that are zero", api.Conf{}, follow{})
	follows(t, "all below 0", listed(-1, -1, -1, -1, -1, -1, -1, -1, -1, -1, -1), follow{})
	follows(t, "the least of all", listed(least, least, least, least, least, least, least, least, least, least, least), follow{})
	follows(t, "the greatest of all", listed(greatest, greatest, greatest, greatest, greatest, greatest, greatest, greatest, greatest, greatest, greatest), follow{})
}

func TestIDTurnsNothing(t *testing.T) {
	for _, base := range bases() {
		want := of(base)
		for _, n := range []int{least, -laid, -known, -1, 0, 1, known, known + 1, maxID, maxID + 1, laid, greatest} {
			follows(t, fmt.Sprint("ID ", n), with(base, "ID", n), want)
		}
	}
}

func TestStripesOfCapThatIsNoMultiple(t *testing.T) {
	for _, c := range []struct{ room, unit, stripes, size int }{
		{24, 5, 4, 60}, {25, 2, 12, 72}, {23, 2, 11, 66}, {4, 5, 0, 0}, {5, 5, 1, 15}, {9, 5, 1, 15}, {10, 5, 2, 30}, {4095, 64, 63, 12096},
	} {
		d := with(with(conf.Plain(), "Cap", c.room), "Unit", c.unit)
		if conf.Stripes(d) != c.stripes || conf.Size(d) != c.size {
			t.Errorf("Cap %d, Unit %d: Stripes %d, Size %d; want %d, %d", c.room, c.unit, conf.Stripes(d), conf.Size(d), c.stripes, c.size)
		}
	}
}

// TestRoom: of Plain with Unit 1 and Zones 1 there are 400 bytes, and two
// blocks, at 4 members.
func TestRoom(t *testing.T) {
	base := with(with(conf.Plain(), "Unit", 1), "Zones", 1)
	for _, c := range []struct {
		name           string
		block, members int
		want           int
	}{
		{"a byte a block", 1, 4, 404},
		{"they divide", 400, 4, 5},
		{"they divide by more", 200, 4, 6},
		{"a byte more than divides", 399, 4, 6},
		{"a byte less than divides", 401, 4, 5},
		{"they divide by a power", 16, 4, 29},
		{"eight bytes more", 16, 5, 30},
		{"and eight more", 16, 6, 30},
		{"and they divide no more", 16, 7, 31},
		{"a block has all", 4096, 4, 5},
	} {
		d := with(with(base, "Block", c.block), "Members", c.members)
		if got := conf.Room(d); got != c.want {
			t.Errorf("%s: Room is %d, want %d", c.name, got, c.want)
		}
	}
}

// exact is what the document says of Room, at any size.
func exact(c api.Conf) int {
	n := func(x int) *big.Int { return big.NewInt(int64(x)) }
	times := func(x ...int) *big.Int {
		out := n(1)
		for _, y := range x {
			out.Mul(out, n(y))
		}
		return out
	}
	all := n(320)
	all.Add(all, times(8, c.Members)).Add(all, times(48, c.Zones)).Add(all, times(c.Zones+1, c.Unit, c.Block))
	whole, over := new(big.Int).QuoRem(all, n(c.Block), new(big.Int))
	if over.Sign() > 0 {
		whole.Add(whole, n(1))
	}
	return int(whole.Int64()) + 2
}

func TestRoomOfGreatNumbers(t *testing.T) {
	some := []int{1, 2, 3, 63, 64, 4095, 4096, known - 1, known}
	for _, members := range some {
		for _, unit := range some {
			for _, block := range some {
				for _, zones := range some {
					c := listed(7, members, unit, block, 24, zones, 1, 3, 2, 3, 7)
					if got, want := conf.Room(c), exact(c); got != want {
						t.Errorf("Room of %+v: %d, want %d", c, got, want)
					}
				}
			}
		}
	}
}

// P7.2

func TestPlain(t *testing.T) {
	want := listed(7, 4, 2, 64, 24, 3, 1, 3, 2, 3, 7)
	if c := conf.Plain(); c != want {
		t.Errorf("Plain: %+v", c)
	}
	checks(t, "Plain", conf.Plain(), api.OK)
}

func TestCheckTakes(t *testing.T) {
	for _, c := range bases() {
		checks(t, "a base", c, api.OK)
	}
}

// TestCheckOfEachNumber takes each number to its edges, with all others as
// they may be beside it.
func TestCheckOfEachNumber(t *testing.T) {
	unit1 := with(roomy(), "Unit", 1)
	small := listed(0, 3, 1, 4096, 5, 1, 1, 3, 1, 1, 5)
	for _, c := range []struct {
		name string
		base api.Conf
		ok   []int
		not  []int
	}{
		{"ID", roomy(), []int{0, 1, maxID - 1, maxID}, []int{-1, maxID + 1, 1 << 41, laid}},
		{"Members", roomy(), []int{3, 4, 15, 16}, []int{0, 1, 2, 17, 18, -3}},
		{"Unit", roomy(), []int{1, 2, 4, 32, 64}, []int{0, 3, 63, 65, 128, 4096, -1, -2, -64}},
		{"Block", roomy(), []int{1, 2, 4095, 4096}, []int{0, -1, -64, 4097, 8192}},
		{"Cap", unit1, []int{13, 14, 4095, 4096}, []int{0, -1, -4096, 4097, 8192}},
		{"Cap", small, []int{5, 6}, []int{0, -5}},
		{"Zones", roomy(), []int{5, 6, 57, 58}, []int{0, -1, 1, 4, 59, 60, 64, 65}},
		{"Zones", with(small, "Cap", 4096), []int{1, 2, 59, 60}, []int{0, -1, 61, 64}},
		{"Spare", with(roomy(), "Limit", 64), []int{1, 2, 51, 52}, []int{0, -1, 53, 64, 65}},
		{"Meta", with(roomy(), "Limit", 64), []int{3, 4, 53, 54}, []int{0, -1, 1, 2, 55, 64, 65}},
		{"Open", roomy(), []int{1, 2, 4, 5}, []int{0, -1, 6, 8, 64}},
		{"Active", with(roomy(), "Limit", 64), []int{3, 4, 7, 8}, []int{0, -1, 1, 2, 9, 10, 64}},
		{"Limit", roomy(), []int{11, 12, 63, 64}, []int{0, -1, 1, 10, 65, 66}},
	} {
		for _, n := range c.ok {
			checks(t, fmt.Sprint(c.name, " ", n), with(c.base, c.name, n), api.OK)
		}
		for _, n := range slices.Concat(c.not, []int{least, least + 1, -laid, laid + 1, greatest - 1, greatest}) {
			checks(t, fmt.Sprint(c.name, " ", n), with(c.base, c.name, n), api.ErrArg)
		}
	}
}

func TestCheckOfCapAndUnit(t *testing.T) {
	for unit := range 70 {
		for _, room := range []int{4032, 4080, 4095, 4096} {
			want := api.ErrArg
			if unit >= 1 && unit <= 64 && room%unit == 0 {
				want = api.OK
			}
			checks(t, fmt.Sprint("Unit ", unit, ", Cap ", room), with(with(roomy(), "Unit", unit), "Cap", room), want)
		}
	}
	checks(t, "Cap below Unit", with(with(roomy(), "Unit", 64), "Cap", 32), api.ErrArg)
}

// TestCheckOfAll: Zones, Spare and Meta together are 64 at most, whichever of
// them makes the sum too great, and however far it runs over.
func TestCheckOfAll(t *testing.T) {
	base := listed(0, 3, 1, 512, 4096, 1, 1, 3, 1, 1, 64)
	for zones := 1; zones <= 62; zones++ {
		for spare := 1; spare <= 62; spare++ {
			for _, all := range []int{63, 64, 65} {
				meta := all - zones - spare
				want := api.ErrArg
				if meta >= 3 && all <= 64 {
					want = api.OK
				}
				c := with(with(with(base, "Zones", zones), "Spare", spare), "Meta", meta)
				checks(t, fmt.Sprint("All ", all), c, want)
			}
		}
	}
	for _, n := range [][3]int{
		{greatest, 1, 3}, {1, greatest, 3}, {1, 1, greatest}, {greatest, greatest, 3}, {1, greatest, greatest}, {greatest, 1, greatest},
		{greatest, greatest, greatest}, {laid, laid, 3}, {laid, laid, laid}, {1, laid, laid}, {known, known, known}, {known + 1, 1, 3}, {1, known + 1, 3},
		{1, 1, known + 1}, {greatest - 2, greatest - 2, 10},
	} {
		c := with(with(with(base, "Zones", n[0]), "Spare", n[1]), "Meta", n[2])
		checks(t, fmt.Sprint("a sum that runs over: ", n), c, api.ErrArg)
	}
}

func TestCheckOfOpenAndActive(t *testing.T) {
	base := with(roomy(), "Limit", 64)
	for open := -1; open <= 10; open++ {
		for active := -1; active <= 10; active++ {
			want := api.ErrArg
			if 1 <= open && open <= active && active <= 8 {
				want = api.OK
			}
			checks(t, fmt.Sprint("Open ", open, ", Active ", active), with(with(base, "Open", open), "Active", active), want)
		}
	}
}

func TestCheckOfLimit(t *testing.T) {
	base := listed(0, 3, 1, 512, 4096, 20, 1, 3, 1, 1, 64)
	for _, active := range []int{1, 2, 19, 20} {
		for _, spare := range []int{1, 2, 20} {
			for _, meta := range []int{3, 4, 24} {
				sum := active + spare + meta
				c := with(with(with(base, "Active", active), "Spare", spare), "Meta", meta)
				checks(t, "Limit at the sum", with(c, "Limit", sum), api.OK)
				checks(t, "Limit below the sum", with(c, "Limit", sum-1), api.ErrArg)
				checks(t, "Limit at MaxZones", with(c, "Limit", 64), api.OK)
				checks(t, "Limit above MaxZones", with(c, "Limit", 65), api.ErrArg)
			}
		}
	}
	checks(t, "Limit above All", with(conf.Plain(), "Limit", 8), api.OK)
	full := listed(0, 3, 1, 512, 4096, 60, 1, 3, 1, 60, 64)
	checks(t, "a sum that is MaxZones", full, api.OK)
	checks(t, "a sum that is MaxZones, Limit below", with(full, "Limit", 63), api.ErrArg)
}

// TestCheckOfRoom: Room at Cap is right, and a block more is not.
func TestCheckOfRoom(t *testing.T) {
	for _, c := range []struct {
		name string
		base api.Conf
		room int
	}{
		{"Plain", conf.Plain(), 18},
		{"units of one", with(conf.Plain(), "Unit", 1), 14},
		{"small", listed(0, 3, 1, 4096, 5, 1, 1, 3, 1, 1, 5), 5},
		{"blocks of a byte", with(with(conf.Plain(), "Block", 1), "Unit", 1), 502},
	} {
		if got := conf.Room(c.base); got != c.room {
			t.Errorf("%s: Room is %d, want %d", c.name, got, c.room)
		}
		unit := c.base.Unit
		checks(t, c.name+", Room at Cap", with(c.base, "Cap", c.room), api.OK)
		checks(t, c.name+", Room below Cap", with(c.base, "Cap", c.room+unit), api.OK)
		checks(t, c.name+", Room above Cap", with(c.base, "Cap", c.room-unit), api.ErrSpace)
		checks(t, c.name+", Room far above Cap", with(c.base, "Cap", unit), api.ErrSpace)
	}
	wide := listed(0, 3, 64, 1, 4096, 60, 1, 3, 1, 1, 64)
	checks(t, "60 zones, units of 64, blocks of a byte", wide, api.ErrSpace) // Room is 7130
	checks(t, "one zone", with(wide, "Zones", 1), api.OK)                    // Room is 522
}

// TestCheckArgAheadOfSpace: settings that lack room, and have one number that
// may not be, too.
func TestCheckArgAheadOfSpace(t *testing.T) {
	base := with(conf.Plain(), "Cap", 16)
	checks(t, "no room", base, api.ErrSpace)
	for _, c := range []struct {
		name string
		not  []int
	}{
		{"ID", []int{-1, maxID + 1}},
		{"Members", []int{2, 17}},
		{"Unit", []int{0, 3, 65}},
		{"Block", []int{0, 4097}},
		{"Cap", []int{0, 15, 17}},
		{"Zones", []int{0, 2, 61}},
		{"Spare", []int{0, 2, 59}},
		{"Meta", []int{2, 4, 61}},
		{"Open", []int{0, 4}},
		{"Active", []int{0, 1, 4}},
		{"Limit", []int{6, 65}},
	} {
		for _, n := range c.not {
			checks(t, fmt.Sprint("no room, and ", c.name, " ", n), with(base, c.name, n), api.ErrArg)
		}
	}
}

// right is Check by the document's words, one by one, at any size.
func right(c api.Conf) api.Errno {
	n := func(x int) *big.Int { return big.NewInt(int64(x)) }
	sum := func(x ...int) *big.Int {
		out := n(0)
		for _, y := range x {
			out.Add(out, n(y))
		}
		return out
	}
	switch {
	case c.ID < 0, c.ID > 1<<40,
		c.Members < 3, c.Members > 16,
		c.Unit < 1, c.Unit > 64,
		c.Block < 1, c.Block > 4096,
		c.Cap < 1, c.Cap > 4096, c.Cap%c.Unit != 0,
		c.Zones < 1, c.Spare < 1, c.Meta < 3,
		sum(c.Zones, c.Spare, c.Meta).Cmp(n(64)) > 0,
		c.Open < 1, c.Open > c.Active,
		c.Active < 1, c.Active > c.Zones,
		n(c.Limit).Cmp(sum(c.Active, c.Spare, c.Meta)) < 0, c.Limit > 64:
		return api.ErrArg
	case exact(c) > c.Cap:
		return api.ErrSpace
	}
	return api.OK
}

// expected is what follows by the document's words.
func expected(c api.Conf) follow {
	for _, name := range names[1:] {
		if n := *at(&c, name); n < 1 || n > known {
			return follow{}
		}
	}
	data, stripes := c.Members-1, c.Cap/c.Unit
	return follow{data, stripes, data * c.Unit, stripes * (data * c.Unit), c.Zones + c.Spare, c.Meta + c.Zones + c.Spare, exact(c)}
}

// TestEachTwoNumbers takes each two numbers to edges at the same time.
func TestEachTwoNumbers(t *testing.T) {
	edges := []int{
		least, -laid, -1, 0, 1, 2, 3, 4, 5, 15, 16, 17, 24, 58, 60, 61, 63, 64, 65, 4095, 4096, 4097,
		known, known + 1, maxID, maxID + 1, laid, laid + 1, greatest - 1, greatest,
	}
	var seen [18]int
	for _, base := range bases() {
		for i, one := range names {
			for _, other := range names[i+1:] {
				for _, a := range edges {
					for _, b := range edges {
						c := with(with(base, one, a), other, b)
						want := right(c)
						seen[want]++
						checks(t, one+" and "+other, c, want)
						follows(t, one+" and "+other, c, expected(c))
					}
				}
			}
		}
	}
	if seen[api.OK] == 0 || seen[api.ErrArg] == 0 || seen[api.ErrSpace] == 0 {
		t.Error("an answer never comes", seen)
	}
}

// TestWhatCheckTakes: of settings that may be, what follows is such as other
// layers lean on.
func TestWhatCheckTakes(t *testing.T) {
	for _, c := range bases() {
		f := of(c)
		if f.Data < 2 || f.Stripes*c.Unit != c.Cap || f.Size != f.Data*c.Cap || f.All > api.MaxZones || f.Room > c.Cap {
			t.Errorf("%+v: %+v", c, f)
		}
	}
}

// P7.3

func TestPut(t *testing.T) {
	same(t, "Plain", conf.Put(conf.Plain()), []byte{
		7, 0, 0, 0, 0, 0, 0, 0,
		4, 0, 0, 0, 0, 0, 0, 0,
		2, 0, 0, 0, 0, 0, 0, 0,
		64, 0, 0, 0, 0, 0, 0, 0,
		24, 0, 0, 0, 0, 0, 0, 0,
		3, 0, 0, 0, 0, 0, 0, 0,
		1, 0, 0, 0, 0, 0, 0, 0,
		3, 0, 0, 0, 0, 0, 0, 0,
		2, 0, 0, 0, 0, 0, 0, 0,
		3, 0, 0, 0, 0, 0, 0, 0,
		7, 0, 0, 0, 0, 0, 0, 0,
	})
	same(t, "nothing set", conf.Put(api.Conf{}), make([]byte, 88))
	order := listed(1, 2, 3, 4, 5, 6, 7, 8, 9, 10, 11)
	for i, n := range conf.Put(order) {
		want := 0
		if i%8 == 0 {
			want = i/8 + 1
		}
		if int(n) != want {
			t.Errorf("byte %d of numbers in their order: %d, want %d", i, n, want)
		}
	}
}

// far is numbers that are got, and numbers that are put alone.
func far() (got, not []int) {
	return []int{-laid, -laid + 1, -1, 0, 1, maxID + 1, laid - 1, laid},
		[]int{least, least + 1, -laid - 2, -laid - 1, laid + 1, laid + 2, greatest - 1, greatest}
}

// TestPutInEachPlace: whatever a number is, it is laid at its place, by
// pack.Int, and all others are as they were.
func TestPutInEachPlace(t *testing.T) {
	got, not := far()
	for _, base := range append(bases(), api.Conf{}) {
		was := conf.Put(base)
		for i, name := range names {
			for _, n := range slices.Concat(got, not) {
				want := slices.Concat(was[:8*i], pack.Int(nil, n), was[8*i+8:])
				same(t, fmt.Sprint(name, " ", n), conf.Put(with(base, name, n)), want)
			}
		}
	}
}

func TestGetInEachPlace(t *testing.T) {
	got, not := far()
	for _, base := range append(bases(), api.Conf{}) {
		was := conf.Put(base)
		for i, name := range names {
			for _, n := range got {
				b := slices.Concat(was[:8*i], pack.Int(nil, n), was[8*i+8:])
				gets(t, fmt.Sprint(name, " ", n), b, with(base, name, n), api.OK)
			}
			for _, n := range not {
				b := slices.Concat(was[:8*i], pack.Int(nil, n), was[8*i+8:])
				gets(t, fmt.Sprint(name, " ", n), b, api.Conf{}, api.ErrForm)
			}
		}
	}
}

func TestGetOfTooFew(t *testing.T) {
	gets(t, "nil", nil, api.Conf{}, api.ErrShort)
	gets(t, "nothing", []byte{}, api.Conf{}, api.ErrShort)
	for _, c := range append(bases(), api.Conf{}) {
		b := conf.Put(c)
		for n := range b {
			gets(t, fmt.Sprint(n, " bytes, and spare room"), b[:n], api.Conf{}, api.ErrShort)
			gets(t, fmt.Sprint(n, " bytes"), bytes.Clone(b[:n]), api.Conf{}, api.ErrShort)
		}
	}
}

func TestGetWithBytesBehind(t *testing.T) {
	for _, c := range append(bases(), api.Conf{}) {
		b := conf.Put(c)
		for _, more := range [][]byte{{0}, {1}, {255}, make([]byte, 7), make([]byte, 8), make([]byte, 9), b, make([]byte, 5000)} {
			gets(t, fmt.Sprint(len(more), " bytes behind"), slices.Concat(b, more), api.Conf{}, api.ErrForm)
		}
	}
}

// TestGetTellsTheFirst: a number that is too far is told, if all of it is
// there, whatever lacks, or is there, behind it; else what lacks.
func TestGetTellsTheFirst(t *testing.T) {
	for i, name := range names {
		for _, n := range []int{least, -laid - 1, laid + 1, greatest} {
			b := conf.Put(with(conf.Plain(), name, n))
			for end := range len(b) + 1 {
				want := api.ErrShort
				if end >= 8*i+8 {
					want = api.ErrForm
				}
				gets(t, fmt.Sprint(name, " ", n, ", of which ", end, " bytes are there"), b[:end], api.Conf{}, want)
			}
			gets(t, fmt.Sprint(name, " ", n, ", and a byte behind"), append(b, 0), api.Conf{}, api.ErrForm)
		}
	}
}

// TestGetOfSettingsThatMayNotBe: Get does not ask what Check asks, nor does
// Put.
func TestGetOfSettingsThatMayNotBe(t *testing.T) {
	for _, c := range []api.Conf{
		{},
		listed(-1, -2, -3, -4, -5, -6, -7, -8, -9, -10, -11),
		listed(11, 10, 9, 8, 7, 6, 5, 4, 3, 2, 1),
		listed(laid, laid, laid, laid, laid, laid, laid, laid, laid, laid, laid),
		listed(-laid, -laid, -laid, -laid, -laid, -laid, -laid, -laid, -laid, -laid, -laid),
		with(conf.Plain(), "Cap", 16),
		with(conf.Plain(), "Cap", 25),
		with(conf.Plain(), "Members", 2),
	} {
		if conf.Check(c) == api.OK {
			t.Errorf("Check takes %+v", c)
		}
		gets(t, "settings that may not be", conf.Put(c), c, api.OK)
	}
}

// P7.4

// TestRoundTrip puts, and gets, numbers that a fixed rule chooses: what is in
// the range comes back, and what is not is refused.
func TestRoundTrip(t *testing.T) {
	seed := uint64(88172645463325252)
	next := func() int {
		seed ^= seed << 13
		seed ^= seed >> 7
		seed ^= seed << 17
		return int(seed) >> (seed % 50)
	}
	in, out := 0, 0
	for range 5000 {
		var c api.Conf
		inside := true
		for _, name := range names {
			n := next()
			*at(&c, name) = n
			inside = inside && -laid <= n && n <= laid
		}
		if inside {
			in++
			gets(t, "in the range", conf.Put(c), c, api.OK)
		} else {
			out++
			gets(t, "out of the range", conf.Put(c), api.Conf{}, api.ErrForm)
		}
	}
	if in == 0 || out == 0 {
		t.Error("the rule chooses of one kind alone", in, out)
	}
	for _, c := range bases() {
		gets(t, "a base", conf.Put(c), c, api.OK)
	}
}

// TestBytesRoundTrip: what is got is put as the same bytes.
func TestBytesRoundTrip(t *testing.T) {
	b := make([]byte, 88)
	for i := range b {
		b[i] = byte(i * 37)
		if i%8 == 7 {
			b[i] %= 0x40
		}
	}
	c, e := conf.Get(b)
	if e != api.OK {
		t.Fatal(int(e))
	}
	same(t, "put again", conf.Put(c), b)
}

// Rules

// TestChangesNoSettings: settings that are handed in stay as they are.
func TestChangesNoSettings(t *testing.T) {
	for _, base := range append(bases(), api.Conf{}, with(conf.Plain(), "Cap", 16)) {
		c := base
		conf.Check(c)
		of(c)
		spoil(conf.Put(c))
		if c != base {
			t.Errorf("%+v became %+v", base, c)
		}
	}
}

// TestPutInNewMemory: a write to an answer, or to its spare room, is seen in
// no other one.
func TestPutInNewMemory(t *testing.T) {
	for _, c := range append(bases(), api.Conf{}) {
		first, second := conf.Put(c), conf.Put(c)
		want := bytes.Clone(first)
		same(t, "twice", second, want)
		spoil(first)
		same(t, "another answer", second, want)
		same(t, "a later answer", conf.Put(c), want)
	}
}

// TestGetLeavesItsBytes: what is handed in stays as it is, its spare room too,
// whatever comes of it, and nothing of it is kept.
func TestGetLeavesItsBytes(t *testing.T) {
	plain := conf.Put(conf.Plain())
	for _, n := range []int{0, 1, 80, 87, 88, 89, 100} {
		room := slices.Concat(plain, bytes.Repeat([]byte{9}, 40))
		was := bytes.Clone(room)
		first, e := conf.Get(room[:n])
		same(t, fmt.Sprint("the room of ", n, " bytes"), room, was)
		spoil(room)
		if e == api.OK && first != conf.Plain() {
			t.Errorf("an answer, when the bytes are written to: %+v", first)
		}
	}
	b := bytes.Clone(plain)
	gets(t, "ahead", b, conf.Plain(), api.OK)
	copy(b, conf.Put(roomy()))
	gets(t, "the same bytes with others in them", b, roomy(), api.OK)
	b[7] = 0x7f
	gets(t, "an error", b, api.Conf{}, api.ErrForm)
	gets(t, "behind an error", plain, conf.Plain(), api.OK)
}

// TestPlainIsNewEachTime: an answer that is changed changes no later one.
func TestPlainIsNewEachTime(t *testing.T) {
	c := conf.Plain()
	was := c
	for _, name := range names {
		*at(&c, name) = -1
	}
	if conf.Plain() != was {
		t.Errorf("Plain, asked again: %+v", conf.Plain())
	}
}

// TestFromArgumentsAlone: what is asked ahead of a call turns nothing in it.
func TestFromArgumentsAlone(t *testing.T) {
	for range 2 {
		for _, c := range append(bases(), api.Conf{}) {
			e, f, b := conf.Check(c), of(c), conf.Put(c)
			for _, other := range bases() {
				conf.Check(other)
				of(other)
				conf.Get(conf.Put(other)[:50])
			}
			checks(t, "asked again", c, e)
			follows(t, "asked again", c, f)
			same(t, "asked again", conf.Put(c), b)
		}
	}
}
