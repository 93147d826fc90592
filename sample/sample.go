// Package sample holds settings of unlike kinds, by which tests of the layers
// go. No layer calls it.
package sample

import (
	"math"

	"revetment/api"
	"revetment/conf"
)

// Listed is settings by their numbers, in the order in which api has them.
func Listed(id, members, unit, block, room, zones, spare, meta, open, active, limit int) api.Conf {
	return api.Conf{ID: id, Members: members, Unit: unit, Block: block, Cap: room, Zones: zones, Spare: spare, Meta: meta, Open: open, Active: active, Limit: limit}
}

// Small is the least settings that may be.
func Small() api.Conf { return Listed(0, 3, 1, 4096, 5, 1, 1, 3, 1, 1, 5) }

// Great is the greatest settings that may be.
func Great() api.Conf { return Listed(1<<40, 16, 64, 4096, 4096, 60, 1, 3, 60, 60, 64) }

// Good are settings that may be: with more stripes than members and fewer,
// with as many parities on each member and not.
func Good() []api.Conf {
	return []api.Conf{
		conf.Plain(),
		Small(),
		Great(),
		Listed(0, 3, 64, 4096, 4096, 60, 1, 3, 1, 1, 64),
		Listed(0, 16, 1, 4096, 4096, 60, 1, 3, 1, 1, 64),
		Listed(0, 16, 64, 4096, 192, 1, 1, 3, 1, 1, 5),
		Listed(0, 16, 1, 4096, 5, 1, 1, 3, 1, 1, 5),
		Listed(1, 5, 3, 100, 999, 10, 40, 14, 1, 10, 64),
		Listed(1, 7, 5, 512, 35, 2, 1, 3, 1, 2, 6),
		Listed(1, 3, 2, 512, 24, 2, 1, 3, 1, 2, 6),
		Listed(1, 8, 2, 512, 30, 2, 1, 3, 1, 2, 6),
	}
}

// Argued are settings that conf.Check refuses with ErrArg, though blocks could
// well be laid by most of them.
func Argued() []api.Conf {
	const least, greatest = math.MinInt, math.MaxInt
	return append(changed(
		func(c *api.Conf) { c.ID = -1 },
		func(c *api.Conf) { c.Members = 2 },
		func(c *api.Conf) { c.Members = 17 },
		func(c *api.Conf) { c.Members = 0 },
		func(c *api.Conf) { c.Members = -4 },
		func(c *api.Conf) { c.Unit = 0 },
		func(c *api.Conf) { c.Unit = -2 },
		func(c *api.Conf) { c.Unit, c.Cap = 65, 65*60 },
		func(c *api.Conf) { c.Block = 0 },
		func(c *api.Conf) { c.Block = 4097 },
		func(c *api.Conf) { c.Cap = 25 },
		func(c *api.Conf) { c.Cap = 4098 },
		func(c *api.Conf) { c.Zones = 0 },
		func(c *api.Conf) { c.Spare = 0 },
		func(c *api.Conf) { c.Meta = 2 },
		func(c *api.Conf) { c.Meta = 61 },
		func(c *api.Conf) { c.Open = 4 },
		func(c *api.Conf) { c.Active = 4 },
		func(c *api.Conf) { c.Limit = 6 },
	),
		api.Conf{},
		Listed(least, least, least, least, least, least, least, least, least, least, least),
		Listed(greatest, greatest, greatest, greatest, greatest, greatest, greatest, greatest, greatest, greatest, greatest),
	)
}

// Tight are settings that conf.Check refuses with ErrSpace.
func Tight() []api.Conf {
	return append(changed(
		func(c *api.Conf) { c.Cap = 16 },
		func(c *api.Conf) { c.Block = 1 },
	),
		Listed(0, 16, 64, 4096, 128, 1, 1, 3, 1, 1, 5),
		Listed(0, 3, 1, 4096, 4, 1, 1, 3, 1, 1, 5),
	)
}

// Refused are settings that conf.Check refuses.
func Refused() []api.Conf { return append(Argued(), Tight()...) }

// changed is Plain with each of some changes.
func changed(some ...func(*api.Conf)) []api.Conf {
	var all []api.Conf
	for _, change := range some {
		c := conf.Plain()
		change(&c)
		all = append(all, c)
	}
	return all
}
