package tests

import (
	"cmp"
	"maps"
	"math/rand"
	"slices"
	"testing"

	"loop.example/g00222/impl"
)

// served is what vips are told apart by.
type served struct{ address, port, proto int64 }

// modelConfig is a configuration without an order: who there is, and who serves what.
type modelConfig struct {
	version  int64
	backends map[int64]impl.Backend
	vips     map[served]map[int64]bool
}

func modelOf(c impl.Config) modelConfig {
	m := modelConfig{c.Version, map[int64]impl.Backend{}, map[served]map[int64]bool{}}
	for _, backend := range c.Backends {
		m.backends[backend.Name] = backend
	}
	for _, vip := range c.Vips {
		names := map[int64]bool{}
		for _, name := range vip.Names {
			names[name] = true
		}
		m.vips[served{vip.Address, vip.Port, vip.Proto}] = names
	}
	return m
}

// config puts a model back in order.
func (m modelConfig) config() impl.Config {
	c := impl.Config{Version: m.version}
	for _, name := range slices.Sorted(maps.Keys(m.backends)) {
		c.Backends = append(c.Backends, m.backends[name])
	}
	rising := slices.SortedFunc(maps.Keys(m.vips), func(a, b served) int {
		// Two ports and two protocols lie less far apart than this.
		const far = 1 << 20
		return cmp.Compare(a.address*far*2+a.port*20+a.proto, b.address*far*2+b.port*20+b.proto)
	})
	for _, at := range rising {
		names := slices.Sorted(maps.Keys(m.vips[at]))
		c.Vips = append(c.Vips, impl.Vip{Address: at.address, Port: at.port, Proto: at.proto, Names: names})
	}
	return c
}

// cloneConfig copies all lists of a configuration.
func cloneConfig(c impl.Config) impl.Config {
	c.Backends, c.Vips = slices.Clone(c.Backends), slices.Clone(c.Vips)
	for i := range c.Vips {
		c.Vips[i].Names = slices.Clone(c.Vips[i].Names)
	}
	return c
}

// alikeConfigs holds configurations against each other by their parts; nil and empty are the same.
func alikeConfigs(a, b impl.Config) bool {
	if a.Version != b.Version || len(a.Backends) != len(b.Backends) || len(a.Vips) != len(b.Vips) {
		return false
	}
	for i := range a.Backends {
		if a.Backends[i] != b.Backends[i] {
			return false
		}
	}
	for i, vip := range a.Vips {
		other := b.Vips[i]
		if vip.Address != other.Address || vip.Port != other.Port || vip.Proto != other.Proto || len(vip.Names) != len(other.Names) {
			return false
		}
		for k := range vip.Names {
			if vip.Names[k] != other.Names[k] {
				return false
			}
		}
	}
	return true
}

func backendOf(name, address, weight, stage int64, up bool) impl.Backend {
	return impl.Backend{Name: name, Address: address, Weight: weight, Stage: stage, Up: up}
}

func vipOf(address, port, proto int64, names ...int64) impl.Vip {
	return impl.Vip{Address: address, Port: port, Proto: proto, Names: names}
}

// plainConfig has backends of each stage, up and down, and vips with and without names.
func plainConfig() impl.Config {
	return impl.Config{
		Version: 12,
		Backends: []impl.Backend{
			backendOf(3, 500, 2, impl.StageOn, true), backendOf(5, 600, 9, impl.StageDrain, true), backendOf(8, 700, 0, impl.StageOn, true),
			backendOf(40, 800, 4, impl.StageOn, false), backendOf(77, 900, 1, impl.StageOff, true), backendOf(999, 1000, 3, impl.StageOff, false),
		},
		Vips: []impl.Vip{vipOf(9, 80, 6, 3, 5, 8, 40, 77), vipOf(9, 80, 17), vipOf(9, 443, 6, 3, 999)},
	}
}

// fullConfig has as many backends and vips as there may be, and all fields at their least or their greatest.
func fullConfig() impl.Config {
	c := impl.Config{Version: 1000000}
	for i, name := range []int64{1, 2, 3, 500, 996, 997, 998, 999} {
		c.Backends = append(c.Backends, backendOf(name, int64(i%2)*farthest, int64(i%2)*9, 1+int64(i%3), i%2 == 0))
	}
	all := []int64{1, 2, 3, 500, 996, 997, 998, 999}
	c.Vips = []impl.Vip{
		vipOf(0, 0, 6, all...), vipOf(0, 0, 17, 1, 999), vipOf(farthest, 65535, 6), vipOf(farthest, 65535, 17, slices.Clone(all)...),
	}
	return c
}

// someName gives a name, often one that a configuration has.
func someName(random *rand.Rand, c impl.Config) int64 {
	if len(c.Backends) > 0 && random.Intn(4) > 0 {
		return c.Backends[random.Intn(len(c.Backends))].Name
	}
	return []int64{1, 2, 3, 5, 8, 40, 77, 500, 997, 998, 999, 1 + random.Int63n(999)}[random.Intn(12)]
}

// someServed gives what a vip may be told by, often what one of a configuration is, or what is near it.
func someServed(random *rand.Rand, c impl.Config) served {
	at := served{[]int64{0, 9, farthest}[random.Intn(3)], []int64{0, 80, 65535}[random.Intn(3)], []int64{6, 17}[random.Intn(2)]}
	if len(c.Vips) > 0 && random.Intn(4) > 0 {
		vip := c.Vips[random.Intn(len(c.Vips))]
		at = served{vip.Address, vip.Port, vip.Proto}
		if random.Intn(6) == 0 {
			at.proto = 23 - at.proto
		}
	}
	return at
}

// someConfig gives a configuration without a fault.
func someConfig(random *rand.Rand) impl.Config {
	versions := []int64{0, 1, 999999, 1000000, random.Int63n(1000001)}
	m := modelConfig{versions[random.Intn(5)], map[int64]impl.Backend{}, map[served]map[int64]bool{}}
	for range random.Intn(12) {
		name := someName(random, impl.Config{})
		if len(m.backends) < 8 {
			m.backends[name] = backendOf(name, someUpTo(random, farthest), someUpTo(random, 9), 1+random.Int63n(3), random.Intn(2) == 0)
		}
	}
	for range random.Intn(6) {
		names := map[int64]bool{}
		for name := range m.backends {
			if random.Intn(2) == 0 {
				names[name] = true
			}
		}
		if len(m.vips) < 4 {
			m.vips[someServed(random, impl.Config{})] = names
		}
	}
	return m.config()
}

// manyConfigs gives configurations without a fault: known ones, the least and the greatest, and some of all kinds.
func manyConfigs(count int) []impl.Config {
	random := rand.New(rand.NewSource(5))
	list := []impl.Config{{}, {Version: 1000000}, plainConfig(), fullConfig()}
	for range count {
		list = append(list, someConfig(random))
	}
	return list
}

// spoilConfig breaks one thing of a configuration, or hits none.
func spoilConfig(random *rand.Rand, c *impl.Config) {
	wrong := func(list ...int64) int64 { return append(list, farNumbers...)[random.Intn(len(list)*3)] }
	if len(c.Backends) > 0 && random.Intn(2) == 0 {
		backend := &c.Backends[random.Intn(len(c.Backends))]
		switch random.Intn(6) {
		case 0:
			backend.Name = wrong(0, 1000)
		case 1:
			backend.Address = wrong(-1, farthest+1)
		case 2:
			backend.Weight = wrong(-1, 10)
		case 3:
			backend.Stage = wrong(0, 4)
		case 4:
			backend.Name = someName(random, *c)
		case 5:
			c.Backends = append(c.Backends, c.Backends...)
		}
		return
	}
	if len(c.Vips) > 0 && random.Intn(6) > 0 {
		vip := &c.Vips[random.Intn(len(c.Vips))]
		switch random.Intn(6) {
		case 0:
			vip.Address = wrong(-1, farthest+1)
		case 1:
			vip.Port = wrong(-1, 65536)
		case 2:
			vip.Proto = wrong(0, 5, 7, 16, 18, 47)
		case 3:
			vip.Names = append(vip.Names, someName(random, *c), wrong(0, 1000, someName(random, *c)))
		case 4:
			slices.Reverse(vip.Names)
		case 5:
			c.Vips = append(c.Vips, c.Vips[random.Intn(len(c.Vips))])
		}
		return
	}
	if random.Intn(3) == 0 {
		c.Version = wrong(-1, 1000001)
	} else {
		c.Vips = append(c.Vips, c.Vips...)
	}
}

// manyBadConfigs gives configurations of which nearly all have one fault or several.
func manyBadConfigs(count int) []impl.Config {
	random := rand.New(rand.NewSource(55))
	var list []impl.Config
	for i := range count {
		c := cloneConfig([]impl.Config{plainConfig(), fullConfig(), someConfig(random)}[i%3])
		for range 1 + i%4 {
			spoilConfig(random, &c)
		}
		list = append(list, c)
	}
	return list
}

// configRank tells where a code stands in the order in which they are asked.
type configRank struct{ part, element, step int }

// wantConfigFault gathers all faults that there are, and takes the one that stands first.
func wantConfigFault(c impl.Config) int64 {
	found := map[configRank]int64{}
	note := func(so bool, part, element, step int, code int64) {
		if so {
			found[configRank{part, element, step}] = code
		}
	}
	off := func(n, least, most int64) bool { return n < least || n > most }
	note(off(c.Version, 0, 1000000), 0, 0, 0, impl.ErrRange)
	note(len(c.Backends) > 8 || len(c.Vips) > 4, 1, 0, 0, impl.ErrMany)
	known := map[int64]bool{}
	for i, b := range c.Backends {
		known[b.Name] = true
		bad := off(b.Name, 1, 999) || off(b.Address, 0, farthest) || off(b.Weight, 0, 9) || off(b.Stage, 1, 3)
		note(bad, 2, i, 0, impl.ErrRange)
		note(i > 0 && c.Backends[max(i, 1)-1].Name >= b.Name, 2, i, 1, impl.ErrForm)
	}
	for i, v := range c.Vips {
		note(off(v.Address, 0, farthest) || off(v.Port, 0, 65535) || v.Proto != 6 && v.Proto != 17, 3, i, 0, impl.ErrRange)
		if i > 0 {
			ahead := c.Vips[i-1]
			note(slices.Compare([]int64{ahead.Address, ahead.Port, ahead.Proto}, []int64{v.Address, v.Port, v.Proto}) >= 0, 3, i, 1, impl.ErrForm)
		}
		note(slices.ContainsFunc(v.Names, func(name int64) bool { return !known[name] }), 3, i, 2, impl.ErrNone)
		note(!slices.Equal(v.Names, slices.Compact(slices.Sorted(slices.Values(v.Names)))), 3, i, 3, impl.ErrForm)
	}
	ranks := slices.SortedFunc(maps.Keys(found), func(a, b configRank) int {
		return slices.Compare([]int{a.part, a.element, a.step}, []int{b.part, b.element, b.step})
	})
	if len(ranks) == 0 {
		return impl.OK
	}
	return found[ranks[0]]
}

func TestConfigHelpersAgreeWithEachOther(t *testing.T) {
	for _, c := range manyConfigs(300) {
		if wantConfigFault(c) != impl.OK || !alikeConfigs(modelOf(c).config(), c) || !alikeConfigs(cloneConfig(c), c) {
			t.Fatalf("%v is not without a fault", c)
		}
	}
	codes := map[int64]int{}
	for _, c := range manyBadConfigs(4000) {
		codes[wantConfigFault(c)]++
	}
	for _, code := range []int64{impl.ErrForm, impl.ErrMany, impl.ErrRange, impl.ErrNone} {
		if codes[code] < 100 {
			t.Errorf("the faults are %v", codes)
		}
	}
}
