package tests

import (
	"cmp"
	"math/rand"
	"slices"
	"testing"

	"loop.example/g00222/impl"
)

// flowAt is a flow to a vip.
func flowAt(vip impl.Vip, from, fromP int64) impl.Flow {
	return impl.Flow{From: from, To: vip.Address, Proto: vip.Proto, FromP: fromP, ToP: vip.Port}
}

// dataOf is a packet of a flow, with so many bytes to carry.
func dataOf(f impl.Flow, load int) []byte {
	return wantPacket(flowPacket(f, load))
}

func heldOf(f impl.Flow, name, seen int64) impl.Held {
	return impl.Held{Flow: f, Name: name, Seen: seen}
}

// muxOf is a mux that has a configuration, with the tables of it.
func muxOf(address, now int64, c impl.Config, cache ...impl.Held) impl.Mux {
	return impl.Mux{Address: address, Now: now, Watch: readyOf(c), Tables: wantTables(c), Cache: cache}
}

// muxWith gives a copy of a mux with something turned.
func muxWith(m impl.Mux, do func(m *impl.Mux)) impl.Mux {
	m = shaped(shape{}, m)
	do(&m)
	return m
}

// plainMux remembers flows to who is drained, on, down, and without a weight.
func plainMux() impl.Mux {
	c := plainConfig()
	web, safe := c.Vips[0], c.Vips[2]
	return muxOf(600, 100, c, heldOf(flowAt(web, 5, 1000), 5, 80), heldOf(flowAt(safe, 5, 1000), 3, 99),
		heldOf(flowAt(web, 6, 1000), 40, 85), heldOf(flowAt(web, 5, 1001), 8, 100))
}

// fullMux has all numbers at their greatest and as many flows as there may be. Nobody takes a new one: who is up and on has no weight.
func fullMux() impl.Mux {
	c := fullConfig()
	m := muxOf(farthest, 1000000000, c)
	for i, name := range []int64{1, 2, 500, 996, 998, 999, 1, 2} {
		m.Cache = append(m.Cache, heldOf(flowAt(c.Vips[i%2*3], farthest, 65535-int64(i)), name, 1000000000-int64(i*20/7)))
	}
	return m
}

// liveConfig has several who take new flows of its first vip, one who does of its second one, and nobody who does of its third one.
func liveConfig() impl.Config {
	return impl.Config{
		Version: 30,
		Backends: []impl.Backend{
			backendOf(3, 500, 2, impl.StageOn, true), backendOf(8, 0, 4, impl.StageOn, true), backendOf(20, farthest, 1, impl.StageOn, true),
			backendOf(40, 800, 9, impl.StageOn, false), backendOf(77, 900, 9, impl.StageDrain, true), backendOf(99, 950, 9, impl.StageOff, true),
		},
		Vips: []impl.Vip{vipOf(9, 80, 6, 3, 8, 20, 40, 77, 99), vipOf(9, 80, 17, 8), vipOf(9, 443, 6, 40, 77)},
	}
}

// liveFlow is a flow to the first vip of the live configuration, told by its port.
func liveFlow(fromP int64) impl.Flow {
	return flowAt(liveConfig().Vips[0], 5, fromP)
}

// heldFlows are so many flows to the first vip of the live configuration, one more tick seen each.
func heldFlows(count int, seen int64) []impl.Held {
	var list []impl.Held
	for i := range count {
		list = append(list, heldOf(liveFlow(int64(i)), []int64{3, 8, 20, 40, 77}[i%5], seen+int64(i)))
	}
	return list
}

// someServing gives a flow to a vip and a name that serves it, if there are such.
func someServing(random *rand.Rand, c impl.Config) (impl.Flow, int64, bool) {
	if len(c.Vips) == 0 {
		return impl.Flow{}, 0, false
	}
	vip := c.Vips[random.Intn(len(c.Vips))]
	f := flowAt(vip, someUpTo(random, farthest), random.Int63n(6))
	names := slices.DeleteFunc(slices.Clone(vip.Names), func(name int64) bool { return !wantServes(c, f, name) })
	if len(names) == 0 {
		return f, 0, false
	}
	return f, names[random.Intn(len(names))], true
}

// someMux gives a mux without a fault.
func someMux(random *rand.Rand) impl.Mux {
	address, now := someUpTo(random, farthest), someUpTo(random, 1000000000)
	if random.Intn(8) == 0 {
		return impl.Mux{Address: address, Now: now}
	}
	c := []impl.Config{someConfig(random), someConfig(random), liveConfig(), plainConfig()}[random.Intn(4)]
	m := muxOf(address, now, c)
	for range random.Intn(20) {
		f, name, serves := someServing(random, c)
		if serves && len(m.Cache) < 8 && heldAt(m.Cache, f) < 0 {
			m.Cache = append(m.Cache, heldOf(f, name, max(0, now-someUpTo(random, 20))))
		}
	}
	return m
}

// manyMuxes gives muxes without a fault: known ones, those that have nothing, the greatest one, and some of all kinds.
func manyMuxes(count int) []impl.Mux {
	random := rand.New(rand.NewSource(150))
	list := []impl.Mux{{}, {Address: farthest, Now: 1000000000}, plainMux(), fullMux(), muxOf(1, 0, impl.Config{}), muxOf(600, 27, liveConfig(), heldFlows(8, 10)...)}
	for range count {
		list = append(list, someMux(random))
	}
	return list
}

// spoilMux breaks one thing of a mux, or hits none.
func spoilMux(random *rand.Rand, m *impl.Mux) {
	wrong := func(list ...int64) int64 { return append(list, farNumbers...)[random.Intn(len(list)*3)] }
	if len(m.Cache) > 0 && random.Intn(2) == 0 {
		spoilHeld(random, m)
		return
	}
	switch random.Intn(7) {
	case 0:
		m.Address = wrong(-1, farthest+1)
	case 1:
		m.Now = wrong(-1, 1000000001, m.Now+21, m.Now-1)
	case 2:
		spoilConfig(random, &m.Watch.Config)
	case 3:
		m.Watch.Ready = !m.Watch.Ready
	case 4:
		m.Tables = append(m.Tables, tableOf(0))
	case 5:
		if len(m.Tables) > 0 {
			m.Tables = m.Tables[1:]
		}
	case 6:
		if len(m.Tables) > 0 {
			m.Tables[random.Intn(len(m.Tables))][random.Intn(31)]++
		}
	}
}

func spoilHeld(random *rand.Rand, m *impl.Mux) {
	wrong := func(list ...int64) int64 { return append(list, farNumbers...)[random.Intn(len(list)*3)] }
	held := &m.Cache[random.Intn(len(m.Cache))]
	fields := []*int64{&held.Flow.From, &held.Flow.To, &held.Flow.Proto, &held.Flow.FromP, &held.Flow.ToP}
	switch random.Intn(7) {
	case 0:
		*fields[random.Intn(5)] = wrong(-1, farthest+1, 65536)
	case 1:
		*fields[1+random.Intn(4)] = wrong(6, 17, 9, 80, 443)
	case 2:
		held.Name = wrong(0, 1, 3, 77, 99, 1000)
	case 3:
		held.Seen = wrong(-1, m.Now+1)
	case 4:
		*held = m.Cache[random.Intn(len(m.Cache))]
	case 5:
		m.Cache = slices.Concat(m.Cache, m.Cache, m.Cache)
	case 6:
		held.Seen = max(0, m.Now-21-random.Int63n(2))
	}
}

// manyBadMuxes gives muxes of which nearly all have one fault or several.
func manyBadMuxes(count int) []impl.Mux {
	random := rand.New(rand.NewSource(151))
	var list []impl.Mux
	for i := range count {
		m := shaped(shape{}, []impl.Mux{plainMux(), fullMux(), someMux(random)}[i%3])
		for range 1 + i%4 {
			spoilMux(random, &m)
		}
		list = append(list, m)
	}
	return list
}

// someData gives bytes that come to a mux: of a flow that it has, of a new one, of one to nobody, or bytes that are none of these.
func someData(random *rand.Rand, m impl.Mux) []byte {
	f, _, _ := someServing(random, m.Watch.Config)
	if len(m.Cache) > 0 && random.Intn(2) == 0 {
		f = m.Cache[random.Intn(len(m.Cache))].Flow
	}
	if f == (impl.Flow{}) || random.Intn(8) == 0 {
		f = flowOfFields(somePacket(random))
	}
	data := dataOf(f, int(someUpTo(random, 200)))
	switch random.Intn(10) {
	case 0:
		return damagedBytes(random, data)
	case 1:
		// Any hops, any kind of service and any number are a packet's all the same.
		return turned(data, []int{1, 4, 5, 8}[random.Intn(4)], byte(random.Intn(256)))
	}
	return data
}

// someMuxUpdate gives an update that a mux may well take.
func someMuxUpdate(random *rand.Rand, m impl.Mux) impl.Update {
	c := m.Watch.Config
	if !m.Watch.Ready || random.Intn(5) == 0 {
		next := someConfig(random)
		return wholeOf(atVersion(next, min(1000000, c.Version+random.Int63n(4))))
	}
	var list []impl.Cmd
	last := c
	for range random.Intn(12) {
		x := someCmd(random, last)
		if code, next := wantApply(last, x); code == impl.OK {
			list, last = append(list, x), next
		}
	}
	return stepsOf(c.Version, otherCmds(random, list)...)
}

func heldAt(cache []impl.Held, f impl.Flow) int {
	return slices.IndexFunc(cache, func(h impl.Held) bool { return h.Flow == f })
}

// wantServes asks by what a vip is told by, and not by its place.
func wantServes(c impl.Config, f impl.Flow, name int64) bool {
	m := modelOf(c)
	return m.vips[served{f.To, f.ToP, f.Proto}][name] && m.backends[name].Stage < impl.StageOff
}

// wantTables asks the backends in their order, and not the names, who gets a share.
func wantTables(c impl.Config) [][]int64 {
	var tables [][]int64
	for _, vip := range c.Vips {
		var shares []impl.Share
		for _, b := range c.Backends {
			if b.Up && b.Stage == impl.StageOn && slices.Contains(vip.Names, b.Name) {
				shares = append(shares, impl.Share{Name: b.Name, Weight: b.Weight})
			}
		}
		tables = append(tables, wantTable(shares))
	}
	return tables
}

func wrongFlow(f impl.Flow) bool {
	return outside(f.From, 0, farthest) || outside(f.To, 0, farthest) || f.Proto != 6 && f.Proto != 17 || outside(f.FromP, 0, 65535) || outside(f.ToP, 0, 65535)
}

// wantMuxFault names all codes in their order, and takes the first that is so.
func wantMuxFault(m impl.Mux) int64 {
	first := cmp.Or(told(outside(m.Address, 0, farthest) || outside(m.Now, 0, 1000000000), impl.ErrRange), wantWatchFault(m.Watch))
	if first != impl.OK {
		return first
	}
	codes := []int64{told(!slices.EqualFunc(m.Tables, wantTables(m.Watch.Config), slices.Equal), impl.ErrForm), told(len(m.Cache) > 8, impl.ErrMany)}
	known := map[impl.Flow]bool{}
	for _, h := range m.Cache {
		codes = append(codes, told(wrongFlow(h.Flow) || outside(h.Seen, 0, m.Now), impl.ErrRange),
			told(!wantServes(m.Watch.Config, h.Flow, h.Name), impl.ErrNone), told(h.Seen+20 < m.Now, impl.ErrOld), told(known[h.Flow], impl.ErrTaken))
		known[h.Flow] = true
	}
	return cmp.Or(codes...)
}

// wantInstalled makes a new mux of what is installed then, and takes over what stays.
func wantInstalled(m impl.Mux, u impl.Update) impl.MuxResult {
	if code := wantMuxFault(m); code != impl.OK {
		return impl.MuxResult{Code: code}
	}
	watch := wantWatch(m.Watch, u)
	if watch.Code != impl.OK {
		return impl.MuxResult{Code: watch.Code}
	}
	next := muxOf(m.Address, m.Now, watch.Watch.Config)
	for _, h := range m.Cache {
		if wantServes(next.Watch.Config, h.Flow, h.Name) {
			next.Cache = append(next.Cache, h)
		}
	}
	return impl.MuxResult{Mux: next}
}

// wantTicked asks until when each is remembered.
func wantTicked(m impl.Mux, n int64) impl.MuxResult {
	if code := wantMuxFault(m); code != impl.OK {
		return impl.MuxResult{Code: code}
	}
	if outside(n, 0, 1000000) || outside(m.Now+n, 0, 1000000000) {
		return impl.MuxResult{Code: impl.ErrRange}
	}
	next := m
	next.Now, next.Cache = m.Now+n, nil
	for _, h := range m.Cache {
		if until := h.Seen + 20; until >= next.Now {
			next.Cache = append(next.Cache, h)
		}
	}
	return impl.MuxResult{Mux: next}
}

// wantForwarded takes the name of the table, and another one where the flow is found while the others are put aside.
func wantForwarded(m impl.Mux, data []byte) impl.MuxResult {
	if code := wantMuxFault(m); code != impl.OK {
		return impl.MuxResult{Code: code}
	}
	code, p := wantParsed(data)
	f := flowOfFields(p)
	place := slices.IndexFunc(m.Watch.Config.Vips, func(v impl.Vip) bool { return v.Address == f.To && v.Port == f.ToP && v.Proto == f.Proto })
	if why := cmp.Or(told(!m.Watch.Ready, impl.ErrState), code, told(place < 0, impl.ErrNone)); why != impl.OK {
		return impl.MuxResult{Why: why, Mux: m}
	}
	name, others := m.Tables[place][wantHash(f)%31], []impl.Held(nil)
	for _, h := range m.Cache {
		if h.Flow == f {
			name = h.Name
		} else {
			others = append(others, h)
		}
	}
	if name == 0 {
		return impl.MuxResult{Why: impl.ErrBusy, Mux: m}
	}
	next := m
	next.Cache = append(others[max(len(others), 7)-7:], heldOf(f, name, m.Now))
	return impl.MuxResult{Name: name, Out: wantGre(m.Address, modelOf(m.Watch.Config).backends[name].Address, data), Mux: next}
}

func wantHeld(m impl.Mux, f impl.Flow) impl.IntResult {
	place := heldAt(m.Cache, f)
	if code := cmp.Or(wantMuxFault(m), told(wrongFlow(f), impl.ErrRange), told(place < 0, impl.ErrNone)); code != impl.OK {
		return impl.IntResult{Code: code}
	}
	return impl.IntResult{Value: m.Cache[place].Name}
}

func mustMux(t *testing.T, m impl.Mux, want int64) {
	t.Helper()
	if code := impl.MuxFault(m); code != want {
		t.Errorf("the fault of the mux %s is %d, not %d", short(m), code, want)
	}
}

// mustMakeMux wants a mux as the answer and nothing else, and that there is no fault in it.
func mustMakeMux(t *testing.T, got impl.MuxResult, want impl.Mux) impl.Mux {
	t.Helper()
	mustGive(t, got, impl.MuxResult{Mux: want})
	mustMux(t, got.Mux, impl.OK)
	return got.Mux
}

// mustNotMakeMux wants a code and nothing else.
func mustNotMakeMux(t *testing.T, got impl.MuxResult, code int64) {
	t.Helper()
	mustGive(t, got, impl.MuxResult{Code: code})
}

func TestMuxHelpersAgreeWithEachOther(t *testing.T) {
	random := rand.New(rand.NewSource(152))
	whys, installed := map[int64]int{}, map[int64]int{}
	remembered, full := 0, 0
	for _, m := range manyMuxes(1500) {
		if wantMuxFault(m) != impl.OK {
			t.Fatalf("%s is not without a fault", short(m))
		}
		full += len(m.Cache) / 8
		for range 6 {
			done := wantForwarded(m, someData(random, m))
			whys[done.Why]++
			if done.Why == impl.OK && len(done.Mux.Cache) == len(m.Cache) && len(m.Cache) < 8 {
				remembered++
			}
			updated := wantInstalled(m, someMuxUpdate(random, m))
			installed[updated.Code]++
			if wantMuxFault(done.Mux) != impl.OK || wantMuxFault(updated.Mux) != impl.OK {
				t.Fatalf("what is made of %s is not without a fault", short(m))
			}
		}
	}
	mustMeet(t, whys, 60, impl.OK, impl.ErrState, impl.ErrText, impl.ErrSum, impl.ErrNone, impl.ErrBusy)
	mustMeet(t, installed, 60, impl.OK, impl.ErrOld, impl.ErrNone)
	if remembered < 1000 || full < 20 {
		t.Errorf("%d flows were remembered, and %d caches are full", remembered, full)
	}
	codes := map[int64]int{}
	for _, m := range manyBadMuxes(4000) {
		codes[wantMuxFault(m)]++
	}
	mustMeet(t, codes, 60, impl.ErrForm, impl.ErrMany, impl.ErrRange, impl.ErrNone, impl.ErrOld, impl.ErrTaken)
}
