package tests

import (
	"slices"
	"testing"

	"loop.example/g00222/impl"
)

func TestMuxFaultOfWhatHasNone(t *testing.T) {
	for _, m := range manyMuxes(2000) {
		mustMux(t, m, impl.OK)
	}
	// An empty list is none.
	mustMux(t, impl.Mux{Tables: [][]int64{}, Cache: []impl.Held{}}, impl.OK)
	mustMux(t, impl.Mux{Watch: impl.Watch{Ready: true}, Tables: [][]int64{}, Cache: []impl.Held{}}, impl.OK)
	// The flow that was longest not touched need not be the one that was longest not seen.
	mustMux(t, muxWith(plainMux(), func(m *impl.Mux) { slices.Reverse(m.Cache) }), impl.OK)
}

func TestNewMuxHasNothing(t *testing.T) {
	for _, address := range []int64{0, 1, 600, farthest - 1, farthest} {
		mustMakeMux(t, impl.NewMux(address), impl.Mux{Address: address})
	}
	for _, address := range append([]int64{-1, farthest + 1}, farNumbers...) {
		mustNotMakeMux(t, impl.NewMux(address), impl.ErrRange)
	}
}

func TestMuxFaultOfTheAddressAndTheTick(t *testing.T) {
	for _, m := range []impl.Mux{{}, muxOf(0, 0, liveConfig())} {
		for _, address := range []int64{0, 1, farthest - 1, farthest} {
			m.Address = address
			for _, m.Now = range []int64{0, 1, 999999999, 1000000000} {
				mustMux(t, m, impl.OK)
			}
			for _, m.Now = range append([]int64{-1, 1000000001}, farNumbers...) {
				mustMux(t, m, impl.ErrRange)
			}
		}
		m.Now = 0
		for _, m.Address = range append([]int64{-1, farthest + 1}, farNumbers...) {
			mustMux(t, m, impl.ErrRange)
		}
	}
}

func TestMuxFaultOfTheWatch(t *testing.T) {
	for _, c := range manyBadConfigs(2000) {
		if want := wantConfigFault(c); want != impl.OK {
			mustMux(t, impl.Mux{Watch: readyOf(c)}, want)
			mustMux(t, impl.Mux{Watch: impl.Watch{Config: c}}, want)
			mustMux(t, muxWith(plainMux(), func(m *impl.Mux) { m.Watch.Config = c }), want)
		}
	}
	// It is not ready, and has something.
	mustMux(t, muxWith(plainMux(), func(m *impl.Mux) { m.Watch.Ready = false }), impl.ErrForm)
	mustMux(t, impl.Mux{Watch: impl.Watch{Config: impl.Config{Version: 1}}}, impl.ErrForm)
	// It is not ready, or has no vip, so that there is none for what it remembers.
	for _, ready := range []bool{false, true} {
		m := impl.Mux{Watch: impl.Watch{Ready: ready}, Now: 5}
		mustMux(t, m, impl.OK)
		mustMux(t, muxWith(m, func(m *impl.Mux) { m.Cache = heldFlows(1, 5) }), impl.ErrNone)
		mustMux(t, muxWith(m, func(m *impl.Mux) { m.Tables = [][]int64{nil} }), impl.ErrForm)
		mustMux(t, muxWith(m, func(m *impl.Mux) { m.Tables = [][]int64{tableOf(0)} }), impl.ErrForm)
	}
}

func TestMuxFaultOfTables(t *testing.T) {
	for _, c := range []impl.Config{liveConfig(), plainConfig(), fullConfig()} {
		m := muxOf(600, 100, c)
		last := len(m.Tables) - 1
		turned := func(do func(m *impl.Mux)) {
			t.Helper()
			mustMux(t, muxWith(m, do), impl.ErrForm)
		}
		turned(func(m *impl.Mux) { m.Tables = nil })
		turned(func(m *impl.Mux) { m.Tables = m.Tables[:last] })
		turned(func(m *impl.Mux) { m.Tables = m.Tables[1:] })
		turned(func(m *impl.Mux) { m.Tables = append(m.Tables, m.Tables[last]) })
		turned(func(m *impl.Mux) { m.Tables = append(m.Tables, tableOf(0)) })
		turned(func(m *impl.Mux) { m.Tables = append(m.Tables, nil) })
		for place := range m.Tables {
			turned(func(m *impl.Mux) { m.Tables[place] = nil })
			turned(func(m *impl.Mux) { m.Tables[place] = []int64{} })
			turned(func(m *impl.Mux) { m.Tables[place] = m.Tables[place][:30] })
			turned(func(m *impl.Mux) { m.Tables[place] = append(m.Tables[place], 0) })
			turned(func(m *impl.Mux) { m.Tables[place] = append(m.Tables[place], m.Tables[place]...) })
			for at := range 31 {
				turned(func(m *impl.Mux) { m.Tables[place][at]++ })
				turned(func(m *impl.Mux) { m.Tables[place][at] = -9 })
			}
		}
	}
	// Each table is that of its own vip.
	for _, pair := range [][2]int{{0, 1}, {0, 2}, {1, 2}} {
		mustMux(t, muxWith(muxOf(600, 100, liveConfig()), func(m *impl.Mux) {
			m.Tables[pair[0]], m.Tables[pair[1]] = m.Tables[pair[1]], m.Tables[pair[0]]
		}), impl.ErrForm)
		mustMux(t, muxWith(muxOf(600, 100, liveConfig()), func(m *impl.Mux) { m.Tables[pair[0]] = m.Tables[pair[1]] }), impl.ErrForm)
	}
}

func TestMuxFaultOfTablesOfWhatWas(t *testing.T) {
	// The tables go by who is up and on, and by the weights: those of a moment ago are wrong.
	for _, do := range []func(c *impl.Config){
		func(c *impl.Config) { c.Backends[0].Weight = 3 }, func(c *impl.Config) { c.Backends[1].Weight = 0 }, func(c *impl.Config) { c.Backends[0].Up = false },
		func(c *impl.Config) { c.Backends[3].Up = true }, func(c *impl.Config) { c.Backends[1].Stage = impl.StageDrain }, func(c *impl.Config) { c.Backends[2].Stage = impl.StageOff },
		func(c *impl.Config) { c.Backends[4].Stage = impl.StageOn }, func(c *impl.Config) { c.Vips[0].Names = c.Vips[0].Names[1:] },
		func(c *impl.Config) { c.Vips[1].Names = nil }, func(c *impl.Config) { c.Vips = c.Vips[1:] }, func(c *impl.Config) { c.Vips = append(c.Vips, vipOf(9, 443, 17)) },
	} {
		m := muxOf(600, 100, liveConfig())
		m.Watch.Config = cloneConfig(m.Watch.Config)
		do(&m.Watch.Config)
		mustMux(t, m, impl.ErrForm)
		m.Tables = wantTables(m.Watch.Config)
		mustMux(t, m, impl.OK)
	}
	// What turns no share turns no table.
	for _, do := range []func(c *impl.Config){
		func(c *impl.Config) { c.Version++ }, func(c *impl.Config) { c.Backends[0].Address++ }, func(c *impl.Config) { c.Backends[3].Weight = 1 },
		func(c *impl.Config) { c.Backends[4].Stage = impl.StageOff }, func(c *impl.Config) { c.Backends[5].Up = false }, func(c *impl.Config) { c.Vips[2].Port = 444 },
	} {
		m := muxOf(600, 100, liveConfig())
		m.Watch.Config = cloneConfig(m.Watch.Config)
		do(&m.Watch.Config)
		mustMux(t, m, impl.OK)
	}
}

func TestMuxFaultOfHowManyAreHeld(t *testing.T) {
	for count := range 13 {
		mustMux(t, muxOf(600, 20, liveConfig(), heldFlows(count, 0)...), told(count > 8, impl.ErrMany))
		// Ahead of what they are.
		mustMux(t, muxOf(600, 20, liveConfig(), make([]impl.Held, count)...), map[bool]int64{true: impl.ErrMany, false: told(count > 0, impl.ErrRange)}[count > 8])
	}
}

func TestMuxFaultOfAFlowThatIsHeld(t *testing.T) {
	good := func(f impl.Flow) impl.Mux { return muxOf(600, 20, liveConfig(), heldOf(f, 8, 5)) }
	for _, from := range []int64{0, 1, farthest - 1, farthest} {
		for _, fromP := range []int64{0, 1, 65534, 65535} {
			mustMux(t, good(impl.Flow{From: from, To: 9, Proto: 6, FromP: fromP, ToP: 80}), impl.OK)
		}
	}
	// No flow at all.
	mustMux(t, good(impl.Flow{}), impl.ErrRange)
	for place := range 5 {
		for _, far := range append([]int64{-1, farthest + 1}, farNumbers...) {
			f := liveFlow(1)
			*[]*int64{&f.From, &f.To, &f.Proto, &f.FromP, &f.ToP}[place] = far
			mustMux(t, good(f), impl.ErrRange)
		}
	}
	for _, f := range []impl.Flow{{From: 5, To: 9, Proto: 6, FromP: 65536, ToP: 80}, {From: 5, To: 9, Proto: 6, ToP: 65536}, {From: 5, To: 9, Proto: 47, ToP: 80}} {
		mustMux(t, good(f), impl.ErrRange)
	}
	// A flow that no vip is for: of another address, another port, another protocol.
	for _, f := range []impl.Flow{{From: 9, To: 5, Proto: 6, ToP: 80}, {To: 8, Proto: 6, ToP: 80}, {To: 9, Proto: 6, ToP: 81}, {To: 9, Proto: 6, FromP: 80, ToP: 443 + 1}, {To: 9, Proto: 17, ToP: 443}} {
		mustMux(t, good(f), impl.ErrNone)
	}
	// The name serves the one vip, and not the other one.
	mustMux(t, good(impl.Flow{To: 9, Proto: 17, ToP: 80}), impl.OK)
	mustMux(t, good(impl.Flow{To: 9, Proto: 6, ToP: 443}), impl.ErrNone)
}

func TestMuxFaultOfTheNameThatAFlowWentTo(t *testing.T) {
	// On, drained and down; those that are off, or not among the names, serve nothing.
	for name := int64(-1); name <= 1001; name++ {
		serves := slices.Contains([]int64{3, 8, 20, 40, 77}, name)
		mustMux(t, muxOf(600, 20, liveConfig(), heldOf(liveFlow(1), name, 5)), told(!serves, impl.ErrNone))
	}
	for _, name := range farNumbers {
		mustMux(t, muxOf(600, 20, liveConfig(), heldOf(liveFlow(1), name, 5)), impl.ErrNone)
	}
	for _, stage := range []int64{impl.StageOn, impl.StageDrain, impl.StageOff} {
		for _, up := range []bool{false, true} {
			for weight := range int64(10) {
				c := impl.Config{Backends: []impl.Backend{backendOf(6, 1, 1, impl.StageOn, true), backendOf(7, 1, weight, stage, up)}, Vips: []impl.Vip{vipOf(1, 1, 6, 7)}}
				mustMux(t, muxOf(600, 0, c, heldOf(flowAt(c.Vips[0], 5, 5), 7, 0)), told(stage == impl.StageOff, impl.ErrNone))
				// Who serves nothing may be as well as can be.
				mustMux(t, muxOf(600, 0, c, heldOf(flowAt(c.Vips[0], 5, 5), 6, 0)), impl.ErrNone)
			}
		}
	}
}

func TestMuxFaultOfWhenAFlowWasSeen(t *testing.T) {
	for _, now := range []int64{0, 1, 19, 20, 21, 22, 500, 999999999, 1000000000} {
		mux := func(seen int64) impl.Mux { return muxOf(600, now, liveConfig(), heldOf(liveFlow(1), 3, seen)) }
		for back := range int64(30) {
			want := told(back > 20, impl.ErrOld)
			if back > now {
				want = impl.ErrRange
			}
			mustMux(t, mux(now-back), want)
		}
		for _, seen := range append([]int64{-1, now + 1, now + 2, 1000000001}, farNumbers...) {
			mustMux(t, mux(seen), impl.ErrRange)
		}
		mustMux(t, mux(0), told(now > 20, impl.ErrOld))
	}
}

func TestMuxFaultOfAFlowThatIsHeldTwice(t *testing.T) {
	for second := range 8 {
		for first := range second {
			m := muxOf(600, 27, liveConfig(), heldFlows(8, 10)...)
			m.Cache[second].Flow = m.Cache[first].Flow
			mustMux(t, m, impl.ErrTaken)
			m.Cache[second] = m.Cache[first]
			mustMux(t, m, impl.ErrTaken)
		}
	}
	// Flows that have all but one number alike are two.
	f := liveFlow(80)
	others := []impl.Flow{f, f, f, f, f}
	others[0].From, others[1].FromP, others[2].Proto, others[3].ToP = 6, 81, 17, 443
	m := muxOf(600, 27, liveConfig(), heldOf(f, 8, 10), heldOf(others[0], 8, 10), heldOf(others[1], 8, 10), heldOf(others[2], 8, 10), heldOf(others[3], 40, 10))
	mustMux(t, m, impl.OK)
	mustMux(t, muxWith(m, func(m *impl.Mux) { m.Cache = append(m.Cache, heldOf(others[4], 3, 27)) }), impl.ErrTaken)
}

// heldFaults are the faults of one of the plain mux's cache, in the order of the chapter.
func heldFaults(at int) [][]broken[impl.Mux] {
	turned := func(code int64, list ...func(h *impl.Held)) []broken[impl.Mux] {
		var all []broken[impl.Mux]
		for _, do := range list {
			all = append(all, breaks(code, func(m *impl.Mux) {
				if at < len(m.Cache) {
					do(&m.Cache[at])
				}
			})...)
		}
		return all
	}
	stages := [][]broken[impl.Mux]{
		turned(impl.ErrRange, func(h *impl.Held) { h.Flow.From = -1 }, func(h *impl.Held) { h.Flow.Proto = 47 }, func(h *impl.Held) { *h = impl.Held{} },
			func(h *impl.Held) { h.Seen = 101 }, func(h *impl.Held) { h.Seen = -1 }, func(h *impl.Held) { h.Seen = 1<<63 - 1 }, func(h *impl.Held) { h.Seen = -1 << 63 }),
		turned(impl.ErrNone, func(h *impl.Held) { h.Flow.To = 8 }, func(h *impl.Held) { h.Flow.ToP = 79 }, func(h *impl.Held) { h.Name = 77 }, func(h *impl.Held) { h.Name = 999 },
			func(h *impl.Held) { h.Name = 0 }, func(h *impl.Held) { h.Name = 1 << 62 }),
		turned(impl.ErrOld, func(h *impl.Held) { h.Seen = 79 }, func(h *impl.Held) { h.Seen = 0 }),
	}
	if at > 0 {
		stages = append(stages, breaks(impl.ErrTaken, func(m *impl.Mux) {
			if at < len(m.Cache) {
				m.Cache[at] = m.Cache[0]
			}
		}))
	}
	return stages
}

// muxFaults are the faults of the plain mux, in the order of the chapter; those of the cache one by one.
func muxFaults() [][]broken[impl.Mux] {
	someBad := manyBadConfigs(40)[7]
	stages := [][]broken[impl.Mux]{
		breaks(impl.ErrRange, func(m *impl.Mux) { m.Address = -1 }, func(m *impl.Mux) { m.Address = farthest + 1 }, func(m *impl.Mux) { m.Now = -1 }, func(m *impl.Mux) { m.Now = 1000000001 }),
		breaks(wantConfigFault(someBad), func(m *impl.Mux) { m.Watch.Config = someBad }, func(m *impl.Mux) { m.Watch = impl.Watch{Config: someBad} }),
		breaks(impl.ErrForm, func(m *impl.Mux) { m.Watch.Ready = false }, func(m *impl.Mux) { m.Watch = impl.Watch{Config: impl.Config{Version: 1}} }),
		breaks(impl.ErrForm, func(m *impl.Mux) { m.Tables = nil }, func(m *impl.Mux) { m.Tables = append(m.Tables, tableOf(0)) }, func(m *impl.Mux) { m.Tables[0][30] = 77 },
			func(m *impl.Mux) { m.Watch = readyOf(liveConfig()) }),
		breaks(impl.ErrMany, func(m *impl.Mux) { m.Cache = make([]impl.Held, 9) }, func(m *impl.Mux) { m.Cache = slices.Repeat(m.Cache, 3) }),
	}
	for at := range 4 {
		stages = append(stages, heldFaults(at)...)
	}
	return stages
}

func TestMuxFaultIsTheFirstOne(t *testing.T) {
	mustMux(t, plainMux(), impl.OK)
	stages := muxFaults()
	for place, stage := range stages {
		for _, one := range stage {
			mustMux(t, muxWith(plainMux(), one.do), one.code)
			// Whatever else is broken that is asked behind it.
			for _, other := range slices.Concat(stages[place+1:]...) {
				mustMux(t, muxWith(muxWith(plainMux(), other.do), one.do), one.code)
			}
		}
	}
}

func TestMuxFaultOfManyMuxes(t *testing.T) {
	for _, m := range manyBadMuxes(6000) {
		mustMux(t, m, wantMuxFault(m))
	}
}

func TestTheFaultOfAMuxIsAskedFirst(t *testing.T) {
	data := dataOf(flowAt(plainConfig().Vips[0], 5, 1000), 3)
	asked := 0
	check := func(m impl.Mux, want int64) {
		asked++
		for _, u := range []impl.Update{{From: -1}, wholeOf(fullConfig()), stepsOf(12, weigh(1)...)} {
			mustNotMakeMux(t, impl.InstallMux(m, u), want)
		}
		mustNotMakeMux(t, impl.ForwardMux(m, data), want)
		mustNotMakeMux(t, impl.ForwardMux(m, nil), want)
		for _, n := range []int64{-1, 0, 1, 1000001} {
			mustNotMakeMux(t, impl.TickMux(m, n), want)
		}
		mustGive(t, impl.HeldFor(m, impl.Flow{}), impl.IntResult{Code: want})
		mustGive(t, impl.HeldFor(m, flowAt(plainConfig().Vips[0], 5, 1000)), impl.IntResult{Code: want})
		mustGive(t, impl.MuxText(m), impl.TextResult{Code: want})
	}
	for _, one := range slices.Concat(muxFaults()...) {
		check(muxWith(plainMux(), one.do), one.code)
	}
	for _, m := range manyBadMuxes(1000) {
		if want := wantMuxFault(m); want != impl.OK {
			check(m, want)
		}
	}
	if asked < 500 {
		t.Errorf("only %d muxes had a fault", asked)
	}
}
