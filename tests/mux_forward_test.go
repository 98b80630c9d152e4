package tests

import (
	"math/rand"
	"slices"
	"testing"

	"loop.example/g00222/impl"
)

// mustSend wants a packet to go to a name, and what goes out and the mux then to be as a model tells.
func mustSend(t *testing.T, m impl.Mux, data []byte, name int64) impl.Mux {
	t.Helper()
	got := impl.ForwardMux(m, data)
	want := wantForwarded(m, data)
	want.Code, want.Why, want.Name = impl.OK, impl.OK, name
	mustGive(t, got, want)
	mustMux(t, got.Mux, impl.OK)
	return got.Mux
}

// mustDrop wants a packet to go nowhere, and the mux to stay as it was.
func mustDrop(t *testing.T, m impl.Mux, data []byte, why int64) {
	t.Helper()
	mustGive(t, impl.ForwardMux(m, data), impl.MuxResult{Why: why, Mux: m})
}

// mustRemember wants the cache of a mux to be these.
func mustRemember(t *testing.T, m impl.Mux, want ...impl.Held) {
	t.Helper()
	if !slices.Equal(m.Cache, want) {
		t.Errorf("the cache is %v, not %v", m.Cache, want)
	}
}

// liveName tells where a flow to the first vip of the live configuration goes that is new.
func liveName(f impl.Flow) int64 {
	return wantTable(sharesOf(3, 2, 8, 4, 20, 1))[wantHash(f)%31]
}

func TestForwardMuxOfAPacketWrittenByHand(t *testing.T) {
	c := impl.Config{Version: 3, Backends: []impl.Backend{backendOf(3, 500, 2, impl.StageOn, true)}, Vips: []impl.Vip{vipOf(9, 80, 6, 3)}}
	data := []byte{69, 0, 0, 26, 0, 0, 0, 0, 64, 6, 122, 209, 0, 0, 0, 5, 0, 0, 0, 9, 3, 232, 0, 80, 'h', 'i'}
	out := append([]byte{69, 0, 0, 50, 0, 0, 0, 0, 64, 47, 118, 82, 0, 0, 2, 88, 0, 0, 1, 244, 0, 0, 8, 0}, data...)
	f := impl.Flow{From: 5, To: 9, Proto: 6, FromP: 1000, ToP: 80}
	next := impl.Mux{Address: 600, Now: 7, Watch: readyOf(c), Tables: [][]int64{tableOf(3)}, Cache: []impl.Held{{Flow: f, Name: 3, Seen: 7}}}
	mustGive(t, impl.ForwardMux(muxOf(600, 7, c), data), impl.MuxResult{Name: 3, Out: out, Mux: next})
	// Once more it is the same, and later than that it is seen anew.
	mustGive(t, impl.ForwardMux(next, data), impl.MuxResult{Name: 3, Out: out, Mux: next})
	next.Now = 20
	seen := muxWith(next, func(m *impl.Mux) { m.Cache[0].Seen = 20 })
	mustGive(t, impl.ForwardMux(next, data), impl.MuxResult{Name: 3, Out: out, Mux: seen})
}

func TestForwardMuxThatIsNotReady(t *testing.T) {
	for _, m := range []impl.Mux{{}, {Address: 600, Now: 1000000000}, impl.NewMux(7).Mux} {
		// Whatever comes: it is asked ahead of what the bytes are.
		for _, data := range [][]byte{dataOf(liveFlow(1), 3), nil, {}, {69}, make([]byte, 24), make([]byte, 5000), turned(dataOf(liveFlow(1), 3), 9, 47)} {
			mustDrop(t, m, data, impl.ErrState)
		}
	}
	// One that is ready, and has nothing, knows of no vip.
	mustDrop(t, muxOf(600, 0, impl.Config{}), dataOf(liveFlow(1), 3), impl.ErrNone)
}

func TestForwardMuxOfBytesThatAreNoPacket(t *testing.T) {
	m := muxOf(600, 27, liveConfig(), heldFlows(8, 10)...)
	good := dataOf(liveFlow(1), 10)
	for count := range good {
		mustDrop(t, m, good[:count], impl.ErrText)
	}
	mustDrop(t, m, append(slices.Clone(good), 0), impl.ErrText)
	mustDrop(t, m, make([]byte, 225), impl.ErrText)
	mustDrop(t, m, turned(good, 0, 70), impl.ErrText)
	for at := range 20 {
		// Of the bytes 0, 2 and 3 something else is asked ahead of the sum.
		if damaged := joined(good); at != 0 && at != 2 && at != 3 {
			damaged[at]++
			mustDrop(t, m, damaged, impl.ErrSum)
		}
	}
	mustDrop(t, m, turned(good, 6, 1), impl.ErrForm)
	mustDrop(t, m, turned(good, 7, 255), impl.ErrForm)
	for proto := range 256 {
		if proto != 6 && proto != 17 {
			mustDrop(t, m, turned(good, 9, byte(proto)), impl.ErrForm)
		}
	}
	// What a mux sends is no packet for one.
	mustDrop(t, m, impl.ForwardMux(m, good).Out, impl.ErrForm)
}

func TestForwardMuxOfAPacketThatNoVipIsFor(t *testing.T) {
	m := muxOf(600, 27, liveConfig(), heldFlows(8, 10)...)
	for _, f := range []impl.Flow{
		{From: 9, To: 5, Proto: 6, FromP: 80, ToP: 1}, {From: 5, To: 8, Proto: 6, FromP: 1, ToP: 80}, {From: 5, To: 10, Proto: 6, FromP: 1, ToP: 80},
		{From: 5, To: 9, Proto: 6, FromP: 1, ToP: 79}, {From: 5, To: 9, Proto: 6, FromP: 1, ToP: 442}, {From: 5, To: 9, Proto: 17, FromP: 1, ToP: 443}, {Proto: 6}, {Proto: 17},
	} {
		mustDrop(t, m, dataOf(f, 5), impl.ErrNone)
	}
	mustSend(t, m, dataOf(impl.Flow{From: 5, To: 9, Proto: 17, FromP: 1, ToP: 80}, 5), 8)
}

func TestAFlowThatIsRememberedGoesWhereItWent(t *testing.T) {
	for count := 1; count <= 8; count++ {
		for place := range count {
			m := muxOf(600, 27, liveConfig(), heldFlows(count, 10)...)
			held := m.Cache[place]
			next := mustSend(t, m, dataOf(held.Flow, place*9), held.Name)
			// It is the last one then, and the others, all of them, stand as they did.
			mustRemember(t, next, append(slices.Delete(heldFlows(count, 10), place, place+1), heldOf(held.Flow, held.Name, 27))...)
		}
	}
}

func TestAFlowThatIsRememberedGoesToWhomNoNewOneDoes(t *testing.T) {
	// Whatever the table tells: it goes to each name that serves its vip, drained and down ones among them.
	for _, name := range []int64{3, 8, 20, 40, 77} {
		for port := range int64(40) {
			m := muxOf(600, 20, liveConfig(), heldOf(liveFlow(port), name, 0))
			mustRemember(t, mustSend(t, m, dataOf(liveFlow(port), 1), name), heldOf(liveFlow(port), name, 20))
		}
	}
	// Also where the table has nobody.
	safe := flowAt(liveConfig().Vips[2], 5, 1)
	for _, name := range []int64{40, 77} {
		mustSend(t, muxOf(600, 20, liveConfig(), heldOf(safe, name, 5)), dataOf(safe, 1), name)
	}
	for _, h := range fullMux().Cache {
		mustSend(t, fullMux(), dataOf(h.Flow, 200), h.Name)
	}
	for _, h := range plainMux().Cache {
		mustSend(t, plainMux(), dataOf(h.Flow, 0), h.Name)
	}
}

func TestAFlowThatIsNewGoesWhereTheTableTells(t *testing.T) {
	names := map[int64]int{}
	c := liveConfig()
	for port := range int64(700) {
		f := liveFlow(port)
		name := liveName(f)
		for _, m := range []impl.Mux{muxOf(600, 27, c), muxOf(600, 27, c, heldOf(liveFlow(port+1), 77, 27), heldOf(liveFlow(port+2), 40, 7))} {
			next := mustSend(t, m, dataOf(f, 2), name)
			mustRemember(t, next, append(slices.Clone(m.Cache), heldOf(f, name, 27))...)
		}
		names[name]++
	}
	if len(names) != 3 || names[3] < 100 || names[8] < 200 || names[20] < 40 {
		t.Errorf("the flows went to %v", names)
	}
	// Each vip has a table of its own.
	for port := range int64(50) {
		mustSend(t, muxOf(600, 27, c), dataOf(flowAt(c.Vips[1], 5, port), 2), 8)
		mustDrop(t, muxOf(600, 27, c), dataOf(flowAt(c.Vips[2], 5, port), 2), impl.ErrBusy)
	}
}

func TestACacheThatIsFullForgetsTheFirstOne(t *testing.T) {
	for count := range 9 {
		m := muxOf(600, 27, liveConfig(), heldFlows(count, 10)...)
		f := liveFlow(500)
		next := mustSend(t, m, dataOf(f, 2), liveName(f))
		stay := heldFlows(count, 10)
		if count == 8 {
			stay = stay[1:]
		}
		mustRemember(t, next, append(stay, heldOf(f, liveName(f), 27))...)
	}
	// The one that is first is not the one that was seen first.
	m := muxOf(600, 27, liveConfig(), heldFlows(8, 10)...)
	slices.Reverse(m.Cache)
	first, kept, f := m.Cache[0].Flow, m.Cache[1:], liveFlow(500)
	next := mustSend(t, m, dataOf(f, 2), liveName(f))
	mustRemember(t, next, append(slices.Clone(kept), heldOf(f, liveName(f), 27))...)
	mustGive(t, impl.HeldFor(next, first), impl.IntResult{Code: impl.ErrNone})
	// One that went comes again as a new one, and may go elsewhere than it did.
	again := muxOf(600, 27, liveConfig(), heldOf(liveFlow(0), 77, 10))
	for port := int64(1); port <= 8; port++ {
		again = impl.ForwardMux(again, dataOf(liveFlow(port), 2)).Mux
	}
	again = mustSend(t, again, dataOf(liveFlow(0), 2), liveName(liveFlow(0)))
	if len(again.Cache) != 8 || heldAt(again.Cache, liveFlow(1)) >= 0 || again.Cache[7] != heldOf(liveFlow(0), liveName(liveFlow(0)), 27) {
		t.Errorf("the cache is %v", again.Cache)
	}
}

func TestTheOneThatWasTouchedLastGoesLast(t *testing.T) {
	// Who is touched again and again stays, however many new ones come.
	m := muxOf(600, 0, liveConfig(), heldOf(liveFlow(0), 77, 0))
	for port := int64(1); port <= 60; port++ {
		m = impl.ForwardMux(m, dataOf(liveFlow(port), 2)).Mux
		if port%7 == 0 {
			m = mustSend(t, m, dataOf(liveFlow(0), int(port)), 77)
		}
	}
	mustSend(t, m, dataOf(liveFlow(0), 0), 77)
}

func TestNobodyTakesAFlowThatIsNew(t *testing.T) {
	f := impl.Flow{From: 5, To: 1, Proto: 6, FromP: 7, ToP: 1}
	known := heldOf(impl.Flow{From: 6, To: 1, Proto: 6, FromP: 7, ToP: 1}, 7, 15)
	for _, stage := range []int64{impl.StageOn, impl.StageDrain, impl.StageOff} {
		for _, up := range []bool{false, true} {
			for weight := range int64(10) {
				c := impl.Config{Backends: []impl.Backend{backendOf(6, 1, 9, impl.StageOn, true), backendOf(7, 2, weight, stage, up)}, Vips: []impl.Vip{vipOf(1, 1, 6, 7)}}
				m := muxOf(600, 20, c)
				if stage != impl.StageOff {
					m.Cache = []impl.Held{known}
				}
				if weight > 0 && stage == impl.StageOn && up {
					mustSend(t, m, dataOf(f, 1), 7)
				} else {
					mustDrop(t, m, dataOf(f, 1), impl.ErrBusy)
				}
			}
		}
	}
	// A vip without names.
	mustDrop(t, muxOf(600, 20, impl.Config{Vips: []impl.Vip{vipOf(1, 1, 6)}}), dataOf(f, 1), impl.ErrBusy)
	for port := range int64(40) {
		mustDrop(t, fullMux(), dataOf(flowAt(fullConfig().Vips[3], 5, port), 1), impl.ErrBusy)
	}
}

func TestWhatGoesOutIsThePacketWithin(t *testing.T) {
	m := muxOf(600, 27, liveConfig())
	addresses := map[int64]int64{3: 500, 8: 0, 20: farthest, 40: 800, 77: 900}
	for load := range 201 {
		for _, address := range []int64{0, 600, farthest} {
			m.Address = address
			data := dataOf(liveFlow(int64(load)), load)
			got := impl.ForwardMux(m, guarded(data))
			if want := wantGre(address, addresses[got.Name], data); got.Name == 0 || string(got.Out) != string(want) {
				t.Fatalf("of %v there goes out %v, not %v", data, got.Out, want)
			}
			if within := impl.UnwrapGre(got.Out); within.Code != impl.OK || within.From != address || within.To != addresses[got.Name] || string(within.Inner) != string(data) {
				t.Fatalf("within %v is %v", got.Out, within)
			}
		}
	}
	// Whoever gets it, whatever else stands in its head.
	for name, address := range addresses {
		m := muxOf(601, 27, liveConfig(), heldOf(liveFlow(1), name, 27))
		for _, at := range []int{1, 4, 5, 8} {
			for _, value := range []byte{0, 1, 128, 255} {
				data := turned(dataOf(liveFlow(1), 6), at, value)
				if got := impl.ForwardMux(m, data); got.Name != name || string(got.Out) != string(wantGre(601, address, data)) {
					t.Errorf("of %v there goes out %v to %d", data, got.Out, got.Name)
				}
			}
		}
	}
}

func TestForwardMuxOfManyPackets(t *testing.T) {
	random := rand.New(rand.NewSource(153))
	whys := map[int64]int{}
	for _, m := range manyMuxes(2500) {
		for range 4 {
			data := someData(random, m)
			got := impl.ForwardMux(m, data)
			mustGive(t, got, wantForwarded(m, data))
			mustMux(t, got.Mux, impl.OK)
			whys[got.Why]++
		}
	}
	mustMeet(t, whys, 60, impl.OK, impl.ErrState, impl.ErrText, impl.ErrSum, impl.ErrNone, impl.ErrBusy)
}
