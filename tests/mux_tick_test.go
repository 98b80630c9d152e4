package tests

import (
	"math/rand"
	"testing"

	"loop.example/g00222/impl"
)

func TestTickMuxLetsTimeGoBy(t *testing.T) {
	for _, m := range []impl.Mux{{}, {Address: 600}, muxOf(600, 0, liveConfig())} {
		for _, n := range []int64{0, 1, 20, 21, 999999, 1000000} {
			mustMakeMux(t, impl.TickMux(m, n), muxWith(m, func(m *impl.Mux) { m.Now = n }))
		}
		for _, n := range append([]int64{-1, -2, 1000001, 1000002, 1000000000}, farNumbers...) {
			mustNotMakeMux(t, impl.TickMux(m, n), impl.ErrRange)
		}
	}
}

func TestTickMuxUpToTheLastTick(t *testing.T) {
	for _, n := range []int64{0, 1, 2, 20, 21, 999999, 1000000} {
		for _, over := range []int64{-3, -1, 0, 1, 2, 50} {
			now := 1000000000 - n + over
			if now > 1000000000 {
				continue
			}
			for _, m := range []impl.Mux{{Now: now}, muxOf(farthest, now, liveConfig(), heldOf(liveFlow(1), 3, now))} {
				if over > 0 {
					mustNotMakeMux(t, impl.TickMux(m, n), impl.ErrRange)
				} else {
					mustGive(t, impl.TickMux(m, n), wantTicked(m, n))
				}
			}
		}
	}
	end := fullMux()
	mustMakeMux(t, impl.TickMux(end, 0), end)
	mustNotMakeMux(t, impl.TickMux(end, 1), impl.ErrRange)
	mustNotMakeMux(t, impl.TickMux(end, 1000000), impl.ErrRange)
	// One tick by another it comes to the last one.
	m := impl.Mux{Now: 999999990}
	for left := range int64(10) {
		m = mustMakeMux(t, impl.TickMux(m, 1), impl.Mux{Now: 999999991 + left})
	}
	mustNotMakeMux(t, impl.TickMux(m, 1), impl.ErrRange)
}

func TestWhatIsIdleForLongIsForgotten(t *testing.T) {
	for _, now := range []int64{0, 5, 500, 999999000} {
		for n := range int64(40) {
			m := muxOf(600, now, liveConfig(), heldOf(liveFlow(1), 3, now))
			want := muxOf(600, now+n, liveConfig())
			if n <= 20 {
				want.Cache = m.Cache
			}
			got := mustMakeMux(t, impl.TickMux(m, n), want)
			mustGive(t, impl.HeldFor(got, liveFlow(1)), map[bool]impl.IntResult{true: {Value: 3}, false: {Code: impl.ErrNone}}[n <= 20])
		}
	}
	// Each goes when it is its time, wherever it stands, and the others stand as they did.
	m := muxOf(600, 100, liveConfig())
	for place, back := range []int64{3, 20, 0, 19, 11, 1, 20, 10} {
		m.Cache = append(m.Cache, heldOf(liveFlow(int64(place)), 77, 100-back))
	}
	for n := range int64(25) {
		mustGive(t, impl.TickMux(m, n), wantTicked(m, n))
	}
	mustRemember(t, impl.TickMux(m, 1).Mux, m.Cache[0], m.Cache[2], m.Cache[3], m.Cache[4], m.Cache[5], m.Cache[7])
	mustRemember(t, impl.TickMux(m, 10).Mux, m.Cache[0], m.Cache[2], m.Cache[5], m.Cache[7])
	mustRemember(t, impl.TickMux(m, 20).Mux, m.Cache[2])
	mustRemember(t, impl.TickMux(m, 21).Mux)
	mustRemember(t, impl.TickMux(m, 1000000).Mux)
}

func TestAFlowThatIsSeenNowAndThenIsNotForgotten(t *testing.T) {
	m := muxOf(600, 100, liveConfig(), heldOf(liveFlow(1), 77, 100))
	for round := range 50 {
		m = mustMakeMux(t, impl.TickMux(m, 20), muxWith(m, func(m *impl.Mux) { m.Now += 20 }))
		m = mustSend(t, m, dataOf(liveFlow(1), round), 77)
	}
	m = impl.TickMux(impl.TickMux(m, 20).Mux, 1).Mux
	mustRemember(t, m)
	// Then it is a new one, and nobody who is drained gets it.
	mustSend(t, m, dataOf(liveFlow(1), 1), liveName(liveFlow(1)))
}

func TestTicksInTwoPartsComeToTheSame(t *testing.T) {
	random := rand.New(rand.NewSource(155))
	gone, stay := 0, 0
	for _, m := range manyMuxes(1500) {
		n := []int64{0, 1, random.Int63n(42), 1000000}[random.Intn(4)]
		whole := impl.TickMux(m, n)
		mustGive(t, whole, wantTicked(m, n))
		if whole.Code != impl.OK {
			continue
		}
		part := random.Int63n(n + 1)
		mustGive(t, impl.TickMux(impl.TickMux(m, part).Mux, n-part), whole)
		mustMux(t, whole.Mux, impl.OK)
		gone, stay = gone+len(m.Cache)-len(whole.Mux.Cache), stay+len(whole.Mux.Cache)
	}
	if gone < 300 || stay < 300 {
		t.Errorf("%d flows are gone, and %d stay", gone, stay)
	}
}

func TestHeldForTellsTheNameOfAFlow(t *testing.T) {
	for _, m := range []impl.Mux{plainMux(), fullMux(), threeVips(), muxOf(600, 27, liveConfig(), heldFlows(8, 10)...)} {
		for _, h := range m.Cache {
			mustGive(t, impl.HeldFor(m, h.Flow), impl.IntResult{Value: h.Name})
			// One that has all but one number alike is another one.
			for place := range 5 {
				f := h.Flow
				field := []*int64{&f.From, &f.To, &f.FromP, &f.ToP, &f.Proto}[place]
				*field = []int64{6, 6, 77, 77, 23 - f.Proto}[place]
				mustGive(t, impl.HeldFor(m, f), wantHeld(m, f))
			}
		}
		for _, f := range []impl.Flow{{Proto: 6}, liveFlow(600), plainFlow()} {
			mustGive(t, impl.HeldFor(m, f), impl.IntResult{Code: impl.ErrNone})
			mustGive(t, impl.HeldFor(impl.NewMux(600).Mux, f), impl.IntResult{Code: impl.ErrNone})
		}
	}
}

func TestHeldForOfWhatIsNoFlow(t *testing.T) {
	for _, m := range []impl.Mux{{}, threeVips(), fullMux()} {
		mustGive(t, impl.HeldFor(m, impl.Flow{}), impl.IntResult{Code: impl.ErrRange})
		for place := range 5 {
			for _, far := range append([]int64{-1, farthest + 1}, farNumbers...) {
				f := liveFlow(1)
				*[]*int64{&f.From, &f.To, &f.Proto, &f.FromP, &f.ToP}[place] = far
				mustGive(t, impl.HeldFor(m, f), impl.IntResult{Code: impl.ErrRange})
			}
		}
		for _, f := range []impl.Flow{{Proto: 6, FromP: 65536}, {Proto: 6, ToP: 65536}, {Proto: 47}, {Proto: 5}, {From: farthest + 1, Proto: 17}} {
			mustGive(t, impl.HeldFor(m, f), impl.IntResult{Code: impl.ErrRange})
		}
	}
}

func TestHeldForOfManyFlows(t *testing.T) {
	random := rand.New(rand.NewSource(156))
	codes := map[int64]int{}
	for _, m := range append(manyMuxes(1000), manyBadMuxes(500)...) {
		for range 4 {
			f, _, _ := someServing(random, m.Watch.Config)
			if len(m.Cache) > 0 && random.Intn(2) == 0 {
				f = m.Cache[random.Intn(len(m.Cache))].Flow
			}
			want := wantHeld(m, f)
			mustGive(t, impl.HeldFor(m, f), want)
			codes[want.Code]++
		}
	}
	mustMeet(t, codes, 60, impl.OK, impl.ErrRange, impl.ErrNone, impl.ErrForm)
}
