package tests

import (
	"math/rand"
	"slices"
	"testing"

	"loop.example/g00222/impl"
)

// muxAsked is what the functions of the layer are asked with.
type muxAsked struct {
	m       impl.Mux
	u       impl.Update
	data    []byte
	n       int64
	f       impl.Flow
	address int64
}

// muxQuestions pairs muxes with updates, bytes, ticks and flows, with and without a fault.
func muxQuestions() []muxAsked {
	random := rand.New(rand.NewSource(159))
	bad, broken := manyBadUpdates(60), manyBadMuxes(100)
	all := []muxAsked{{}, {m: impl.Mux{Tables: [][]int64{}, Cache: []impl.Held{}}, data: []byte{}}, {m: plainMux(), u: wholeOf(fullConfig())}, {m: fullMux(), n: 1}}
	for i, m := range manyMuxes(400) {
		q := muxAsked{m: m, u: someMuxUpdate(random, m), data: someData(random, m), n: random.Int63n(30), f: liveFlow(1), address: someUpTo(random, farthest)}
		if len(m.Cache) > 0 {
			q.f = m.Cache[random.Intn(len(m.Cache))].Flow
		}
		switch i % 12 {
		case 0:
			q.m = broken[random.Intn(len(broken))]
		case 1:
			q.u, q.data = bad[random.Intn(len(bad))], nil
		case 2:
			q.n, q.address = farNumbers[random.Intn(len(farNumbers))], farNumbers[random.Intn(len(farNumbers))]
		}
		all = append(all, q)
	}
	return all
}

// muxesOf calls the functions of the layer that answer with lists.
func muxesOf(q muxAsked) []any {
	return []any{impl.NewMux(q.address), impl.InstallMux(q.m, q.u), impl.ForwardMux(q.m, q.data), impl.ForwardMux(q.m, nil), impl.TickMux(q.m, q.n), impl.TickMux(q.m, 0)}
}

// askMuxes calls every function of the layer and gives all that they answer.
func askMuxes(q muxAsked) []any {
	return append(muxesOf(q), impl.MuxFault(q.m), impl.HeldFor(q.m, q.f), impl.MuxText(q.m))
}

// laid gives a question whose lists lie as told.
func (q muxAsked) laid(s shape) muxAsked {
	q.m, q.u, q.data = shaped(s, q.m), shaped(s, q.u), shaped(s, q.data)
	return q
}

func TestMuxesAnswerTheSameEachTime(t *testing.T) {
	mustAnswerTheSame(t, muxQuestions(), askMuxes)
}

func TestMuxesStayAsTheyWere(t *testing.T) {
	mustStayAsTheyWere(t, muxQuestions(), askMuxes)
}

func TestMuxesAnswerTheSameHoweverTheirListsLie(t *testing.T) {
	mustAnswerHoweverListsLie(t, muxQuestions(), askMuxes)
}

func TestMuxesAnswerNewMemory(t *testing.T) {
	for _, q := range muxQuestions() {
		q = q.laid(shape{room: 2})
		again := muxesOf(q)
		for i, answer := range muxesOf(q) {
			if !lieApart(answer, q.m, q.u, q.data, again[i]) {
				t.Fatalf("answer %d to %s shares memory with it, or with what it gives again, or within itself", i, short(q))
			}
		}
	}
}

func TestMuxesWhoseListsAreOneGetTheirOwn(t *testing.T) {
	// Who hands in two vips with one list of names, and one table for both, gets two.
	names, table := []int64{3}, tableOf(3)
	c := impl.Config{Version: 5, Backends: []impl.Backend{backendOf(3, 500, 2, impl.StageOn, true)}, Vips: []impl.Vip{vipOf(9, 80, 6, names...), vipOf(9, 80, 17, names...)}}
	m := impl.Mux{Address: 600, Now: 20, Watch: readyOf(c), Tables: [][]int64{table, table}, Cache: []impl.Held{heldOf(liveFlow(1), 3, 7)}}
	mustMux(t, m, impl.OK)
	later := atVersion(c, 6)
	later.Vips[0].Names, later.Vips[1].Names = names, names
	for _, answer := range []impl.MuxResult{
		impl.InstallMux(m, wholeOf(later)), impl.InstallMux(m, stepsOf(5, cmdOf(impl.CmdWeight, -1, 3, 0, 5, 0))), impl.TickMux(m, 0), impl.TickMux(m, 20),
		impl.ForwardMux(m, nil), impl.ForwardMux(m, dataOf(liveFlow(1), 4)), impl.ForwardMux(m, dataOf(liveFlow(2), 4)), impl.InstallMux(impl.NewMux(1).Mux, wholeOf(later)),
	} {
		if answer.Code != impl.OK || !lieApart(answer, m, later, names, table) {
			t.Errorf("two lists of %s are one", short(answer))
		}
	}
}

func TestWhatAMuxForgetsIsNowhere(t *testing.T) {
	// Behind the end of the cache there is nothing of what it was.
	full := muxOf(600, 27, liveConfig(), heldFlows(8, 10)...)
	for _, answer := range []impl.MuxResult{
		impl.TickMux(full, 5), impl.TickMux(full, 21), impl.TickMux(full, 1000), impl.InstallMux(full, wholeOf(impl.Config{Version: 31})),
		impl.InstallMux(full, stepsOf(30, stageOf(3, impl.StageOff))), impl.InstallMux(full, stepsOf(30, webCmd(impl.CmdDetach, 8), webCmd(impl.CmdDetach, 77))),
		impl.ForwardMux(full, dataOf(liveFlow(3), 4)), impl.ForwardMux(full, dataOf(liveFlow(500), 4)), impl.ForwardMux(full, nil),
	} {
		cache := answer.Mux.Cache
		for _, behind := range cache[len(cache):cap(cache)] {
			if behind != (impl.Held{}) {
				t.Errorf("behind %v there is %v", cache, behind)
			}
		}
	}
}

func TestMuxesHangOnNothingThatWasAskedAhead(t *testing.T) {
	// A flow that another mux remembers is new to this one, and a later version that another one has is not known.
	for range 3 {
		m := muxOf(600, 20, liveConfig(), heldOf(liveFlow(1), 77, 20))
		mustSend(t, m, dataOf(liveFlow(1), 1), 77)
		mustSend(t, muxOf(600, 20, liveConfig()), dataOf(liveFlow(1), 1), liveName(liveFlow(1)))
		mustInstallMux(t, m, wholeOf(atVersion(liveConfig(), 40)), atVersion(liveConfig(), 40), 0)
		mustInstallMux(t, m, wholeOf(atVersion(liveConfig(), 31)), atVersion(liveConfig(), 31), 0)
		mustMakeMux(t, impl.NewMux(600), impl.Mux{Address: 600})
		mustDrop(t, impl.NewMux(600).Mux, dataOf(liveFlow(1), 1), impl.ErrState)
	}
}

func TestMuxesOfVeryLongLists(t *testing.T) {
	m := muxOf(600, 20, liveConfig())
	tables, cache, data := slices.Repeat(m.Tables, 30000), slices.Repeat(heldFlows(8, 5), 10000), make([]byte, 1000000)
	mustMux(t, muxWith(m, func(m *impl.Mux) { m.Tables = tables }), impl.ErrForm)
	mustMux(t, muxWith(m, func(m *impl.Mux) { m.Tables[0] = make([]int64, 1000000) }), impl.ErrForm)
	mustMux(t, muxWith(m, func(m *impl.Mux) { m.Cache = cache }), impl.ErrMany)
	mustMux(t, impl.Mux{Watch: readyOf(impl.Config{Backends: make([]impl.Backend, 100000)}), Tables: tables, Cache: cache}, impl.ErrMany)
	mustDrop(t, m, data, impl.ErrText)
	mustNotMakeMux(t, impl.InstallMux(m, impl.Update{From: 30, To: 31, Cmds: make([]impl.Cmd, 100000)}), impl.ErrMany)
}
