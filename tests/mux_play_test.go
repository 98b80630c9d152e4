package tests

import (
	"cmp"
	"maps"
	"math/rand"
	"slices"
	"testing"

	"loop.example/g00222/impl"
)

// trace is where a flow went last, and when; turn counts the packets that went.
type trace struct{ name, seen, turn int64 }

// muxStory is a mux to which anything comes, and what was seen of it: nothing is looked up in its cache.
type muxStory struct {
	t      *testing.T
	m      impl.Mux
	went   map[impl.Flow]trace
	flows  []impl.Flow
	turn   int64
	calm   bool
	counts map[string]int
}

func newMuxStory(t *testing.T, m impl.Mux, counts map[string]int) *muxStory {
	s := &muxStory{t, m, map[impl.Flow]trace{}, nil, 0, false, counts}
	for _, h := range m.Cache {
		s.turn++
		s.went[h.Flow], s.flows = trace{h.Name, h.Seen, s.turn}, append(s.flows, h.Flow)
	}
	return s
}

// become puts the mux to what it came to be, and looks at what is promised of any.
func (s *muxStory) become(what string, got impl.MuxResult) bool {
	s.t.Helper()
	if got.Code != impl.OK {
		mustNotMakeMux(s.t, got, got.Code)
		s.counts[what+" refused"]++
		return false
	}
	before, after := s.m, got.Mux
	if impl.MuxFault(after) != impl.OK || wantMuxFault(after) != impl.OK || after.Address != before.Address || after.Now < before.Now {
		s.t.Fatalf("%s makes %s of %s", what, short(after), short(before))
	}
	if after.Watch.Config.Version < before.Watch.Config.Version || before.Watch.Ready && !after.Watch.Ready {
		s.t.Fatalf("%s makes %s of %s", what, short(after), short(before))
	}
	s.m = after
	s.counts[what]++
	return true
}

// mustRecall wants the mux to remember what went as it is told by what was seen of it.
func (s *muxStory) mustRecall() {
	s.t.Helper()
	byTurn := func(a, b impl.Flow) int { return cmp.Compare(s.went[a].turn, s.went[b].turn) }
	var want []impl.Held
	for _, f := range slices.SortedFunc(maps.Keys(s.went), byTurn) {
		want = append(want, heldOf(f, s.went[f].name, s.went[f].seen))
	}
	mustRemember(s.t, s.m, want...)
	for _, f := range s.flows {
		known, has := s.went[f]
		mustGive(s.t, impl.HeldFor(s.m, f), impl.IntResult{Code: told(!has, impl.ErrNone), Value: known.name})
	}
}

func (s *muxStory) install(u impl.Update) {
	s.t.Helper()
	if s.become("install", impl.InstallMux(s.m, u)) {
		maps.DeleteFunc(s.went, func(f impl.Flow, one trace) bool { return !wantServes(s.m.Watch.Config, f, one.name) })
	}
}

func (s *muxStory) tick(n int64) {
	s.t.Helper()
	if s.become("tick", impl.TickMux(s.m, n)) {
		maps.DeleteFunc(s.went, func(f impl.Flow, one trace) bool { return one.seen < s.m.Now-20 })
	}
}

// forward lets bytes come, and looks at where they go.
func (s *muxStory) forward(data []byte) {
	s.t.Helper()
	before := s.m
	got := impl.ForwardMux(before, data)
	if !s.become("forward", got) {
		s.t.Fatalf("%v has the code %d", data, got.Code)
	}
	if got.Why != impl.OK {
		mustGive(s.t, got, impl.MuxResult{Why: got.Why, Mux: before})
		s.counts["dropped"]++
		return
	}
	_, p := wantParsed(data)
	f := flowOfFields(p)
	backend := modelOf(before.Watch.Config).backends[got.Name]
	if string(got.Out) != string(wantGre(before.Address, backend.Address, data)) || !wantServes(before.Watch.Config, f, got.Name) {
		s.t.Fatalf("of %v there goes out %v to %d", data, got.Out, got.Name)
	}
	known, has := s.went[f]
	switch {
	case has && known.name != got.Name:
		s.t.Fatalf("%v went to %d, and goes to %d", f, known.name, got.Name)
	case !has && (backend.Stage != impl.StageOn || !backend.Up || backend.Weight == 0):
		s.t.Fatalf("%v is new, and goes to %v", f, backend)
	}
	s.counts[map[bool]string{true: "known", false: "new"}[has]]++
	s.turn++
	s.went[f], s.flows = trace{got.Name, before.Now, s.turn}, append(s.flows, f)
	s.forgetFirst()
}

// forgetFirst takes away the flow that was longest not touched, where there are more than a mux remembers.
func (s *muxStory) forgetFirst() {
	if len(s.went) <= 8 {
		return
	}
	first := slices.MinFunc(slices.Collect(maps.Keys(s.went)), func(a, b impl.Flow) int { return cmp.Compare(s.went[a].turn, s.went[b].turn) })
	delete(s.went, first)
	s.counts["pushed out"]++
}

// someStep lets anything come, bytes most of all.
func (s *muxStory) someStep(random *rand.Rand, bad []impl.Update) {
	s.t.Helper()
	switch random.Intn(16) {
	case 0:
		// Where it is calm no other configuration comes, but commands alone.
		if u := someMuxUpdate(random, s.m); !u.Full || !s.calm {
			s.install(u)
		}
	case 1:
		// One or two commands alone leave most of what there is.
		x := someCmd(random, s.m.Watch.Config)
		s.install(stepsOf(s.m.Watch.Config.Version, x))
	case 2:
		s.install(bad[random.Intn(len(bad))])
	case 3:
		s.tick([]int64{0, 1, 5, 20, 21, 1000000, 1000001, -1}[random.Intn(8)])
	case 4, 5:
		s.tick(random.Int63n(3))
	case 6, 7, 8:
		// One that came ahead, remembered or not.
		if len(s.flows) > 0 {
			last := max(0, len(s.flows)-12)
			s.forward(dataOf(s.flows[last+random.Intn(len(s.flows)-last)], random.Intn(201)))
		}
	default:
		s.forward(someData(random, s.m))
	}
	if len(s.flows) > 40 {
		s.flows = s.flows[20:]
	}
	s.mustRecall()
}

func mustCount(t *testing.T, counts map[string]int, least int, wanted ...string) {
	t.Helper()
	for _, what := range wanted {
		if counts[what] < least {
			t.Errorf("what came is %v", counts)
			return
		}
	}
}

func TestWhateverComesToANewMux(t *testing.T) {
	bad, counts := manyBadUpdates(300), map[string]int{}
	for seed := range int64(80) {
		random := rand.New(rand.NewSource(seed))
		s := newMuxStory(t, impl.NewMux(someUpTo(random, farthest)).Mux, counts)
		for range 5 {
			s.someStep(random, bad)
		}
		if s.calm = seed%4 > 0; s.calm {
			s.install(wholeOf(atVersion(liveConfig(), s.m.Watch.Config.Version+1)))
			s.mustRecall()
		}
		for range 250 {
			s.someStep(random, bad)
		}
	}
	mustCount(t, counts, 200, "install", "install refused", "tick", "tick refused", "dropped", "new", "known", "pushed out")
}

func TestWhateverComesToAnyMux(t *testing.T) {
	bad, counts := manyBadUpdates(300), map[string]int{}
	random := rand.New(rand.NewSource(157))
	for _, m := range manyMuxes(400) {
		s := newMuxStory(t, m, counts)
		for range 30 {
			s.someStep(random, bad)
		}
	}
	mustCount(t, counts, 100, "install", "install refused", "tick", "tick refused", "dropped", "new", "known", "pushed out")
}

func TestWhoIsDrainedLosesItsFlowsOneByOne(t *testing.T) {
	// Eight flows, all to one; it is drained, and every flow that goes on stays there, however long.
	only := impl.Config{Version: 1, Backends: []impl.Backend{backendOf(3, 500, 2, impl.StageOn, true), backendOf(8, 700, 0, impl.StageOn, true)}, Vips: []impl.Vip{vipOf(9, 80, 6, 3, 8)}}
	m := muxOf(600, 0, only)
	for port := range int64(8) {
		m = mustSend(t, m, dataOf(liveFlow(port), 1), 3)
	}
	m = impl.InstallMux(m, stepsOf(1, stageOf(3, impl.StageDrain), cmdOf(impl.CmdWeight, -1, 8, 0, 1, 0))).Mux
	for round := int64(1); round <= 8; round++ {
		// In each round one flow fewer goes on, and is forgotten in the next one.
		for range 2 {
			m = impl.TickMux(m, 15).Mux
			for port := round; port < 8; port++ {
				m = mustSend(t, m, dataOf(liveFlow(port), 1), 3)
			}
		}
		if len(m.Cache) != int(8-round) {
			t.Fatalf("in round %d the cache is %v", round, m.Cache)
		}
	}
	for port := range int64(8) {
		m = mustSend(t, m, dataOf(liveFlow(port), 1), 8)
	}
	// It is on again, and who has its flows now keeps them.
	m = impl.InstallMux(m, stepsOf(3, stageOf(3, impl.StageOn), cmdOf(impl.CmdUp, -1, 8, 0, 0, 0))).Mux
	for port := range int64(8) {
		m = mustSend(t, m, dataOf(liveFlow(port), 1), 8)
	}
	mustSend(t, m, dataOf(liveFlow(8), 1), 3)
}

func TestTwoMuxesSendAFlowThatIsNewToTheSame(t *testing.T) {
	random := rand.New(rand.NewSource(158))
	sent := 0
	for _, c := range append(manyConfigs(400), liveConfig()) {
		one, other := muxOf(600, 0, c), impl.InstallMux(impl.Mux{Address: 601, Now: 77}, wholeOf(c)).Mux
		for range 8 {
			f, _, _ := someServing(random, c)
			if len(c.Vips) == 0 {
				continue
			}
			first, second := impl.ForwardMux(one, dataOf(f, 3)), impl.ForwardMux(other, dataOf(f, 200))
			if first.Name != second.Name || first.Why != second.Why {
				t.Fatalf("%v goes to %d and to %d", f, first.Name, second.Name)
			}
			sent += int(told(first.Why == impl.OK, 1))
		}
	}
	if sent < 200 {
		t.Errorf("only %d flows went", sent)
	}
}
