package tests

import (
	"math/rand"
	"slices"
	"testing"

	"loop.example/g00222/impl"
)

func mustHealth(t *testing.T, h impl.Health, want int64) {
	t.Helper()
	if code := impl.HealthFault(h); code != want {
		t.Errorf("the fault of %+v is %d, not %d", h, code, want)
	}
}

// mustProbe wants what one answer makes of a health, told alone and as a list.
func mustProbe(t *testing.T, h impl.Health, ok bool, turned bool, want impl.Health) {
	t.Helper()
	mustGive(t, impl.ProbeHealth(h, ok), impl.HealthResult{Turned: turned, Health: want})
	mustGive(t, impl.ProbeMany(h, []bool{ok}), impl.HealthResult{Turned: turned, Health: want})
}

// mustProbes wants what several answers make of a health.
func mustProbes(t *testing.T, h impl.Health, answers string, turned bool, want impl.Health) {
	t.Helper()
	mustGive(t, impl.ProbeMany(h, probesOf(answers)), impl.HealthResult{Turned: turned, Health: want})
}

func mustNotProbe(t *testing.T, h impl.Health, list []bool, code int64) {
	t.Helper()
	mustGive(t, impl.ProbeMany(h, list), impl.HealthResult{Code: code})
}

func TestHealthConstants(t *testing.T) {
	if impl.RiseAfter != 2 || impl.FallAfter != 3 {
		t.Error("two answers turn who is not up, and three who is")
	}
}

func TestHealthFaultOfWhatHasNone(t *testing.T) {
	for name := range int64(999) {
		for _, h := range healthStates(name + 1) {
			mustHealth(t, h, impl.OK)
		}
	}
}

func TestHealthFaultOfARunOfTwo(t *testing.T) {
	for _, name := range []int64{1, 3, 998, 999} {
		mustHealth(t, healthOf(name, true, 2), impl.OK)
		mustHealth(t, healthOf(name, false, 1), impl.OK)
		// One more of each would have turned it.
		mustHealth(t, healthOf(name, true, 3), impl.ErrRange)
		mustHealth(t, healthOf(name, false, 2), impl.ErrRange)
		mustHealth(t, healthOf(name, true, -1), impl.ErrRange)
		mustHealth(t, healthOf(name, false, -1), impl.ErrRange)
	}
}

func TestHealthFaultOfNumbersThatAreNotSo(t *testing.T) {
	for _, h := range badHealths() {
		mustHealth(t, h, impl.ErrRange)
	}
}

func TestProbeHealthByHand(t *testing.T) {
	for _, name := range []int64{1, 3, 999} {
		up, down := func(run int64) impl.Health { return healthOf(name, true, run) }, func(run int64) impl.Health { return healthOf(name, false, run) }
		// What tells the same as Up ends the run.
		for run := range int64(3) {
			mustProbe(t, up(run), true, false, up(0))
		}
		for run := range int64(2) {
			mustProbe(t, down(run), false, false, down(0))
		}
		// What tells otherwise makes it longer, and the third one, or the second, turns it.
		mustProbe(t, up(0), false, false, up(1))
		mustProbe(t, up(1), false, false, up(2))
		mustProbe(t, up(2), false, true, down(0))
		mustProbe(t, down(0), true, false, down(1))
		mustProbe(t, down(1), true, true, up(0))
	}
}

func TestProbeManyByHand(t *testing.T) {
	up, down := healthOf(3, true, 0), healthOf(3, false, 0)
	for _, h := range healthStates(3) {
		mustProbes(t, h, "", false, h)
		mustGive(t, impl.ProbeMany(h, []bool{}), impl.HealthResult{Health: h})
	}
	// The third answer of a run, but not one behind another that told the same as Up.
	mustProbes(t, up, "n", false, healthOf(3, true, 1))
	mustProbes(t, up, "nn", false, healthOf(3, true, 2))
	mustProbes(t, up, "nnn", true, down)
	mustProbes(t, up, "nny", false, up)
	mustProbes(t, up, "nnyn", false, healthOf(3, true, 1))
	mustProbes(t, up, "nnynn", false, healthOf(3, true, 2))
	mustProbes(t, up, "nnynnn", true, down)
	mustProbes(t, up, "ynynynynyn", false, healthOf(3, true, 1))
	// The second one, of who is not up.
	mustProbes(t, down, "y", false, healthOf(3, false, 1))
	mustProbes(t, down, "yy", true, up)
	mustProbes(t, down, "yn", false, down)
	mustProbes(t, down, "yny", false, healthOf(3, false, 1))
	mustProbes(t, down, "ynyy", true, up)
	mustProbes(t, down, "ynynynyn", false, down)
	// A run goes on where it stood.
	mustProbes(t, healthOf(3, true, 1), "nn", true, down)
	mustProbes(t, healthOf(3, true, 2), "n", true, down)
	mustProbes(t, healthOf(3, true, 2), "yn", false, healthOf(3, true, 1))
	mustProbes(t, healthOf(3, false, 1), "y", true, up)
	// Behind a turn the run is a new one.
	mustProbes(t, up, "nnnn", true, down)
	mustProbes(t, up, "nnny", true, healthOf(3, false, 1))
	mustProbes(t, down, "yyyyy", true, up)
	mustProbes(t, down, "yyn", true, healthOf(3, true, 1))
	mustProbes(t, down, "yynn", true, healthOf(3, true, 2))
}

func TestProbeManyThatTurnThereAndBack(t *testing.T) {
	up, down := healthOf(3, true, 0), healthOf(3, false, 0)
	// Two turns are none, in the end.
	mustProbes(t, up, "nnnyy", false, up)
	mustProbes(t, up, "nnnyyn", false, healthOf(3, true, 1))
	mustProbes(t, up, "nnnyynnn", true, down)
	mustProbes(t, down, "yynnn", false, down)
	mustProbes(t, down, "yynnny", false, healthOf(3, false, 1))
	mustProbes(t, down, "yynnnyy", true, up)
	mustProbes(t, healthOf(3, true, 2), "nyy", false, up)
	mustProbes(t, healthOf(3, false, 1), "ynnn", false, down)
}

func TestProbeManyOfHowManyAnswersThereAre(t *testing.T) {
	up, down := healthOf(3, true, 0), healthOf(3, false, 0)
	mustGive(t, impl.ProbeMany(up, slices.Repeat([]bool{true}, 100)), impl.HealthResult{Health: up})
	mustGive(t, impl.ProbeMany(up, slices.Repeat([]bool{false}, 100)), impl.HealthResult{Turned: true, Health: down})
	mustGive(t, impl.ProbeMany(down, slices.Repeat([]bool{true}, 100)), impl.HealthResult{Turned: true, Health: up})
	mustGive(t, impl.ProbeMany(down, slices.Repeat(probesOf("yynnn"), 20)), impl.HealthResult{Health: down})
	// The hundredth one is heard.
	mustGive(t, impl.ProbeMany(up, append(slices.Repeat([]bool{true}, 97), probesOf("nnn")...)), impl.HealthResult{Turned: true, Health: down})
	mustGive(t, impl.ProbeMany(up, append(slices.Repeat([]bool{true}, 98), probesOf("nn")...)), impl.HealthResult{Health: healthOf(3, true, 2)})
	for _, h := range healthStates(3) {
		for _, count := range []int{101, 102, 200, 100000} {
			mustNotProbe(t, h, make([]bool, count), impl.ErrMany)
			mustNotProbe(t, h, slices.Repeat([]bool{true}, count), impl.ErrMany)
		}
	}
}

func TestProbesOfHealthsWithAFault(t *testing.T) {
	for _, h := range badHealths() {
		for _, ok := range []bool{true, false} {
			mustGive(t, impl.ProbeHealth(h, ok), impl.HealthResult{Code: impl.ErrRange})
		}
		// Ahead of how many answers there are.
		for _, count := range []int{0, 1, 3, 100, 101} {
			mustNotProbe(t, h, make([]bool, count), impl.ErrRange)
		}
	}
}

func TestProbesOfAllShortLists(t *testing.T) {
	for count := range 10 {
		for bits := range 1 << count {
			list := make([]bool, count)
			for i := range list {
				list[i] = bits>>i&1 == 1
			}
			for _, h := range healthStates(77) {
				mustGive(t, impl.ProbeMany(h, list), wantProbes(h, list))
				if count == 1 {
					mustGive(t, impl.ProbeHealth(h, list[0]), wantProbes(h, list))
				}
			}
		}
	}
}

func TestProbesOneByOneAreAsTheyAreTogether(t *testing.T) {
	random := rand.New(rand.NewSource(123))
	turns := 0
	for range 2000 {
		h := healthStates(1 + random.Int63n(999))[random.Intn(5)]
		list := make([]bool, random.Intn(101))
		for i := range list {
			list[i] = random.Intn(2) == 0
		}
		alone := h
		for _, ok := range list {
			next := impl.ProbeHealth(alone, ok)
			if next.Code != impl.OK || next.Turned != (next.Health.Up != alone.Up) || next.Health.Name != h.Name {
				t.Fatalf("%v makes %+v of %+v", ok, next, alone)
			}
			if next.Turned {
				turns++
			}
			mustHealth(t, next.Health, impl.OK)
			alone = next.Health
		}
		mustGive(t, impl.ProbeMany(h, list), impl.HealthResult{Turned: alone.Up != h.Up, Health: alone})
		// And so are those that come in two parts.
		cut := random.Intn(len(list) + 1)
		mustGive(t, impl.ProbeMany(impl.ProbeMany(h, list[:cut]).Health, list[cut:]).Health, alone)
	}
	if turns < 2000 {
		t.Errorf("there were only %d turns", turns)
	}
}

func TestOneAnswerTurnsNobody(t *testing.T) {
	for _, up := range []bool{true, false} {
		h := healthOf(3, up, 0)
		for _, ok := range []bool{true, false} {
			if got := impl.ProbeHealth(h, ok); got.Turned || got.Health.Up != up {
				t.Errorf("%v turns %+v: %+v", ok, h, got)
			}
		}
		// Nor do many, if none of them stands behind another one that told otherwise.
		for place := range 100 {
			list := slices.Repeat([]bool{up}, 100)
			for at := place; at < 100; at += 2 + place%3 {
				list[at] = !up
			}
			for count := range 101 {
				if got := impl.ProbeMany(h, list[:count]); got.Turned || got.Health.Up != up {
					t.Fatalf("%v turns %+v: %+v", list[:count], h, got)
				}
			}
		}
	}
}
