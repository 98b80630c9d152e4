package tests

import (
	"math/rand"
	"slices"
	"testing"

	"loop.example/g00222/impl"
)

func mustTurn(t *testing.T, c impl.Config, list []impl.Verdict, probers int64, want ...impl.Cmd) {
	t.Helper()
	mustGive(t, impl.UpCmds(c, list, probers), impl.CmdsResult{Cmds: want})
}

func mustNotTurn(t *testing.T, c impl.Config, list []impl.Verdict, probers, code int64) {
	t.Helper()
	mustGive(t, impl.UpCmds(c, list, probers), impl.CmdsResult{Code: code})
}

// turnsUp and turnsDown are what is asked of a backend.
func turnsUp(name int64) impl.Cmd   { return cmdOf(impl.CmdUp, -1, name, 0, 1, 0) }
func turnsDown(name int64) impl.Cmd { return cmdOf(impl.CmdUp, -1, name, 0, 0, 0) }

func TestUpCmdsByHand(t *testing.T) {
	// Up are 3, 5, 8 and 77; down are 40 and 999.
	c := plainConfig()
	mustTurn(t, c, nil, 1)
	mustTurn(t, c, saying(3, 0, 2, 0), 3, turnsDown(3))
	mustTurn(t, c, saying(40, 2, 0, 0), 3, turnsUp(40))
	// Who is as the verdict says already is asked for nothing.
	mustTurn(t, c, saying(3, 2, 0, 0), 3)
	mustTurn(t, c, saying(40, 0, 2, 0), 3)
	// Without a verdict nothing turns.
	mustTurn(t, c, saying(3, 0, 1, 0), 3)
	mustTurn(t, c, saying(3, 1, 1, 0), 2)
	mustTurn(t, c, saying(40, 1, 1, 0), 2)
	mustTurn(t, c, saying(40, 2, 2, 0), 4)
	mustTurn(t, c, saying(40, 3, 1, 0), 4, turnsUp(40))
	mustTurn(t, c, saying(3, 1, 3, 0), 4, turnsDown(3))
	// A stage is not asked: 5 is drained, 77 and 999 are off.
	mustTurn(t, c, saying(5, 0, 1, 0), 1, turnsDown(5))
	mustTurn(t, c, saying(77, 0, 1, 0), 1, turnsDown(77))
	mustTurn(t, c, saying(999, 1, 0, 0), 1, turnsUp(999))
	// Nor is any version expected, not even where there is none behind.
	c.Version = 1000000
	mustTurn(t, c, saying(3, 0, 2, 0), 3, turnsDown(3))
	c.Version = 0
	mustTurn(t, c, saying(3, 0, 2, 0), 3, turnsDown(3))
}

func TestUpCmdsOfSeveralBackends(t *testing.T) {
	c := plainConfig()
	said := [][]impl.Verdict{saying(999, 2, 0, 4), saying(8, 0, 2, 0), saying(40, 3, 0, 1), saying(3, 1, 2, 9), saying(77, 3, 0, 2), saying(5, 1, 1, 3)}
	// Rising by name, in whatever order it was said.
	for first := range said {
		list := slices.Concat(append(slices.Clone(said[first:]), said[:first]...)...)
		mustTurn(t, c, list, 3, turnsDown(3), turnsDown(8), turnsUp(40), turnsUp(999))
		slices.Reverse(list)
		mustTurn(t, c, list, 3, turnsDown(3), turnsDown(8), turnsUp(40), turnsUp(999))
	}
	// All that there can be.
	full := fullConfig()
	var all []impl.Verdict
	var want []impl.Cmd
	for i, backend := range full.Backends {
		all = append(all, verdictOf(0, backend.Name, !backend.Up, int64(i)))
		want = append(want, []impl.Cmd{turnsDown(backend.Name), turnsUp(backend.Name)}[i%2])
	}
	mustTurn(t, full, all, 1, want...)
	mustTurn(t, full, all, 2)
	mustTurn(t, full, slices.Repeat(all, 7), 1, want...)
}

func TestUpCmdsOfNamesThatNoBackendHas(t *testing.T) {
	for _, name := range []int64{1, 2, 4, 39, 41, 998} {
		for _, up := range []int64{0, 3} {
			mustTurn(t, plainConfig(), saying(name, up, 3-up, 1), 3)
			mustTurn(t, impl.Config{}, saying(name, up, 3-up, 1), 3)
			mustTurn(t, plainConfig(), slices.Concat(saying(name, up, 3-up, 1), saying(40, 3, 0, 0)), 3, turnsUp(40))
		}
	}
}

func TestUpCmdsOfWhatIsPastAndWhoDoesNotProbe(t *testing.T) {
	c := plainConfig()
	past := append(saying(3, 0, 3, 1), verdictOf(0, 3, true, 2), verdictOf(1, 3, true, 2))
	mustTurn(t, c, past, 3)
	mustTurn(t, c, past[:4], 3, turnsDown(3))
	mustTurn(t, c, past[:4], 2)
	// Those of one epoch: the first one.
	mustTurn(t, c, []impl.Verdict{verdictOf(0, 3, false, 1), verdictOf(0, 3, true, 1)}, 1, turnsDown(3))
	mustTurn(t, c, []impl.Verdict{verdictOf(0, 3, true, 1), verdictOf(0, 3, false, 1)}, 1)
	// Who is not below probers.
	mustTurn(t, c, []impl.Verdict{verdictOf(1, 3, false, 1), verdictOf(2, 3, false, 1)}, 2)
	mustTurn(t, c, []impl.Verdict{verdictOf(1, 3, false, 1), verdictOf(2, 3, false, 1)}, 3, turnsDown(3))
}

func TestUpCmdsOfWhatHasAFault(t *testing.T) {
	broken := slices.Repeat([]impl.Verdict{{}}, 61)
	for _, c := range manyBadConfigs(2000) {
		if want := wantConfigFault(c); want != impl.OK {
			// Ahead of whatever is not right with the verdicts and with the probers.
			for _, list := range [][]impl.Verdict{nil, saying(3, 3, 0, 0), broken[:1], broken} {
				mustNotTurn(t, c, list, 3, want)
				mustNotTurn(t, c, list, 11, want)
			}
		}
	}
	for _, c := range []impl.Config{{}, plainConfig(), fullConfig()} {
		for _, far := range append([]int64{0, 11}, farNumbers...) {
			// Where there is no backend, too.
			mustNotTurn(t, c, nil, far, impl.ErrRange)
			mustNotTurn(t, c, saying(3, 3, 0, 0), far, impl.ErrRange)
			mustNotTurn(t, c, broken, far, impl.ErrMany)
		}
		mustNotTurn(t, c, broken[:60], 3, impl.ErrRange)
		mustNotTurn(t, c, broken, 3, impl.ErrMany)
		mustNotTurn(t, c, slices.Repeat(saying(3, 1, 0, 0), 61), 3, impl.ErrMany)
		mustTurn(t, c, slices.Repeat(saying(4, 1, 0, 0), 60), 3)
		// One of a name that no backend has is asked like any other.
		mustNotTurn(t, c, append(saying(3, 3, 0, 0), verdictOf(10, 4, true, 0)), 3, impl.ErrRange)
	}
	for _, list := range manyBadVerdicts(2000) {
		if want := wantVerdictsFault(list); want != impl.OK {
			mustNotTurn(t, plainConfig(), list, 3, want)
			mustNotTurn(t, plainConfig(), list, 0, want)
		}
	}
}

func TestUpCmdsOfManyConfigurations(t *testing.T) {
	random := rand.New(rand.NewSource(128))
	counts := map[int64]int{}
	for _, c := range healthConfigs(400) {
		for _, list := range manyVerdicts(random, c, 20) {
			probers := someProbers(random, list)
			got, want := impl.UpCmds(c, list, probers), wantUpCmds(c, list, probers)
			if !same(got, want) {
				t.Fatalf("%s of %d gives %v, not %v, of %s", short(list), probers, got, want, short(c))
			}
			counts[int64(len(want.Cmds))]++
		}
	}
	mustMeet(t, counts, 30, 0, 1, 2, 3)
}

func TestOnlyWhatAVerdictTurnsIsAskedFor(t *testing.T) {
	random := rand.New(rand.NewSource(129))
	turned := 0
	for _, c := range healthConfigs(300) {
		if c.Version > 999900 {
			c.Version = 999900
		}
		for _, list := range manyVerdicts(random, c, 12) {
			probers := someProbers(random, list)
			cmds := impl.UpCmds(c, list, probers).Cmds
			next := mustApply(t, c, cmds...)
			if next.Version != c.Version+int64(len(cmds)) || len(next.Backends) != len(c.Backends) {
				t.Fatalf("%v makes %s of %s", cmds, short(next), short(c))
			}
			// What has a verdict is as it says, and all else is as it was.
			for i, backend := range c.Backends {
				switch impl.VerdictFor(list, backend.Name, probers).Value {
				case 1:
					backend.Up = true
				case 2:
					backend.Up = false
				}
				if next.Backends[i] != backend {
					t.Fatalf("%s of %d leave %v in %s", short(list), probers, next.Backends[i], short(next))
				}
			}
			// None of them could be left out, and asked again there is nothing to turn.
			if delta := impl.DeltaOf(c, next).List; len(delta) != len(cmds) {
				t.Fatalf("%v turns %v", cmds, delta)
			}
			mustTurn(t, next, list, probers)
			turned += len(cmds)
		}
	}
	if turned < 1000 {
		t.Errorf("only %d were turned", turned)
	}
}
