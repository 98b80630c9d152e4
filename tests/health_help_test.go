package tests

import (
	"cmp"
	"math/rand"
	"slices"
	"testing"

	"loop.example/g00222/impl"
)

func healthOf(name int64, up bool, run int64) impl.Health {
	return impl.Health{Name: name, Up: up, Run: run}
}

func verdictOf(prober, name int64, up bool, epoch int64) impl.Verdict {
	return impl.Verdict{Prober: prober, Name: name, Up: up, Epoch: epoch}
}

// healthStates are all that a health of one name can be.
func healthStates(name int64) []impl.Health {
	return []impl.Health{healthOf(name, true, 0), healthOf(name, true, 1), healthOf(name, true, 2), healthOf(name, false, 0), healthOf(name, false, 1)}
}

// badHealths have a fault, of the name, of the run, or of both.
func badHealths() []impl.Health {
	var list []impl.Health
	for _, far := range append([]int64{0, 1000}, farNumbers...) {
		for run := range int64(3) {
			list = append(list, healthOf(far, true, run), healthOf(far, false, run))
		}
	}
	for _, far := range append([]int64{3, 4}, farNumbers...) {
		list = append(list, healthOf(3, true, far), healthOf(3, false, far), healthOf(0, true, far), healthOf(1000, false, far))
	}
	return append(list, healthOf(1, false, 2), healthOf(999, false, 2), impl.Health{})
}

// probesOf writes answers by letters: y and n.
func probesOf(text string) []bool {
	var list []bool
	for _, letter := range text {
		list = append(list, letter == 'y')
	}
	return list
}

// healthSteps tells what becomes of a state with a y and with an n. A state is U or D, and an x for each answer of its run.
var healthSteps = map[string][2]string{"U": {"U", "Ux"}, "Ux": {"U", "Uxx"}, "Uxx": {"U", "D"}, "D": {"Dx", "D"}, "Dx": {"U", "D"}}

func wantHealthFault(h impl.Health) int64 {
	off := outside(h.Name, 1, 999) || outside(h.Run, 0, 2) || h.Run == 2 && !h.Up
	return told(off, impl.ErrRange)
}

// wantProbes goes through the table of states.
func wantProbes(h impl.Health, list []bool) impl.HealthResult {
	if code := cmp.Or(wantHealthFault(h), told(len(list) > 100, impl.ErrMany)); code != impl.OK {
		return impl.HealthResult{Code: code}
	}
	state := map[bool]string{true: "U", false: "D"}[h.Up] + "xx"[:h.Run]
	for _, ok := range list {
		state = healthSteps[state][map[bool]int{true: 0, false: 1}[ok]]
	}
	next := healthOf(h.Name, state[0] == 'U', int64(len(state)-1))
	return impl.HealthResult{Turned: next.Up != h.Up, Health: next}
}

func wantVerdictsFault(list []impl.Verdict) int64 {
	bad := slices.ContainsFunc(list, func(v impl.Verdict) bool {
		return outside(v.Prober, 0, 9) || outside(v.Name, 1, 999) || outside(v.Epoch, 0, 1000000)
	})
	return cmp.Or(told(len(list) > 60, impl.ErrMany), told(bad, impl.ErrRange))
}

// wantVerdict lays what each prober said of the name with the greatest epoch first, and takes the first.
func wantVerdict(list []impl.Verdict, name, probers int64) impl.IntResult {
	if code := cmp.Or(wantVerdictsFault(list), told(outside(name, 1, 999) || outside(probers, 1, 10), impl.ErrRange)); code != impl.OK {
		return impl.IntResult{Code: code}
	}
	balance := map[bool]int64{}
	for prober := range probers {
		said := slices.DeleteFunc(slices.Clone(list), func(v impl.Verdict) bool { return v.Prober != prober || v.Name != name })
		slices.SortStableFunc(said, func(a, b impl.Verdict) int { return cmp.Compare(b.Epoch, a.Epoch) })
		if len(said) > 0 {
			balance[said[0].Up]++
		}
	}
	// More than half of 10 is 6, of 9 it is 5.
	enough := probers/2 + 1
	return impl.IntResult{Value: told(balance[true] >= enough, 1) + told(balance[false] >= enough, 2)}
}

func wantUpCmds(c impl.Config, list []impl.Verdict, probers int64) impl.CmdsResult {
	if code := cmp.Or(wantConfigFault(c), wantVerdict(list, 1, probers).Code); code != impl.OK {
		return impl.CmdsResult{Code: code}
	}
	var cmds []impl.Cmd
	for _, backend := range c.Backends {
		said := wantVerdict(list, backend.Name, probers).Value
		if said > 0 && (said == 1) != backend.Up {
			cmds = append(cmds, cmdOf(impl.CmdUp, -1, backend.Name, 0, 2-said, 0))
		}
	}
	return impl.CmdsResult{Cmds: cmds}
}

// someVerdicts gives verdicts without a fault on a few names, most of them those of backends, and many of one epoch.
func someVerdicts(random *rand.Rand, c impl.Config, count int) []impl.Verdict {
	var list []impl.Verdict
	probers, most := 1+random.Int63n(10), []int64{0, 1, 3, 1000000}[random.Intn(4)]
	names := make([]int64, 1+random.Intn(5))
	for i := range names {
		names[i] = someName(random, c)
	}
	likely := random.Intn(5)
	for range count {
		// Of a name nearly all say the same, of another one perhaps not.
		at := random.Intn(len(names))
		up := random.Intn(4) < (likely+at*2)%5
		list = append(list, verdictOf(random.Int63n(probers), names[at], up, someUpTo(random, max(most, 2))%(most+1)))
	}
	return list
}

// someProbers gives how many probe: often as many as said something, or one more or less.
func someProbers(random *rand.Rand, list []impl.Verdict) int64 {
	if len(list) == 0 || random.Intn(4) == 0 {
		return 1 + random.Int63n(10)
	}
	last := slices.MaxFunc(list, func(a, b impl.Verdict) int { return cmp.Compare(a.Prober, b.Prober) })
	return min(max(1, last.Prober+random.Int63n(3)), 10)
}

// manyVerdicts gives lists without a fault: none, as many as there may be, all alike, and some of all kinds.
func manyVerdicts(random *rand.Rand, c impl.Config, count int) [][]impl.Verdict {
	lists := [][]impl.Verdict{nil, {}, slices.Repeat([]impl.Verdict{verdictOf(9, 999, true, 1000000)}, 60), {verdictOf(0, 1, false, 0)}}
	for i := range count {
		lists = append(lists, someVerdicts(random, c, random.Intn([]int{9, 30, 61}[i%3])))
	}
	return lists
}

// spoilVerdicts breaks one thing of a list, or hits none.
func spoilVerdicts(random *rand.Rand, list []impl.Verdict) []impl.Verdict {
	wrong := func(list ...int64) int64 { return append(list, farNumbers...)[random.Intn(len(list)*4)] }
	if len(list) == 0 || random.Intn(5) == 0 {
		return append(list, slices.Repeat([]impl.Verdict{verdictOf(1, 3, true, 1)}, random.Intn(70))...)
	}
	verdict := &list[random.Intn(len(list))]
	switch random.Intn(3) {
	case 0:
		verdict.Prober = wrong(-1, 10)
	case 1:
		verdict.Name = wrong(0, 1000)
	case 2:
		verdict.Epoch = wrong(-1, 1000001)
	}
	return list
}

// manyBadVerdicts gives lists of which nearly all have one fault or several.
func manyBadVerdicts(count int) [][]impl.Verdict {
	random := rand.New(rand.NewSource(121))
	var lists [][]impl.Verdict
	for i := range count {
		list := someVerdicts(random, plainConfig(), 1+random.Intn(60))
		for range 1 + i%3 {
			list = spoilVerdicts(random, list)
		}
		lists = append(lists, list)
	}
	return lists
}

// healthConfigs gives configurations without a fault, most of them with backends.
func healthConfigs(count int) []impl.Config {
	return slices.DeleteFunc(manyConfigs(count), func(c impl.Config) bool { return len(c.Backends) == 0 && c.Version != 0 })
}

func TestHealthHelpersAgreeWithEachOther(t *testing.T) {
	random := rand.New(rand.NewSource(122))
	values, turned := map[int64]int{}, map[int64]int{}
	for _, c := range healthConfigs(300) {
		for _, list := range manyVerdicts(random, c, 20) {
			if wantVerdictsFault(list) != impl.OK {
				t.Fatalf("%v is not without a fault", list)
			}
			if len(list) > 0 {
				values[wantVerdict(list, list[0].Name, someProbers(random, list)).Value]++
			}
			for _, x := range wantUpCmds(c, list, someProbers(random, list)).Cmds {
				turned[x.Number]++
			}
		}
	}
	mustMeet(t, values, 300, 0, 1, 2)
	mustMeet(t, turned, 300, 0, 1)
	codes := map[int64]int{}
	for _, list := range manyBadVerdicts(3000) {
		codes[wantVerdictsFault(list)]++
	}
	mustMeet(t, codes, 300, impl.ErrMany, impl.ErrRange)
	for _, h := range badHealths() {
		if wantHealthFault(h) != impl.ErrRange {
			t.Errorf("%v has no fault", h)
		}
	}
}
