package tests

import (
	"math/rand"
	"slices"
	"testing"

	"loop.example/g00222/impl"
)

// wantApply works out what a command does to a configuration without a fault, by a model that has no order.
func wantApply(c impl.Config, x impl.Cmd) (int64, impl.Config) {
	if code := wantCmdFault(x); code != impl.OK {
		return code, impl.Config{}
	}
	if c.Version > 999999 {
		return impl.ErrRange, impl.Config{}
	}
	if x.Expect >= 0 && x.Expect != c.Version {
		return impl.ErrOld, impl.Config{}
	}
	m := modelOf(c)
	change := wantVips
	if x.Kind == 9 || x.Kind < 5 {
		change = wantBackends
	}
	if code := change(m, x); code != impl.OK {
		return code, impl.Config{}
	}
	m.version++
	return impl.OK, m.config()
}

// wantBackends does what a command does to backends.
func wantBackends(m modelConfig, x impl.Cmd) int64 {
	backend, known := m.backends[x.Name]
	if known != (x.Kind != 1) {
		return map[bool]int64{true: impl.ErrTaken, false: impl.ErrNone}[known]
	}
	switch x.Kind {
	case 1:
		if len(m.backends) > 7 {
			return impl.ErrMany
		}
		backend = backendOf(x.Name, x.Addr, x.Number, 1, true)
	case 2:
		backend.Weight = x.Number
	case 3:
		backend.Stage = x.Number
	case 9:
		backend.Up = x.Number > 0
	}
	m.backends[x.Name] = backend
	if x.Kind == 4 {
		if backend.Stage != 3 {
			return impl.ErrState
		}
		for _, names := range m.vips {
			if names[x.Name] {
				return impl.ErrBusy
			}
		}
		delete(m.backends, x.Name)
	}
	return impl.OK
}

// wantVips does what a command does to vips.
func wantVips(m modelConfig, x impl.Cmd) int64 {
	at := served{x.Addr, x.Number, x.Proto}
	names, known := m.vips[at]
	_, there := m.backends[x.Name]
	switch {
	case x.Kind == 5 && known, x.Kind == 7 && there && names[x.Name]:
		return impl.ErrTaken
	case x.Kind != 5 && !known, x.Kind == 7 && !there, x.Kind == 8 && !names[x.Name]:
		return impl.ErrNone
	case x.Kind == 5 && len(m.vips) > 3:
		return impl.ErrMany
	case x.Kind == 5:
		m.vips[at] = map[int64]bool{}
	case x.Kind == 6:
		delete(m.vips, at)
	case x.Kind == 7:
		names[x.Name] = true
	case x.Kind == 8:
		delete(names, x.Name)
	}
	return impl.OK
}

// mustApply applies commands one after the other, and gives what there is then.
func mustApply(t *testing.T, c impl.Config, list ...impl.Cmd) impl.Config {
	t.Helper()
	for _, x := range list {
		answer := impl.ApplyCmd(c, x)
		if answer.Code != impl.OK {
			t.Fatalf("%v is not done to %v: %d", x, c, answer.Code)
		}
		c = answer.Config
	}
	return c
}

// mustRefuse asks for the code of a command, and for nothing beside it.
func mustRefuse(t *testing.T, c impl.Config, x impl.Cmd, code int64) {
	t.Helper()
	answer := impl.ApplyCmd(c, x)
	if answer.Code != code || !alikeConfigs(answer.Config, impl.Config{}) {
		t.Errorf("%v done to %v answers %v, not %d alone", x, c, answer, code)
	}
}

func mustBe(t *testing.T, c, want impl.Config) {
	t.Helper()
	if !alikeConfigs(c, want) {
		t.Errorf("the configuration is %v, not %v", c, want)
	}
}

func TestApplyCmdTellsAConfigurationByCommands(t *testing.T) {
	c := mustApply(t, impl.Config{}, cmdOf(impl.CmdBackend, -1, 500, 7, 9, 0), cmdOf(impl.CmdBackend, 1, 3, 8, 0, 0), cmdOf(impl.CmdBackend, 2, 999, 9, 4, 0))
	mustBe(t, c, impl.Config{Version: 3, Backends: []impl.Backend{backendOf(3, 8, 0, 1, true), backendOf(500, 7, 9, 1, true), backendOf(999, 9, 4, 1, true)}})
	c = mustApply(t, c, cmdOf(impl.CmdVip, 3, 0, 9, 80, 17), cmdOf(impl.CmdVip, 4, 0, 9, 80, 6), cmdOf(impl.CmdVip, -1, 0, 8, 443, 6), cmdOf(impl.CmdVip, -1, 0, 9, 79, 17))
	vips := []impl.Vip{vipOf(8, 443, 6), vipOf(9, 79, 17), vipOf(9, 80, 6), vipOf(9, 80, 17)}
	mustBe(t, c, impl.Config{Version: 7, Backends: c.Backends, Vips: vips})
	c = mustApply(t, c, cmdOf(impl.CmdAttach, -1, 500, 9, 80, 6), cmdOf(impl.CmdAttach, -1, 999, 9, 80, 6), cmdOf(impl.CmdAttach, -1, 3, 9, 80, 6))
	vips[2].Names = []int64{3, 500, 999}
	mustBe(t, c, impl.Config{Version: 10, Backends: c.Backends, Vips: vips})
	c = mustApply(t, c, cmdOf(impl.CmdDetach, -1, 500, 9, 80, 6), cmdOf(impl.CmdNoVip, -1, 0, 9, 79, 17))
	mustBe(t, c, impl.Config{Version: 12, Backends: c.Backends, Vips: []impl.Vip{vipOf(8, 443, 6), vipOf(9, 80, 6, 3, 999), vipOf(9, 80, 17)}})
	c = mustApply(t, c, cmdOf(impl.CmdWeight, -1, 3, 0, 5, 0), cmdOf(impl.CmdStage, -1, 500, 0, impl.StageOff, 0), cmdOf(impl.CmdUp, -1, 999, 0, 0, 0))
	mustBe(t, c, impl.Config{Version: 15, Backends: []impl.Backend{backendOf(3, 8, 5, 1, true), backendOf(500, 7, 9, 3, true), backendOf(999, 9, 4, 1, false)}, Vips: c.Vips})
	c = mustApply(t, c, cmdOf(impl.CmdForget, 15, 500, 0, 0, 0), cmdOf(impl.CmdUp, 16, 999, 0, 1, 0))
	mustBe(t, c, impl.Config{Version: 17, Backends: []impl.Backend{backendOf(3, 8, 5, 1, true), backendOf(999, 9, 4, 1, true)}, Vips: c.Vips})
	c = mustApply(t, c, cmdOf(impl.CmdNoVip, 17, 0, 9, 80, 6), cmdOf(impl.CmdStage, -1, 3, 0, 3, 0), cmdOf(impl.CmdForget, -1, 3, 0, 0, 0))
	mustBe(t, c, impl.Config{Version: 20, Backends: []impl.Backend{backendOf(999, 9, 4, 1, true)}, Vips: []impl.Vip{vipOf(8, 443, 6), vipOf(9, 80, 17)}})
}

func TestApplyCmdTakesWhatIsSoAlready(t *testing.T) {
	c := plainConfig()
	for i, x := range []impl.Cmd{
		cmdOf(impl.CmdWeight, 12, 3, 0, 2, 0), cmdOf(impl.CmdStage, 12, 5, 0, impl.StageDrain, 0), cmdOf(impl.CmdUp, 12, 3, 0, 1, 0), cmdOf(impl.CmdUp, 12, 999, 0, 0, 0),
	} {
		want := plainConfig()
		want.Version = 13
		if answer := impl.ApplyCmd(c, x); answer.Code != impl.OK || !alikeConfigs(answer.Config, want) {
			t.Errorf("command %d answers %v", i, answer)
		}
	}
}

func TestApplyCmdTurnsOneBackendAlone(t *testing.T) {
	for place, plain := range plainConfig().Backends {
		for number := range int64(10) {
			c, want := plainConfig(), plainConfig()
			want.Version, want.Backends[place].Weight = 13, number
			mustBe(t, mustApply(t, c, cmdOf(impl.CmdWeight, -1, plain.Name, 0, number, 0)), want)
			want = plainConfig()
			want.Version, want.Backends[place].Stage = 13, 1+number%3
			mustBe(t, mustApply(t, c, cmdOf(impl.CmdStage, -1, plain.Name, 0, 1+number%3, 0)), want)
			want = plainConfig()
			want.Version, want.Backends[place].Up = 13, number%2 == 1
			mustBe(t, mustApply(t, c, cmdOf(impl.CmdUp, -1, plain.Name, 0, number%2, 0)), want)
		}
	}
}

func TestApplyCmdRefuses(t *testing.T) {
	c := plainConfig()
	for _, refused := range []struct {
		x    impl.Cmd
		code int64
	}{
		{cmdOf(impl.CmdBackend, -1, 3, 1, 1, 0), impl.ErrTaken}, {cmdOf(impl.CmdBackend, -1, 999, 1, 1, 0), impl.ErrTaken},
		{cmdOf(impl.CmdWeight, -1, 4, 0, 1, 0), impl.ErrNone}, {cmdOf(impl.CmdStage, -1, 1, 0, 1, 0), impl.ErrNone}, {cmdOf(impl.CmdUp, -1, 998, 0, 1, 0), impl.ErrNone},
		{cmdOf(impl.CmdForget, -1, 4, 0, 0, 0), impl.ErrNone}, {cmdOf(impl.CmdForget, -1, 3, 0, 0, 0), impl.ErrState}, {cmdOf(impl.CmdForget, -1, 5, 0, 0, 0), impl.ErrState},
		{cmdOf(impl.CmdForget, -1, 77, 0, 0, 0), impl.ErrBusy}, {cmdOf(impl.CmdForget, -1, 999, 0, 0, 0), impl.ErrBusy},
		{cmdOf(impl.CmdVip, -1, 0, 9, 80, 6), impl.ErrTaken}, {cmdOf(impl.CmdVip, -1, 0, 9, 443, 6), impl.ErrTaken},
		{cmdOf(impl.CmdNoVip, -1, 0, 8, 80, 6), impl.ErrNone}, {cmdOf(impl.CmdNoVip, -1, 0, 9, 81, 6), impl.ErrNone}, {cmdOf(impl.CmdNoVip, -1, 0, 9, 443, 17), impl.ErrNone},
		{cmdOf(impl.CmdAttach, -1, 3, 9, 443, 17), impl.ErrNone}, {cmdOf(impl.CmdAttach, -1, 4, 9, 80, 6), impl.ErrNone}, {cmdOf(impl.CmdAttach, -1, 998, 9, 80, 17), impl.ErrNone},
		{cmdOf(impl.CmdAttach, -1, 3, 9, 80, 6), impl.ErrTaken}, {cmdOf(impl.CmdAttach, -1, 77, 9, 80, 6), impl.ErrTaken}, {cmdOf(impl.CmdAttach, -1, 999, 9, 443, 6), impl.ErrTaken},
		{cmdOf(impl.CmdDetach, -1, 3, 9, 443, 17), impl.ErrNone}, {cmdOf(impl.CmdDetach, -1, 4, 9, 80, 6), impl.ErrNone},
		{cmdOf(impl.CmdDetach, -1, 999, 9, 80, 6), impl.ErrNone}, {cmdOf(impl.CmdDetach, -1, 3, 9, 80, 17), impl.ErrNone},
		{cmdOf(impl.CmdWeight, 11, 3, 0, 1, 0), impl.ErrOld}, {cmdOf(impl.CmdWeight, 13, 3, 0, 1, 0), impl.ErrOld}, {cmdOf(impl.CmdWeight, 0, 3, 0, 1, 0), impl.ErrOld},
	} {
		mustRefuse(t, c, refused.x, refused.code)
	}
	mustApply(t, c, cmdOf(impl.CmdDetach, -1, 77, 9, 80, 6), cmdOf(impl.CmdForget, -1, 77, 0, 0, 0))
	mustApply(t, c, cmdOf(impl.CmdNoVip, -1, 0, 9, 80, 6), cmdOf(impl.CmdForget, -1, 77, 0, 0, 0))
}

func TestApplyCmdOfAsManyAsThereMayBe(t *testing.T) {
	c := fullConfig()
	c.Version = 999999
	mustRefuse(t, c, cmdOf(impl.CmdBackend, -1, 4, 1, 1, 0), impl.ErrMany)
	mustRefuse(t, c, cmdOf(impl.CmdBackend, -1, 500, 1, 1, 0), impl.ErrTaken)
	mustRefuse(t, c, cmdOf(impl.CmdVip, -1, 0, 9, 80, 6), impl.ErrMany)
	mustRefuse(t, c, cmdOf(impl.CmdVip, -1, 0, farthest, 65535, 17), impl.ErrTaken)
	want := cloneConfig(c)
	want.Version, want.Vips[2].Names = 1000000, []int64{999}
	mustBe(t, mustApply(t, c, cmdOf(impl.CmdAttach, 999999, 999, farthest, 65535, 6)), want)

	c = cloneConfig(c)
	c.Version, c.Backends, c.Vips = 0, c.Backends[:7], []impl.Vip{c.Vips[2]}
	c = mustApply(t, c, cmdOf(impl.CmdBackend, 0, 999, farthest, 9, 0), cmdOf(impl.CmdVip, 1, 0, 0, 0, 6), cmdOf(impl.CmdVip, 2, 0, 0, 0, 17), cmdOf(impl.CmdVip, 3, 0, farthest, 65535, 17))
	if len(c.Backends) != 8 || c.Backends[7] != backendOf(999, farthest, 9, impl.StageOn, true) || len(c.Vips) != 4 || c.Version != 4 {
		t.Errorf("the last ones that there may be are not there: %v", c)
	}
	mustRefuse(t, c, cmdOf(impl.CmdBackend, -1, 4, 1, 1, 0), impl.ErrMany)
	mustRefuse(t, c, cmdOf(impl.CmdVip, -1, 0, 1, 0, 6), impl.ErrMany)
}

func TestApplyCmdAtTheLastVersion(t *testing.T) {
	c := plainConfig()
	c.Version = 999999
	c = mustApply(t, c, cmdOf(impl.CmdWeight, 999999, 3, 0, 9, 0))
	if c.Version != 1000000 || impl.ConfigFault(c) != impl.OK {
		t.Errorf("the version is %d", c.Version)
	}
	for _, x := range plainCmds() {
		for _, expect := range []int64{-1, 0, 999999, 1000000} {
			x.Expect = expect
			mustRefuse(t, c, x, impl.ErrRange)
		}
	}
}

func TestApplyCmdAsksTheFirstCodeFirst(t *testing.T) {
	plain, last, bad, full := plainConfig(), plainConfig(), plainConfig(), fullConfig()
	last.Version, bad.Vips[1].Names, full.Version = 1000000, []int64{4}, 5
	// The configuration's fault, then the command's, then the last version, then what is expected.
	mustRefuse(t, bad, impl.Cmd{}, impl.ErrNone)
	mustRefuse(t, bad, cmdOf(impl.CmdWeight, 7, 0, 0, 1, 0), impl.ErrNone)
	mustRefuse(t, last, impl.Cmd{}, impl.ErrForm)
	mustRefuse(t, last, cmdOf(impl.CmdForget, 7, 3, 0, 1, 0), impl.ErrForm)
	mustRefuse(t, last, cmdOf(impl.CmdWeight, 7, 4, 0, 1, 0), impl.ErrRange)
	mustRefuse(t, plain, cmdOf(impl.CmdWeight, 7, 4, 0, 10, 0), impl.ErrRange)
	mustRefuse(t, plain, cmdOf(impl.CmdForget, 7, 3, 9, 0, 0), impl.ErrForm)
	// What is expected, then what the kinds ask.
	for _, x := range []impl.Cmd{
		cmdOf(impl.CmdBackend, 7, 3, 1, 1, 0), cmdOf(impl.CmdWeight, 7, 4, 0, 1, 0), cmdOf(impl.CmdForget, 7, 3, 0, 0, 0), cmdOf(impl.CmdForget, 7, 77, 0, 0, 0),
		cmdOf(impl.CmdVip, 7, 0, 9, 80, 6), cmdOf(impl.CmdNoVip, 7, 0, 1, 1, 6), cmdOf(impl.CmdAttach, 7, 3, 9, 80, 6), cmdOf(impl.CmdDetach, 7, 4, 9, 80, 6),
	} {
		mustRefuse(t, plain, x, impl.ErrOld)
	}
	// Who is there already ahead of how many there are; the stage ahead of who serves.
	mustRefuse(t, full, cmdOf(impl.CmdBackend, -1, 999, 1, 1, 0), impl.ErrTaken)
	mustRefuse(t, full, cmdOf(impl.CmdVip, -1, 0, 0, 0, 6), impl.ErrTaken)
	mustRefuse(t, plain, cmdOf(impl.CmdForget, -1, 40, 0, 0, 0), impl.ErrState)
}

func TestApplyCmdOfConfigurationsWithAFault(t *testing.T) {
	random := rand.New(rand.NewSource(52))
	for _, c := range manyBadConfigs(4000) {
		if want := wantConfigFault(c); want != impl.OK {
			mustRefuse(t, c, plainCmds()[random.Intn(9)], want)
			mustRefuse(t, c, someCmd(random, c), want)
			mustRefuse(t, c, impl.Cmd{}, want)
		}
	}
}

// checkApply holds one answer against the model, and against what is promised of all.
func checkApply(t *testing.T, c impl.Config, x impl.Cmd) impl.ConfigResult {
	t.Helper()
	answer := impl.ApplyCmd(c, x)
	code, want := wantApply(c, x)
	if answer.Code != code || !alikeConfigs(answer.Config, want) {
		t.Fatalf("%v done to %v answers %v, not %d and %v", x, c, answer, code, want)
	}
	if code == impl.OK && (impl.ConfigFault(answer.Config) != impl.OK || answer.Config.Version != c.Version+1) {
		t.Fatalf("%v done to %v leaves %v", x, c, answer.Config)
	}
	return answer
}

func TestApplyCmdOfManyCommands(t *testing.T) {
	random := rand.New(rand.NewSource(53))
	type met struct{ kind, code int64 }
	seen := map[met]int{}
	for _, c := range manyConfigs(3000) {
		if c.Version == 1000000 && random.Intn(8) > 0 {
			c.Version = 7
		}
		for range 30 {
			x := someCmd(random, c)
			seen[met{x.Kind, checkApply(t, c, x).Code}]++
		}
	}
	for kind, codes := range [][]int64{
		1: {impl.ErrTaken, impl.ErrMany}, 2: {impl.ErrNone}, 3: {impl.ErrNone}, 4: {impl.ErrNone, impl.ErrState, impl.ErrBusy},
		5: {impl.ErrTaken, impl.ErrMany}, 6: {impl.ErrNone}, 7: {impl.ErrNone, impl.ErrTaken}, 8: {impl.ErrNone}, 9: {impl.ErrNone},
	} {
		for _, code := range append(codes, impl.OK, impl.ErrRange, impl.ErrOld) {
			if kind > 0 && seen[met{int64(kind), code}] < 20 {
				t.Errorf("kind %d came to code %d only %d times", kind, code, seen[met{int64(kind), code}])
			}
		}
	}
}

func TestApplyCmdOfOneCommandBehindTheOther(t *testing.T) {
	random := rand.New(rand.NewSource(54))
	for range 60 {
		c, done := impl.Config{}, int64(0)
		for range 200 {
			x := someCmd(random, c)
			if answer := checkApply(t, c, x); answer.Code == impl.OK {
				c, done = answer.Config, done+1
			}
		}
		if c.Version != done || done < 20 {
			t.Fatalf("%d commands are done, and the version is %d", done, c.Version)
		}
	}
}

func TestWhoIsGoneIsNowhere(t *testing.T) {
	random := rand.New(rand.NewSource(56))
	forgotten := 0
	for _, c := range manyConfigs(2000) {
		c.Version = 0
		for _, backend := range c.Backends {
			answer := impl.ApplyCmd(c, cmdOf(impl.CmdForget, -1, backend.Name, 0, 0, 0))
			if answer.Code != impl.OK {
				continue
			}
			forgotten++
			if impl.BackendAt(answer.Config, backend.Name).Code != impl.ErrNone || len(answer.Config.Backends) != len(c.Backends)-1 {
				t.Fatalf("%d is not gone: %v", backend.Name, answer.Config)
			}
			for _, vip := range answer.Config.Vips {
				if slices.Contains(vip.Names, backend.Name) {
					t.Fatalf("%d is gone, and serves: %v", backend.Name, answer.Config)
				}
				mustRefuse(t, answer.Config, cmdOf(impl.CmdAttach, -1, backend.Name, vip.Address, vip.Port, vip.Proto), impl.ErrNone)
			}
			// Who comes again comes as a new one.
			again := mustApply(t, answer.Config, cmdOf(impl.CmdBackend, -1, backend.Name, 5, random.Int63n(10), 0))
			if here := impl.BackendAt(again, backend.Name).Backend; !here.Up || here.Stage != impl.StageOn || here.Address != 5 {
				t.Fatalf("%d came again as %v", backend.Name, here)
			}
		}
	}
	if forgotten < 100 {
		t.Errorf("only %d were forgotten", forgotten)
	}
}
