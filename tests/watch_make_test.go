package tests

import (
	"math/rand"
	"slices"
	"testing"

	"loop.example/g00222/impl"
)

func mustStep(t *testing.T, c impl.Config, list ...impl.Cmd) {
	t.Helper()
	mustGive(t, impl.StepUpdate(c, list), impl.UpdateResult{Update: stepsOf(c.Version, list...)})
}

func mustNotStep(t *testing.T, c impl.Config, list []impl.Cmd, code int64) {
	t.Helper()
	mustGive(t, impl.StepUpdate(c, list), impl.UpdateResult{Code: code})
}

func TestFullUpdateIsTheConfiguration(t *testing.T) {
	mustGive(t, impl.FullUpdate(impl.Config{}), impl.UpdateResult{Update: impl.Update{Full: true}})
	mustGive(t, impl.FullUpdate(plainConfig()), impl.UpdateResult{Update: impl.Update{From: 0, To: 12, Full: true, Config: plainConfig()}})
	mustGive(t, impl.FullUpdate(fullConfig()), impl.UpdateResult{Update: impl.Update{From: 0, To: 1000000, Full: true, Config: fullConfig()}})
	for _, c := range manyConfigs(1000) {
		answer := impl.FullUpdate(c)
		mustGive(t, answer, impl.UpdateResult{Update: wholeOf(c)})
		mustUpdate(t, answer.Update, impl.OK)
	}
	for _, c := range manyBadConfigs(4000) {
		if want := wantConfigFault(c); want != impl.OK {
			mustGive(t, impl.FullUpdate(c), impl.UpdateResult{Code: want})
		}
	}
}

func TestStepUpdateOfCommandsThatCanBeDone(t *testing.T) {
	add, serve, attach := cmdOf(impl.CmdBackend, 0, 3, 500, 2, 0), cmdOf(impl.CmdVip, 1, 0, 9, 80, 6), cmdOf(impl.CmdAttach, 2, 3, 9, 80, 6)
	mustGive(t, impl.StepUpdate(impl.Config{}, []impl.Cmd{add, serve, attach}), impl.UpdateResult{Update: impl.Update{From: 0, To: 3, Cmds: []impl.Cmd{add, serve, attach}}})
	// What one command does the next one finds done.
	off, forget := cmdOf(impl.CmdStage, 12, 5, 0, impl.StageOff, 0), cmdOf(impl.CmdForget, 14, 5, 0, 0, 0)
	mustStep(t, plainConfig(), off, cmdOf(impl.CmdDetach, 13, 5, 9, 80, 6), forget, cmdOf(impl.CmdBackend, 15, 5, 1, 1, 0))
	mustNotStep(t, plainConfig(), []impl.Cmd{off, forget}, impl.ErrOld)
	forget.Expect = 13
	mustNotStep(t, plainConfig(), []impl.Cmd{off, forget}, impl.ErrBusy)
	for count := range 21 {
		mustStep(t, plainConfig(), weigh(count)...)
	}
	// No commands lead from a version to itself.
	for _, c := range manyConfigs(300) {
		mustStep(t, c)
		mustGive(t, impl.StepUpdate(c, []impl.Cmd{}), impl.UpdateResult{Update: impl.Update{From: c.Version, To: c.Version}})
	}
}

func TestStepUpdateOfTooManyCommands(t *testing.T) {
	for _, count := range []int{21, 22, 40, 1000} {
		mustNotStep(t, plainConfig(), weigh(count), impl.ErrMany)
		// Ahead of what the commands are.
		mustNotStep(t, plainConfig(), make([]impl.Cmd, count), impl.ErrMany)
		mustNotStep(t, fullConfig(), weigh(count), impl.ErrMany)
	}
	for _, c := range manyBadConfigs(2000) {
		if want := wantConfigFault(c); want != impl.OK {
			mustNotStep(t, c, nil, want)
			mustNotStep(t, c, weigh(1), want)
			mustNotStep(t, c, make([]impl.Cmd, 21), want)
		}
	}
}

// refusedCmds are commands that the plain configuration refuses, with the code of each one.
func refusedCmds() map[impl.Cmd]int64 {
	return map[impl.Cmd]int64{
		{}: impl.ErrForm, cmdOf(impl.CmdForget, -1, 3, 0, 1, 0): impl.ErrForm, cmdOf(impl.CmdWeight, -1, 3, 0, 10, 0): impl.ErrRange,
		cmdOf(impl.CmdWeight, 1, 3, 0, 1, 0): impl.ErrOld, cmdOf(impl.CmdBackend, -1, 3, 500, 2, 0): impl.ErrTaken, cmdOf(impl.CmdUp, -1, 4, 0, 1, 0): impl.ErrNone,
		cmdOf(impl.CmdForget, -1, 3, 0, 0, 0): impl.ErrState, cmdOf(impl.CmdForget, -1, 77, 0, 0, 0): impl.ErrBusy,
	}
}

func TestStepUpdateOfACommandInTheMiddleThatIsRefused(t *testing.T) {
	for count := 1; count <= 20; count++ {
		for place := range count {
			for x, code := range refusedCmds() {
				list := weigh(count)
				list[place] = x
				mustNotStep(t, plainConfig(), list, code)
				// One behind it is not asked any more.
				list[count-1] = cmdOf(impl.CmdVip, -1, 0, 9, 80, 6)
				mustNotStep(t, plainConfig(), list, map[bool]int64{true: impl.ErrTaken, false: code}[place == count-1])
			}
		}
	}
}

func TestStepUpdateUpToTheLastVersion(t *testing.T) {
	for count := range 21 {
		mustStep(t, atVersion(plainConfig(), 1000000-int64(count)), weigh(count)...)
		if count > 0 {
			mustNotStep(t, atVersion(plainConfig(), 1000001-int64(count)), weigh(count), impl.ErrRange)
		}
	}
}

func TestStepUpdateOfManyCommands(t *testing.T) {
	random := rand.New(rand.NewSource(135))
	codes := map[int64]int{}
	lives := manyLives(300)
	for _, l := range lives {
		for range 20 {
			at := random.Intn(len(l.all))
			list := slices.Clone(l.cmds[at:min(at+random.Intn(22), len(l.cmds))])
			if random.Intn(2) == 0 {
				list = append(list, someCmd(random, l.all[at]))
			}
			if len(list) > 0 && random.Intn(3) == 0 {
				list[random.Intn(len(list))] = someCmd(random, l.all[at])
			}
			want := wantStep(l.all[at], list)
			answer := impl.StepUpdate(l.all[at], list)
			mustGive(t, answer, want)
			mustUpdate(t, answer.Update, impl.OK)
			codes[want.Code]++
		}
	}
	mustMeet(t, codes, 20, impl.OK, impl.ErrMany, impl.ErrRange, impl.ErrNone, impl.ErrTaken, impl.ErrOld, impl.ErrState)
}
