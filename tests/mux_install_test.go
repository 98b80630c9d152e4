package tests

import (
	"math/rand"
	"slices"
	"testing"

	"loop.example/g00222/impl"
)

// mustInstallMux wants an update to leave so many of the cache, told by their places, and all else to be as it is to be.
func mustInstallMux(t *testing.T, m impl.Mux, u impl.Update, c impl.Config, places ...int) impl.Mux {
	t.Helper()
	want := muxOf(m.Address, m.Now, c)
	for _, place := range places {
		want.Cache = append(want.Cache, m.Cache[place])
	}
	return mustMakeMux(t, impl.InstallMux(m, u), want)
}

// mustInstallSteps wants the same of commands, and of the whole of what they lead to.
func mustInstallSteps(t *testing.T, m impl.Mux, list []impl.Cmd, places ...int) {
	t.Helper()
	code, c := wantSteps(m.Watch.Config, list)
	if code != impl.OK {
		t.Fatalf("the commands %v are refused: %d", list, code)
	}
	mustInstallMux(t, m, stepsOf(m.Watch.Config.Version, list...), c, places...)
	mustInstallMux(t, m, wholeOf(c), c, places...)
}

// stageOf gives the command that puts a backend to a stage.
func stageOf(name, stage int64) impl.Cmd { return cmdOf(impl.CmdStage, -1, name, 0, stage, 0) }

// webCmd gives a command on the first vip of the live configuration; the name is 0 where none is needed.
func webCmd(kind, name int64) impl.Cmd { return cmdOf(kind, -1, name, 9, 80, 6) }

// threeVips remembers a flow to each vip of the live configuration, and a second one to the first of them.
func threeVips() impl.Mux {
	vips := liveConfig().Vips
	return muxOf(600, 27, liveConfig(), heldOf(flowAt(vips[0], 5, 1), 3, 7), heldOf(flowAt(vips[1], 5, 1), 8, 27), heldOf(flowAt(vips[2], 5, 1), 40, 20), heldOf(flowAt(vips[0], 6, 1), 8, 19))
}

func TestInstallMuxForTheFirstTime(t *testing.T) {
	for _, c := range append(manyConfigs(200), liveConfig()) {
		mustInstallMux(t, impl.Mux{Address: 600}, wholeOf(c), c)
		mustInstallMux(t, impl.Mux{Address: farthest, Now: 1000000000}, wholeOf(c), c)
	}
	// Commands do not come first.
	for count := range 21 {
		mustNotMakeMux(t, impl.InstallMux(impl.NewMux(600).Mux, stepsOf(0, weigh(count)...)), impl.ErrState)
	}
}

func TestInstallMuxFillsTheTablesAnew(t *testing.T) {
	m := muxOf(600, 27, liveConfig())
	for _, list := range [][]impl.Cmd{
		{cmdOf(impl.CmdWeight, -1, 3, 0, 9, 0)}, {cmdOf(impl.CmdUp, -1, 40, 0, 1, 0)}, {stageOf(77, impl.StageOn)}, {stageOf(8, impl.StageOff)}, {cmdOf(impl.CmdWeight, -1, 8, 0, 0, 0)},
		{cmdOf(impl.CmdNoVip, -1, 0, 9, 80, 6)}, {cmdOf(impl.CmdVip, -1, 0, 8, 80, 6)}, {cmdOf(impl.CmdBackend, -1, 5, 1, 1, 0), webCmd(impl.CmdAttach, 5)}, {webCmd(impl.CmdDetach, 8)},
	} {
		mustInstallSteps(t, m, list)
	}
	// By hand: where only one is left all places are of it, and where nobody is none is.
	got := impl.InstallMux(m, stepsOf(30, webCmd(impl.CmdDetach, 3), webCmd(impl.CmdDetach, 20), stageOf(40, impl.StageDrain))).Mux
	if len(got.Tables) != 3 || !slices.Equal(got.Tables[0], tableOf(8)) || !slices.Equal(got.Tables[1], tableOf(8)) || !slices.Equal(got.Tables[2], tableOf(0)) {
		t.Errorf("the tables are %v", got.Tables)
	}
}

func TestInstallMuxOfAnUpdateThatHasACode(t *testing.T) {
	m := threeVips()
	mustNotMakeMux(t, impl.InstallMux(m, impl.Update{From: -1}), impl.ErrRange)
	mustNotMakeMux(t, impl.InstallMux(m, impl.Update{From: 1, Full: true}), impl.ErrForm)
	mustNotMakeMux(t, impl.InstallMux(m, stepsOf(30, weigh(21)...)), impl.ErrMany)
	// An elder version, the same one, and one that leaps.
	mustNotMakeMux(t, impl.InstallMux(m, wholeOf(plainConfig())), impl.ErrOld)
	mustNotMakeMux(t, impl.InstallMux(m, wholeOf(liveConfig())), impl.ErrOld)
	mustNotMakeMux(t, impl.InstallMux(m, stepsOf(29, weigh(1)...)), impl.ErrOld)
	mustNotMakeMux(t, impl.InstallMux(m, stepsOf(30)), impl.ErrOld)
	mustNotMakeMux(t, impl.InstallMux(m, stepsOf(31, weigh(1)...)), impl.ErrNone)
	mustNotMakeMux(t, impl.InstallMux(m, stepsOf(29, weigh(2)...)), impl.ErrNone)
	// The code of a command, whatever was done ahead of it.
	mustNotMakeMux(t, impl.InstallMux(m, stepsOf(30, webCmd(impl.CmdDetach, 3), webCmd(impl.CmdAttach, 8))), impl.ErrTaken)
	mustNotMakeMux(t, impl.InstallMux(m, stepsOf(30, cmdOf(impl.CmdForget, -1, 3, 0, 0, 0))), impl.ErrState)
	mustNotMakeMux(t, impl.InstallMux(m, stepsOf(30, cmdOf(impl.CmdForget, -1, 99, 0, 0, 0))), impl.ErrBusy)
	for _, u := range manyBadUpdates(1000) {
		if want := wantUpdateFault(u); want != impl.OK {
			mustNotMakeMux(t, impl.InstallMux(m, u), want)
			mustNotMakeMux(t, impl.InstallMux(impl.Mux{Address: 600}, u), want)
		}
	}
}

func TestWhatStaysWhereAVipIsGone(t *testing.T) {
	m := threeVips()
	mustInstallSteps(t, m, []impl.Cmd{webCmd(impl.CmdNoVip, 0)}, 1, 2)
	mustInstallSteps(t, m, []impl.Cmd{cmdOf(impl.CmdNoVip, -1, 0, 9, 80, 17)}, 0, 2, 3)
	mustInstallSteps(t, m, []impl.Cmd{cmdOf(impl.CmdNoVip, -1, 0, 9, 443, 6)}, 0, 1, 3)
	mustInstallSteps(t, m, []impl.Cmd{cmdOf(impl.CmdNoVip, -1, 0, 9, 443, 6), webCmd(impl.CmdNoVip, 0)}, 1)
	mustInstallMux(t, m, wholeOf(impl.Config{Version: 31}), impl.Config{Version: 31})
	// One that comes ahead of the others puts each to another place, and takes nothing away.
	mustInstallSteps(t, m, []impl.Cmd{cmdOf(impl.CmdVip, -1, 0, 0, 1, 6)}, 0, 1, 2, 3)
	// One that is gone and there again is there; only the names that it has then count.
	mustInstallSteps(t, m, []impl.Cmd{webCmd(impl.CmdNoVip, 0), webCmd(impl.CmdVip, 0)}, 1, 2)
	mustInstallSteps(t, m, []impl.Cmd{webCmd(impl.CmdNoVip, 0), webCmd(impl.CmdVip, 0), webCmd(impl.CmdAttach, 3)}, 0, 1, 2)
	mustInstallSteps(t, m, []impl.Cmd{webCmd(impl.CmdNoVip, 0), webCmd(impl.CmdVip, 0), webCmd(impl.CmdAttach, 3), webCmd(impl.CmdAttach, 8)}, 0, 1, 2, 3)
}

func TestWhatStaysWhereANameIsGone(t *testing.T) {
	m := threeVips()
	mustInstallSteps(t, m, []impl.Cmd{webCmd(impl.CmdDetach, 3)}, 1, 2, 3)
	// It goes on with the other vip that it serves.
	mustInstallSteps(t, m, []impl.Cmd{webCmd(impl.CmdDetach, 8)}, 0, 1, 2)
	mustInstallSteps(t, m, []impl.Cmd{cmdOf(impl.CmdDetach, -1, 8, 9, 80, 17)}, 0, 2, 3)
	mustInstallSteps(t, m, []impl.Cmd{cmdOf(impl.CmdDetach, -1, 40, 9, 443, 6)}, 0, 1, 3)
	// A name of which nothing is remembered.
	mustInstallSteps(t, m, []impl.Cmd{webCmd(impl.CmdDetach, 20), webCmd(impl.CmdDetach, 77)}, 0, 1, 2, 3)
	mustInstallSteps(t, m, []impl.Cmd{webCmd(impl.CmdDetach, 3), webCmd(impl.CmdAttach, 3)}, 0, 1, 2, 3)
	mustInstallSteps(t, m, []impl.Cmd{webCmd(impl.CmdDetach, 3), webCmd(impl.CmdDetach, 8), cmdOf(impl.CmdDetach, -1, 8, 9, 80, 17), cmdOf(impl.CmdDetach, -1, 40, 9, 443, 6)})
}

func TestWhatStaysWhereABackendTurns(t *testing.T) {
	m := threeVips()
	// Who is off serves nothing any more; who is drained, down or without a weight goes on with what it has.
	mustInstallSteps(t, m, []impl.Cmd{stageOf(3, impl.StageOff)}, 1, 2, 3)
	mustInstallSteps(t, m, []impl.Cmd{stageOf(8, impl.StageOff)}, 0, 2)
	mustInstallSteps(t, m, []impl.Cmd{stageOf(40, impl.StageOff), stageOf(3, impl.StageOff)}, 1, 3)
	for _, name := range []int64{3, 8, 40} {
		mustInstallSteps(t, m, []impl.Cmd{stageOf(name, impl.StageDrain)}, 0, 1, 2, 3)
		mustInstallSteps(t, m, []impl.Cmd{cmdOf(impl.CmdUp, -1, name, 0, 0, 0)}, 0, 1, 2, 3)
		mustInstallSteps(t, m, []impl.Cmd{cmdOf(impl.CmdWeight, -1, name, 0, 0, 0)}, 0, 1, 2, 3)
		mustInstallSteps(t, m, []impl.Cmd{stageOf(name, impl.StageOff), stageOf(name, impl.StageDrain)}, 0, 1, 2, 3)
	}
	mustInstallSteps(t, m, []impl.Cmd{stageOf(3, impl.StageDrain), cmdOf(impl.CmdUp, -1, 3, 0, 0, 0), cmdOf(impl.CmdWeight, -1, 3, 0, 0, 0)}, 0, 1, 2, 3)
	// One that is gone altogether.
	gone := []impl.Cmd{stageOf(3, impl.StageOff), webCmd(impl.CmdDetach, 3), cmdOf(impl.CmdForget, -1, 3, 0, 0, 0)}
	mustInstallSteps(t, m, gone, 1, 2, 3)
	// One that comes in its place has its name, so that it serves on, at another address.
	again := append(gone, cmdOf(impl.CmdBackend, -1, 3, 12345, 1, 0), webCmd(impl.CmdAttach, 3))
	mustInstallSteps(t, m, again, 0, 1, 2, 3)
	next := impl.InstallMux(m, stepsOf(30, again...)).Mux
	if got := impl.ForwardMux(next, dataOf(m.Cache[0].Flow, 1)); got.Name != 3 || impl.UnwrapGre(got.Out).To != 12345 {
		t.Errorf("the flow goes as %s", short(got))
	}
}

func TestAFlowWhoseBackendIsGoneIsNew(t *testing.T) {
	for _, list := range [][]impl.Cmd{{stageOf(3, impl.StageOff)}, {webCmd(impl.CmdDetach, 3)}, {webCmd(impl.CmdNoVip, 0), webCmd(impl.CmdVip, 0), webCmd(impl.CmdAttach, 20)}} {
		m := threeVips()
		f := m.Cache[0].Flow
		mustSend(t, m, dataOf(f, 1), 3)
		next := impl.InstallMux(m, stepsOf(30, list...)).Mux
		mustGive(t, impl.HeldFor(next, f), impl.IntResult{Code: impl.ErrNone})
		name := impl.ForwardMux(next, dataOf(f, 1)).Name
		if name != 8 && name != 20 {
			t.Errorf("behind %v the flow goes to %d", list, name)
		}
		// Where its old backend comes back it stays where it is.
		back := impl.ForwardMux(next, dataOf(f, 1)).Mux
		x := stageOf(3, impl.StageOn)
		if list[0].Kind != impl.CmdStage {
			x = webCmd(impl.CmdAttach, 3)
		}
		mustSend(t, impl.InstallMux(back, stepsOf(back.Watch.Config.Version, x)).Mux, dataOf(f, 1), name)
	}
}

func TestInstallMuxOfManyUpdates(t *testing.T) {
	random := rand.New(rand.NewSource(154))
	codes, gone, stay := map[int64]int{}, 0, 0
	for _, m := range manyMuxes(1500) {
		for range 4 {
			u := someMuxUpdate(random, m)
			got := impl.InstallMux(m, u)
			mustGive(t, got, wantInstalled(m, u))
			mustMux(t, got.Mux, impl.OK)
			codes[got.Code]++
			if got.Code == impl.OK {
				gone, stay = gone+len(m.Cache)-len(got.Mux.Cache), stay+len(got.Mux.Cache)
			}
		}
	}
	mustMeet(t, codes, 50, impl.OK, impl.ErrOld, impl.ErrNone)
	if gone < 500 || stay < 1000 {
		t.Errorf("%d flows are gone, and %d stay", gone, stay)
	}
}
