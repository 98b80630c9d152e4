package tests

import (
	"math/rand"
	"slices"
	"testing"

	"loop.example/g00222/impl"
)

func TestUpdateFaultOfWhatHasNone(t *testing.T) {
	for _, c := range manyConfigs(500) {
		mustUpdate(t, wholeOf(c), impl.OK)
	}
	mustUpdate(t, impl.Update{Full: true}, impl.OK)
	mustUpdate(t, impl.Update{}, impl.OK)
	// An empty list is none.
	mustUpdate(t, impl.Update{To: 12, Full: true, Config: plainConfig(), Cmds: []impl.Cmd{}}, impl.OK)
	mustUpdate(t, impl.Update{Config: impl.Config{Backends: []impl.Backend{}, Vips: []impl.Vip{}}, Cmds: []impl.Cmd{}}, impl.OK)
	for count := range 21 {
		for _, from := range []int64{0, 1, 12, 999979, 1000000 - int64(count)} {
			mustUpdate(t, stepsOf(from, weigh(count)...), impl.OK)
		}
	}
	mustUpdate(t, stepsOf(1000000), impl.OK)
	// What the commands would do is not asked: each of them alone has no fault.
	mustUpdate(t, stepsOf(0, plainCmds()...), impl.OK)
	mustUpdate(t, stepsOf(7, cmdOf(impl.CmdForget, 1000000, 999, 0, 0, 0), cmdOf(impl.CmdForget, 0, 999, 0, 0, 0)), impl.OK)
	for _, l := range manyLives(60) {
		random := rand.New(rand.NewSource(134))
		for range 10 {
			mustUpdate(t, someUpdate(random, l), impl.OK)
		}
	}
}

func TestUpdateFaultOfVersions(t *testing.T) {
	for _, far := range append([]int64{-1, 1000001, 1000002}, farNumbers...) {
		for _, full := range []bool{false, true} {
			mustUpdate(t, impl.Update{From: far, Full: full}, impl.ErrRange)
			mustUpdate(t, impl.Update{To: far, Full: full}, impl.ErrRange)
			mustUpdate(t, impl.Update{From: far, To: far, Full: full}, impl.ErrRange)
			mustUpdate(t, impl.Update{From: 1000000, To: far, Full: full, Config: atVersion(plainConfig(), far), Cmds: weigh(21)}, impl.ErrRange)
		}
		mustUpdate(t, impl.Update{From: far - 1, To: far, Cmds: weigh(1)}, impl.ErrRange)
		mustUpdate(t, impl.Update{From: far, To: far + 1, Cmds: weigh(1)}, impl.ErrRange)
	}
	// The last version there is, but not one behind it.
	mustUpdate(t, stepsOf(999980, weigh(20)...), impl.OK)
	mustUpdate(t, stepsOf(999981, weigh(20)...), impl.ErrRange)
	mustUpdate(t, stepsOf(-1, weigh(20)...), impl.ErrRange)
}

func TestUpdateFaultOfHowManyCommandsThereAre(t *testing.T) {
	for count := range 21 {
		for off := int64(-25); off <= 25; off++ {
			u := stepsOf(100, weigh(count)...)
			u.To += off
			mustUpdate(t, u, told(off != 0, impl.ErrForm))
		}
	}
	for _, count := range []int{21, 22, 40, 1000} {
		mustUpdate(t, stepsOf(100, weigh(count)...), impl.ErrMany)
		mustUpdate(t, stepsOf(100, make([]impl.Cmd, count)...), impl.ErrMany)
		mustUpdate(t, impl.Update{Cmds: weigh(count)}, impl.ErrMany)
	}
	// As far apart as can be, both ways round.
	mustUpdate(t, impl.Update{To: 1000000}, impl.ErrForm)
	mustUpdate(t, impl.Update{From: 1000000}, impl.ErrForm)
	mustUpdate(t, impl.Update{From: 1, Cmds: weigh(1)}, impl.ErrForm)
}

func TestUpdateFaultOfTheFirstCommandThatHasOne(t *testing.T) {
	far, form := cmdOf(impl.CmdWeight, -1, 3, 0, 10, 0), cmdOf(impl.CmdForget, -1, 3, 0, 1, 0)
	for count := 1; count <= 20; count++ {
		for place := range count {
			u := stepsOf(5, weigh(count)...)
			u.Cmds[place] = far
			mustUpdate(t, u, impl.ErrRange)
			u.Cmds[place] = form
			mustUpdate(t, u, impl.ErrForm)
			for behind := place + 1; behind < count; behind++ {
				u.Cmds[behind] = far
			}
			mustUpdate(t, u, impl.ErrForm)
		}
	}
}

// wholeFaults are the faults of the whole update of the plain configuration, in the order of the chapter.
func wholeFaults() [][]broken[impl.Update] {
	var versions, configs []broken[impl.Update]
	for _, far := range append([]int64{-1, 1000001}, farNumbers...) {
		versions = append(versions, breaks(impl.ErrRange, func(u *impl.Update) { u.From = far }, func(u *impl.Update) { u.To = far })...)
	}
	for _, c := range manyBadConfigs(40) {
		if code := wantConfigFault(c); code != impl.OK {
			configs = append(configs, breaks(code, func(u *impl.Update) { u.Config = c })...)
		}
	}
	return [][]broken[impl.Update]{versions,
		breaks(impl.ErrForm, func(u *impl.Update) { u.From = 1 }, func(u *impl.Update) { u.From = 1000000 }, func(u *impl.Update) { u.From = 12 },
			func(u *impl.Update) { u.Cmds = weigh(1) }, func(u *impl.Update) { u.Cmds = weigh(21) }, func(u *impl.Update) { u.Cmds = []impl.Cmd{{}} },
			func(u *impl.Update) { u.From, u.Cmds = 11, weigh(1) }),
		configs,
		breaks(impl.ErrForm, func(u *impl.Update) { u.To = 11 }, func(u *impl.Update) { u.To = 13 }, func(u *impl.Update) { u.To = 0 }, func(u *impl.Update) { u.To = 1000000 }),
	}
}

// stepsFaults are the faults of an update of two commands from 12 on, in the order of the chapter.
func stepsFaults() [][]broken[impl.Update] {
	someBad := manyBadConfigs(40)[7]
	return [][]broken[impl.Update]{
		breaks(impl.ErrRange, func(u *impl.Update) { u.From = -1 }, func(u *impl.Update) { u.To = 1000001 }, func(u *impl.Update) { u.From = -1 << 63 }, func(u *impl.Update) { u.To = 1<<63 - 1 }),
		breaks(impl.ErrForm, func(u *impl.Update) { u.Config.Version = 1 }, func(u *impl.Update) { u.Config.Version = -1 }, func(u *impl.Update) { u.Config = atVersion(plainConfig(), 0) },
			func(u *impl.Update) { u.Config.Backends = make([]impl.Backend, 1) }, func(u *impl.Update) { u.Config.Vips = make([]impl.Vip, 1) },
			func(u *impl.Update) { u.Config.Backends = make([]impl.Backend, 9) }, func(u *impl.Update) { u.Config = atVersion(plainConfig(), 14) }, func(u *impl.Update) { u.Config = someBad }),
		breaks(impl.ErrMany, func(u *impl.Update) { u.Cmds = weigh(21) }, func(u *impl.Update) { u.To, u.Cmds = u.From+21, weigh(21) }, func(u *impl.Update) { u.Cmds = make([]impl.Cmd, 21) }),
		breaks(impl.ErrForm, func(u *impl.Update) { u.To = 13 }, func(u *impl.Update) { u.To = 15 }, func(u *impl.Update) { u.From = 11 }, func(u *impl.Update) { u.From, u.To = 14, 12 }),
		slices.Concat(
			breaks(impl.ErrForm, func(u *impl.Update) { u.Cmds = []impl.Cmd{{}, {Kind: impl.CmdWeight}} }, func(u *impl.Update) { u.Cmds = append(weigh(1), cmdOf(10, -1, 0, 0, 0, 0)) }),
			breaks(impl.ErrRange, func(u *impl.Update) { u.Cmds = []impl.Cmd{{Kind: impl.CmdWeight}, {}} }, func(u *impl.Update) { u.Cmds = append(weigh(1), cmdOf(impl.CmdUp, -2, 3, 0, 0, 0)) })),
	}
}

func TestUpdateFaultIsTheFirstOne(t *testing.T) {
	for plain, stages := range map[*impl.Update][][]broken[impl.Update]{{To: 12, Full: true, Config: plainConfig()}: wholeFaults(), {From: 12, To: 14, Cmds: weigh(2)}: stepsFaults()} {
		mustUpdate(t, *plain, impl.OK)
		for place, stage := range stages {
			for _, one := range stage {
				mustUpdate(t, updateWith(*plain, one.do), one.code)
				// Whatever else is broken that is asked behind it.
				for _, other := range slices.Concat(stages[place+1:]...) {
					mustUpdate(t, updateWith(updateWith(*plain, other.do), one.do), one.code)
				}
			}
		}
	}
}

func TestUpdateFaultOfManyUpdates(t *testing.T) {
	for _, u := range manyBadUpdates(20000) {
		mustUpdate(t, u, wantUpdateFault(u))
	}
}

func TestWatchFault(t *testing.T) {
	mustWatch(t, impl.Watch{}, impl.OK)
	mustWatch(t, impl.Watch{Ready: true}, impl.OK)
	mustWatch(t, impl.Watch{Config: impl.Config{Backends: []impl.Backend{}, Vips: []impl.Vip{}}}, impl.OK)
	for _, c := range manyConfigs(500) {
		mustWatch(t, readyOf(c), impl.OK)
		mustWatch(t, impl.Watch{Config: c}, told(!alikeConfigs(c, impl.Config{}), impl.ErrForm))
	}
	// One field alone that is not 0, or one list that is not empty.
	for _, c := range []impl.Config{{Version: 1}, {Version: 1000000}, {Backends: []impl.Backend{backendOf(1, 0, 0, impl.StageOn, false)}}, {Vips: []impl.Vip{vipOf(0, 0, 6)}}} {
		mustWatch(t, impl.Watch{Config: c}, impl.ErrForm)
		mustWatch(t, readyOf(c), impl.OK)
	}
	// The configuration's fault is asked first.
	for _, c := range manyBadConfigs(4000) {
		if want := wantConfigFault(c); want != impl.OK {
			mustWatch(t, readyOf(c), want)
			mustWatch(t, impl.Watch{Config: c}, want)
		}
	}
}
