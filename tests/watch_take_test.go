package tests

import (
	"math/rand"
	"slices"
	"testing"

	"loop.example/g00222/impl"
)

func mustInstall(t *testing.T, w impl.Watch, u impl.Update, want impl.Config) impl.Watch {
	t.Helper()
	answer := impl.TakeUpdate(w, u)
	mustGive(t, answer, impl.WatchResult{Watch: readyOf(want)})
	mustWatch(t, answer.Watch, impl.OK)
	return answer.Watch
}

func mustNotInstall(t *testing.T, w impl.Watch, u impl.Update, code int64) {
	t.Helper()
	mustGive(t, impl.TakeUpdate(w, u), impl.WatchResult{Code: code})
}

// mustKeep wants what is left of a watch when updates have come.
func mustKeep(t *testing.T, w, want impl.Watch, list ...impl.Update) {
	t.Helper()
	answer := impl.TakeMany(w, list)
	mustGive(t, answer, impl.WatchResult{Watch: want})
	mustWatch(t, answer.Watch, impl.OK)
}

func TestTheFirstUpdateOfAWatchIsAWholeOne(t *testing.T) {
	for _, c := range manyConfigs(300) {
		mustInstall(t, impl.Watch{}, wholeOf(c), c)
	}
	// One of commands is not, where it leads from and to whatever.
	for count := range 21 {
		for _, from := range []int64{0, 1, 500, 999980} {
			mustNotInstall(t, impl.Watch{}, stepsOf(from, weigh(count)...), impl.ErrState)
		}
	}
	mustNotInstall(t, impl.Watch{}, stepsOf(0, cmdOf(impl.CmdBackend, 0, 3, 500, 2, 0)), impl.ErrState)
	mustNotInstall(t, impl.Watch{}, stepsOf(1000000), impl.ErrState)
	// What was installed may be nothing, and is version 0 all the same.
	w := mustInstall(t, impl.Watch{}, wholeOf(impl.Config{}), impl.Config{})
	mustNotInstall(t, w, wholeOf(impl.Config{}), impl.ErrOld)
	mustInstall(t, w, stepsOf(0, cmdOf(impl.CmdBackend, 0, 3, 500, 2, 0)), impl.Config{Version: 1, Backends: []impl.Backend{backendOf(3, 500, 2, impl.StageOn, true)}})
}

func TestTakeUpdateOfWholeUpdates(t *testing.T) {
	for _, version := range []int64{0, 1, 12, 999999, 1000000} {
		w := readyOf(atVersion(plainConfig(), version))
		for _, to := range []int64{0, 1, 11, 12, 13, 999998, 999999, 1000000, version} {
			other := impl.Config{Version: to, Backends: []impl.Backend{backendOf(4, 1, 1, impl.StageOn, true)}}
			if to > version {
				// However far it leaps.
				mustInstall(t, w, wholeOf(other), other)
			} else {
				mustNotInstall(t, w, wholeOf(other), impl.ErrOld)
				mustNotInstall(t, w, wholeOf(w.Config), impl.ErrOld)
			}
		}
	}
}

func TestTakeUpdateOfCommands(t *testing.T) {
	l := plainLife(60)
	for _, at := range []int{0, 1, 20, 39} {
		w, version := readyOf(l.all[at]), l.all[at].Version
		for count := 1; count <= 20; count++ {
			mustInstall(t, w, stepsOf(version, l.cmds[at:at+count]...), l.all[at+count])
		}
		mustNotInstall(t, w, stepsOf(version), impl.ErrOld)
		for from := range l.all[:40] {
			for _, count := range []int{0, 1, 2, 19, 20} {
				u := stepsOf(l.all[from].Version, l.cmds[from:from+count]...)
				switch {
				case from+count <= at:
					mustNotInstall(t, w, u, impl.ErrOld)
				case from != at:
					// One that comes from an elder version is none, even if it leads on, and so is one that leaps.
					mustNotInstall(t, w, u, impl.ErrNone)
				}
			}
		}
	}
	// Nothing leads on from the last version.
	end := readyOf(fullConfig())
	for count := range 21 {
		mustNotInstall(t, end, stepsOf(1000000-int64(count), weigh(count)...), impl.ErrOld)
	}
}

func TestTakeUpdateOfACommandInTheMiddleThatIsRefused(t *testing.T) {
	for count := 1; count <= 20; count++ {
		for place := range count {
			for x, code := range refusedCmds() {
				u := stepsOf(12, weigh(count)...)
				u.Cmds[place] = x
				mustNotInstall(t, readyOf(plainConfig()), u, code)
				// Nothing of it is left, neither ahead of the one that is refused nor behind it.
				mustKeep(t, readyOf(plainConfig()), readyOf(plainConfig()), u)
			}
		}
	}
}

func TestTakeUpdateAsksTheFirstCodeFirst(t *testing.T) {
	badWatch, badWhole, badSteps := impl.Watch{Config: plainConfig()}, impl.Update{Full: true, To: 1}, stepsOf(13, impl.Cmd{Kind: impl.CmdWeight})
	badConfig := readyOf(impl.Config{Version: -1})
	// The watch, then the update.
	for _, u := range []impl.Update{badWhole, badSteps, {From: -1}, wholeOf(plainConfig()), stepsOf(12, weigh(1)...), {Cmds: weigh(21)}} {
		mustNotInstall(t, badWatch, u, impl.ErrForm)
		mustNotInstall(t, badConfig, u, impl.ErrRange)
	}
	// The update, then whether the watch is ready, then whether it is late.
	mustNotInstall(t, impl.Watch{}, badWhole, impl.ErrForm)
	mustNotInstall(t, impl.Watch{}, badSteps, impl.ErrRange)
	mustNotInstall(t, impl.Watch{}, impl.Update{Cmds: weigh(21)}, impl.ErrMany)
	mustNotInstall(t, readyOf(fullConfig()), badWhole, impl.ErrForm)
	mustNotInstall(t, readyOf(fullConfig()), badSteps, impl.ErrRange)
	mustNotInstall(t, impl.Watch{}, stepsOf(0), impl.ErrState)
	// Whether it is late, then where it comes from, then what it does.
	refused := cmdOf(impl.CmdUp, -1, 4, 0, 1, 0)
	mustNotInstall(t, readyOf(plainConfig()), stepsOf(10, refused, refused), impl.ErrOld)
	mustNotInstall(t, readyOf(plainConfig()), stepsOf(12), impl.ErrOld)
	mustNotInstall(t, readyOf(plainConfig()), stepsOf(11, refused, cmdOf(impl.CmdVip, 5, 0, 9, 80, 6)), impl.ErrNone)
	mustNotInstall(t, readyOf(plainConfig()), stepsOf(13, cmdOf(impl.CmdVip, 5, 0, 9, 80, 6)), impl.ErrNone)
	mustNotInstall(t, readyOf(plainConfig()), stepsOf(12, refused, cmdOf(impl.CmdVip, 5, 0, 9, 80, 6)), impl.ErrNone)
	mustNotInstall(t, readyOf(plainConfig()), stepsOf(12, cmdOf(impl.CmdVip, 5, 0, 9, 80, 6), refused), impl.ErrOld)
}

func TestTakeUpdateOfWhatHasAFault(t *testing.T) {
	for _, u := range manyBadUpdates(4000) {
		if want := wantUpdateFault(u); want != impl.OK {
			mustNotInstall(t, impl.Watch{}, u, want)
			mustNotInstall(t, readyOf(impl.Config{}), u, want)
			mustNotInstall(t, readyOf(fullConfig()), u, want)
		}
	}
	for _, c := range manyBadConfigs(1000) {
		if want := wantConfigFault(c); want != impl.OK {
			mustNotInstall(t, readyOf(c), wholeOf(fullConfig()), want)
			mustNotInstall(t, impl.Watch{Config: c}, wholeOf(c), want)
			mustGive(t, impl.TakeMany(readyOf(c), nil), impl.WatchResult{Code: want})
		}
	}
}

func TestTakeUpdateOfManyUpdates(t *testing.T) {
	random := rand.New(rand.NewSource(136))
	codes := map[int64]int{}
	for _, l := range manyLives(400) {
		for range 30 {
			w := someWatch(random, l)
			u := nearUpdate(random, l, w)
			answer, want := impl.TakeUpdate(w, u), wantWatch(w, u)
			mustGive(t, answer, want)
			codes[want.Code]++
		}
	}
	mustMeet(t, codes, 50, impl.OK, impl.ErrState, impl.ErrOld, impl.ErrNone, impl.ErrTaken)
}

func TestTakeManyOfHowManyThereAre(t *testing.T) {
	l := plainLife(60)
	var list []impl.Update
	for place, x := range l.cmds {
		list = append(list, stepsOf(l.all[place].Version, x))
	}
	w := readyOf(l.all[0])
	for count := range 41 {
		mustKeep(t, w, readyOf(l.all[count]), list[:count]...)
	}
	mustKeep(t, w, w)
	mustKeep(t, impl.Watch{}, impl.Watch{})
	mustKeep(t, impl.Watch{}, impl.Watch{}, []impl.Update{}...)
	for _, count := range []int{41, 42, 59} {
		mustGive(t, impl.TakeMany(w, list[:count]), impl.WatchResult{Code: impl.ErrMany})
		mustGive(t, impl.TakeMany(impl.Watch{}, make([]impl.Update, count)), impl.WatchResult{Code: impl.ErrMany})
		// Behind the watch's fault.
		mustGive(t, impl.TakeMany(impl.Watch{Config: plainConfig()}, list[:count]), impl.WatchResult{Code: impl.ErrForm})
		mustGive(t, impl.TakeMany(readyOf(impl.Config{Version: 1000001}), list[:count]), impl.WatchResult{Code: impl.ErrRange})
	}
}

func TestTakeManyPassesOverWhatCannotBeTaken(t *testing.T) {
	l := plainLife(9)
	step := func(from, to int) impl.Update { return stepsOf(l.all[from].Version, l.cmds[from:to]...) }
	bad, late, leap, refused := impl.Update{From: -1}, step(0, 1), step(6, 7), stepsOf(13, cmdOf(impl.CmdUp, -1, 4, 0, 1, 0))
	// Those of commands that come ahead of the first whole one are gone.
	mustKeep(t, impl.Watch{}, readyOf(l.all[3]), step(0, 1), wholeOf(l.all[1]), step(1, 3))
	mustKeep(t, impl.Watch{}, impl.Watch{}, step(0, 1), bad, step(1, 3))
	mustKeep(t, impl.Watch{}, readyOf(l.all[2]), bad, wholeOf(l.all[0]), bad, step(0, 1), late, leap, refused, step(1, 2), refused, bad)
	// Twice, late, in leaps, and the other way round.
	mustKeep(t, impl.Watch{}, readyOf(l.all[2]), wholeOf(l.all[1]), step(1, 2), step(1, 2), step(0, 2), wholeOf(l.all[1]), wholeOf(l.all[2]), step(3, 4))
	mustKeep(t, readyOf(l.all[0]), readyOf(l.all[1]), step(3, 4), step(2, 3), step(1, 2), step(0, 1))
	mustKeep(t, readyOf(l.all[0]), readyOf(l.all[8]), step(0, 1), wholeOf(l.all[5]), step(1, 2), step(5, 7), wholeOf(l.all[6]), step(7, 8))
	// One that is taken as a whole may be of other versions than those that were there.
	other := impl.Config{Version: 14, Vips: []impl.Vip{vipOf(1, 1, 17)}}
	mustKeep(t, readyOf(l.all[0]), readyOf(other), step(0, 1), wholeOf(other), step(2, 3), wholeOf(l.all[2]))
}

func TestTakeManyIsOneUpdateBehindTheOther(t *testing.T) {
	random := rand.New(rand.NewSource(137))
	bad := manyBadUpdates(200)
	for _, l := range manyLives(300) {
		w := someWatch(random, l)
		one, list := w, []impl.Update(nil)
		for range random.Intn(41) {
			u := nearUpdate(random, l, one)
			if random.Intn(6) == 0 {
				u = bad[random.Intn(len(bad))]
			}
			list = append(list, u)
			if answer := impl.TakeUpdate(one, u); answer.Code == impl.OK {
				one = answer.Watch
			}
		}
		mustKeep(t, w, one, list...)
		mustGive(t, impl.TakeMany(w, list), wantWatched(w, list))
		// In two parts it comes to the same.
		at := random.Intn(len(list) + 1)
		mustKeep(t, impl.TakeMany(w, list[:at]).Watch, one, list[at:]...)
	}
}

func TestAWatchNeverGoesBack(t *testing.T) {
	random := rand.New(rand.NewSource(138))
	lives, bad := manyLives(200), manyBadUpdates(400)
	taken, refused := 0, 0
	for i, l := range lives {
		w := impl.Watch{}
		for range 60 {
			u := nearUpdate(random, l, w)
			switch random.Intn(8) {
			case 0:
				u = someUpdate(random, lives[(i+1)%len(lives)])
			case 1:
				u = bad[random.Intn(len(bad))]
			}
			answer := impl.TakeUpdate(w, u)
			if answer.Code != impl.OK {
				refused++
				continue
			}
			taken++
			next := answer.Watch
			if !next.Ready || w.Ready && next.Config.Version <= w.Config.Version || next.Config.Version != u.To || impl.WatchFault(next) != impl.OK {
				t.Fatalf("%s takes %s, and is %s", short(w), short(u), short(next))
			}
			w = next
		}
	}
	if taken < 500 || refused < 1000 {
		t.Errorf("%d were taken, and %d were not", taken, refused)
	}
}

func TestAWatchHasAVersionThatThereWas(t *testing.T) {
	random := rand.New(rand.NewSource(139))
	for _, l := range manyLives(200) {
		var list []impl.Update
		for range 40 {
			at := random.Intn(len(l.all))
			steps := stepsOf(l.all[at].Version, l.cmds[at:min(at+random.Intn(4), len(l.cmds))]...)
			list = append(list, []impl.Update{wholeOf(l.all[random.Intn(at+1)]), steps, steps, steps}[random.Intn(4)])
		}
		// They come in turn for the most part, some of them late, or twice.
		slices.SortStableFunc(list, func(a, b impl.Update) int { return int(a.To - b.To + random.Int63n(3) - 1) })
		for count := range 41 {
			w := impl.TakeMany(impl.Watch{}, list[:count]).Watch
			if w.Ready && !alikeConfigs(w.Config, l.all[w.Config.Version-l.first()]) {
				t.Fatalf("the watch has %s, which is no version of %s", short(w), short(l))
			}
		}
	}
}
