package tests

import (
	"math/rand"
	"slices"
	"testing"

	"loop.example/g00222/impl"
)

func mustServe(t *testing.T, l life, from int64, want impl.Update) {
	t.Helper()
	answer := impl.ServeFrom(l.all, l.cmds, from)
	mustGive(t, answer, impl.UpdateResult{Update: want})
	mustUpdate(t, answer.Update, impl.OK)
}

func mustNotServe(t *testing.T, l life, from, code int64) {
	t.Helper()
	mustGive(t, impl.ServeFrom(l.all, l.cmds, from), impl.UpdateResult{Code: code})
}

// lifeWith gives a copy of a life with something turned.
func lifeWith(l life, do func(l *life)) life {
	l.all, l.cmds = shaped(shape{}, l.all), slices.Clone(l.cmds)
	do(&l)
	return l
}

func TestServeFromEachVersion(t *testing.T) {
	// Versions 12 to 21.
	l := plainLife(10)
	for back := range int64(10) {
		want := wholeOf(l.all[9])
		if back > 0 && back < 5 {
			want = impl.Update{From: 21 - back, To: 21, Cmds: l.cmds[9-back:]}
		}
		mustServe(t, l, 21-back, want)
	}
	// Those that are not among all: ahead of the first one, behind the last one.
	for _, from := range append([]int64{0, 1, 10, 11, 22, 23, 1000000, 1000001}, farNumbers...) {
		if from >= 0 {
			mustServe(t, l, from, wholeOf(l.all[9]))
		} else {
			mustNotServe(t, l, from, impl.ErrRange)
		}
	}
}

func TestServeFromFewVersions(t *testing.T) {
	for count := 1; count <= 6; count++ {
		for _, first := range []int64{0, 1, 500, 1000001 - int64(count)} {
			l := life{cmds: weigh(count - 1)}
			for place := range count {
				l.all = append(l.all, atVersion(plainConfig(), first+int64(place)))
			}
			last := first + int64(count) - 1
			for from := max(0, first-6); from < last+7; from++ {
				want := wholeOf(l.all[count-1])
				// 4 below the last one, or less, but not ahead of the first one.
				if from >= first && from < last && from+4 >= last {
					want = stepsOf(from, weigh(count - 1)[from-first:]...)
				}
				mustServe(t, l, from, want)
			}
			mustNotServe(t, l, -1, impl.ErrRange)
		}
	}
}

func TestServeFromOfHowManyThereAre(t *testing.T) {
	for _, count := range []int{1, 2, 59, 60} {
		l := plainLife(count)
		mustServe(t, l, 0, wholeOf(l.all[count-1]))
		// As many commands, two fewer, one more than that.
		for _, cmds := range [][]impl.Cmd{weigh(count), weigh(count + 1), weigh(max(count-2, 1))} {
			if len(cmds) != count-1 {
				mustNotServe(t, life{l.all, cmds}, 0, impl.ErrMany)
				mustNotServe(t, life{l.all, cmds}, -1, impl.ErrMany)
			}
		}
	}
	mustNotServe(t, life{}, 0, impl.ErrMany)
	mustNotServe(t, life{cmds: weigh(1)}, 0, impl.ErrMany)
	mustNotServe(t, life{all: []impl.Config{}, cmds: []impl.Cmd{}}, 0, impl.ErrMany)
	mustServe(t, life{all: []impl.Config{{}}, cmds: []impl.Cmd{}}, 0, impl.Update{Full: true})
	for _, count := range []int{61, 62, 120} {
		l := plainLife(count)
		mustNotServe(t, l, 12, impl.ErrMany)
		mustNotServe(t, l, l.last().Version-1, impl.ErrMany)
		// Ahead of what the configurations and the commands are.
		mustNotServe(t, life{make([]impl.Config, count), make([]impl.Cmd, count-1)}, -1, impl.ErrMany)
	}
}

func TestServeFromOfVersionsThatAreNotTheirPlaces(t *testing.T) {
	for _, count := range []int{2, 3, 9, 60} {
		l := plainLife(count)
		for place := range count {
			for _, version := range []int64{0, 11, 12 + int64(place) - 1, 12 + int64(place) + 1, 1000000} {
				turned := lifeWith(l, func(l *life) { l.all[place].Version = version })
				mustNotServe(t, turned, 12, impl.ErrForm)
			}
		}
		mustNotServe(t, lifeWith(l, func(l *life) { slices.Reverse(l.all) }), 12, impl.ErrForm)
		mustNotServe(t, lifeWith(l, func(l *life) { l.all[count-1] = l.all[count-2] }), 12, impl.ErrForm)
	}
	// The first one may be any; the last one is not to be behind the last version.
	mustServe(t, life{[]impl.Config{{Version: 999999}, {Version: 1000000}}, weigh(1)}, 999999, stepsOf(999999, weigh(1)...))
	mustNotServe(t, life{[]impl.Config{{Version: 1000000}, {Version: 1000001}}, weigh(1)}, 999999, impl.ErrRange)
	mustNotServe(t, life{[]impl.Config{{Version: 1 << 62}, {Version: 1<<62 + 1}}, weigh(1)}, 999999, impl.ErrRange)
}

// lifeFaults are the faults of the plain life of nine versions, in the order of the chapter; those of configurations one by one.
func lifeFaults() [][]broken[life] {
	all := [][]broken[life]{
		breaks(impl.ErrMany, func(l *life) { l.all = nil }, func(l *life) { l.all = l.all[:8] }, func(l *life) { l.cmds = nil }, func(l *life) { l.cmds = l.cmds[:7] }, func(l *life) { l.cmds = weigh(9) }),
	}
	for place := range 9 {
		var configs []broken[life]
		for _, c := range manyBadConfigs(20) {
			if code := wantConfigFault(c); code != impl.OK {
				configs = append(configs, breaks(code, func(l *life) {
					if place < len(l.all) {
						l.all[place] = c
					}
				})...)
			}
		}
		all = append(all, configs)
		if place > 0 {
			all = append(all, breaks(impl.ErrForm, func(l *life) { l.all[place].Version++ }, func(l *life) { l.all[place].Version = 0 }, func(l *life) { l.all[place] = fullConfig() }))
		}
	}
	for place := range 8 {
		all = append(all, slices.Concat(
			breaks(impl.ErrForm, func(l *life) { l.cmds[place] = impl.Cmd{} }, func(l *life) { l.cmds[place].Addr = 1 }),
			breaks(impl.ErrRange, func(l *life) { l.cmds[place].Number = 10 }, func(l *life) { l.cmds[place].Expect = 1000001 })))
	}
	return all
}

func TestServeFromAsksTheFirstCodeFirst(t *testing.T) {
	stages := lifeFaults()
	for place, stage := range stages {
		for _, one := range stage {
			mustNotServe(t, lifeWith(plainLife(9), one.do), 18, one.code)
			// Whatever else is broken that is asked behind it, a version that is none too.
			for _, other := range slices.Concat(stages[place+1:]...) {
				l := lifeWith(plainLife(9), other.do)
				mustNotServe(t, lifeWith(l, one.do), -1, one.code)
			}
		}
	}
	mustNotServe(t, plainLife(9), -1, impl.ErrRange)
}

func TestServeFromDoesNotAskWhatCommandsDo(t *testing.T) {
	// Commands that do not lead from one to the other are served as they stand.
	cmds := []impl.Cmd{cmdOf(impl.CmdUp, 7, 4, 0, 1, 0), cmdOf(impl.CmdForget, 3, 999, 0, 0, 0)}
	l := life{[]impl.Config{atVersion(plainConfig(), 5), {Version: 6}, atVersion(fullConfig(), 7)}, cmds}
	mustServe(t, l, 5, stepsOf(5, cmds...))
	mustServe(t, l, 6, stepsOf(6, cmds[1]))
	mustServe(t, l, 7, wholeOf(l.all[2]))
}

func TestServeFromOfManyLives(t *testing.T) {
	random := rand.New(rand.NewSource(140))
	codes, steps := map[int64]int{}, 0
	for _, l := range manyLives(600) {
		for range 12 {
			turned, from := l, l.last().Version-random.Int63n(8)+1
			switch random.Intn(12) {
			case 0:
				turned = lifeWith(l, func(l *life) { spoilConfig(random, &l.all[random.Intn(len(l.all))]) })
			case 1:
				turned = lifeWith(l, func(l *life) { l.cmds = append(l.cmds, weigh(1)...) })
			case 2:
				if len(l.cmds) > 0 {
					turned = lifeWith(l, func(l *life) { spoilCmd(random, &l.cmds[random.Intn(len(l.cmds))]) })
				}
			case 3:
				from = random.Int63n(1000001)
			}
			want := wantServe(turned.all, turned.cmds, from)
			mustGive(t, impl.ServeFrom(turned.all, turned.cmds, from), want)
			codes[want.Code]++
			steps += len(want.Update.Cmds)
		}
	}
	mustMeet(t, codes, 30, impl.OK, impl.ErrMany, impl.ErrRange, impl.ErrForm)
	if steps < 1000 {
		t.Errorf("only %d commands are served", steps)
	}
}

func TestWhatIsServedLeadsToTheLastVersion(t *testing.T) {
	for _, l := range manyLives(300) {
		for place, c := range l.all {
			served := impl.ServeFrom(l.all, l.cmds, c.Version)
			if served.Code != impl.OK || served.Update.To != l.last().Version {
				t.Fatalf("%s is served to %d", short(served), c.Version)
			}
			if place < len(l.cmds) {
				mustInstall(t, readyOf(c), served.Update, l.last())
			} else {
				// Who has the last one needs none.
				mustNotInstall(t, readyOf(c), served.Update, impl.ErrOld)
			}
			mustKeep(t, readyOf(c), readyOf(l.last()), served.Update, served.Update)
		}
		// Who has nothing asks for a version that is not among all.
		if l.first() > 0 {
			mustInstall(t, impl.Watch{}, impl.ServeFrom(l.all, l.cmds, l.first()-1).Update, l.last())
		}
		mustInstall(t, impl.Watch{}, impl.ServeFrom(l.all, l.cmds, l.last().Version+1).Update, l.last())
	}
}

func TestEntriesAreServedAndWatched(t *testing.T) {
	// Configurations that entries made, served to a watch that has now and then seen one of them.
	random := rand.New(rand.NewSource(141))
	served := 0
	for _, list := range manyStories(200) {
		versions := impl.VersionsOf(list).Configs
		if len(versions) == 0 || len(versions) > 60 {
			continue
		}
		l := life{all: versions}
		var m impl.Machine
		for _, x := range list {
			done := impl.ApplyEntry(m, x)
			if done.Fresh && done.Reply == impl.OK {
				l.cmds = append(l.cmds, x.Cmd)
			}
			m = done.Machine
		}
		w := impl.TakeUpdate(impl.Watch{}, impl.FullUpdate(impl.Config{}).Update).Watch
		for count := 1; count <= len(versions); count += 1 + random.Intn(8) {
			u := impl.ServeFrom(l.all[:count], l.cmds[:count-1], w.Config.Version).Update
			w = impl.TakeMany(w, []impl.Update{u}).Watch
			mustGive(t, w, readyOf(versions[count-1]))
			served++
		}
	}
	if served < 300 {
		t.Errorf("only %d updates were served", served)
	}
}
