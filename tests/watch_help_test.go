package tests

import (
	"cmp"
	"math/rand"
	"slices"
	"testing"

	"loop.example/g00222/impl"
)

// wholeOf is the update that is a configuration as a whole.
func wholeOf(c impl.Config) impl.Update {
	return impl.Update{To: c.Version, Full: true, Config: c}
}

// stepsOf is the update of commands from a version on.
func stepsOf(from int64, list ...impl.Cmd) impl.Update {
	return impl.Update{From: from, To: from + int64(len(list)), Cmds: list}
}

func readyOf(c impl.Config) impl.Watch {
	return impl.Watch{Ready: true, Config: c}
}

func atVersion(c impl.Config, version int64) impl.Config {
	c = cloneConfig(c)
	c.Version = version
	return c
}

// updateWith gives a copy of an update with something turned.
func updateWith(u impl.Update, do func(u *impl.Update)) impl.Update {
	u = shaped(shape{}, u)
	do(&u)
	return u
}

// weigh gives so many commands that each can be done to the plain configuration, and leave a backend with another weight.
func weigh(count int) []impl.Cmd {
	var list []impl.Cmd
	for i := range count {
		list = append(list, cmdOf(impl.CmdWeight, -1, 3, 0, int64(9-i%3), 0))
	}
	return list
}

// life is versions one behind the other, and the commands between them.
type life struct {
	all  []impl.Config
	cmds []impl.Cmd
}

func (l life) first() int64 { return l.all[0].Version }

func (l life) last() impl.Config { return l.all[len(l.all)-1] }

// someLife gives so many versions from one on.
func someLife(random *rand.Rand, first impl.Config, count int) life {
	first.Version = min(first.Version, 1000001-int64(count))
	l := life{all: []impl.Config{first}}
	for len(l.all) < count {
		x := someCmd(random, l.last())
		if code, next := wantApply(l.last(), x); code == impl.OK {
			l.all, l.cmds = append(l.all, next), append(l.cmds, x)
		}
	}
	return l
}

// plainLife has so many versions from 12 on.
func plainLife(count int) life {
	l := life{all: []impl.Config{plainConfig()}}
	for i, x := range weigh(count - 1) {
		next := atVersion(plainConfig(), 13+int64(i))
		next.Backends[0].Weight = x.Number
		l.all, l.cmds = append(l.all, next), append(l.cmds, x)
	}
	return l
}

// manyLives gives lives of one version, of as many as there may be, up to the last version that there is, and some of all kinds.
func manyLives(count int) []life {
	random := rand.New(rand.NewSource(131))
	lives := []life{someLife(random, impl.Config{}, 1), someLife(random, impl.Config{}, 60), someLife(random, fullConfig(), 1), someLife(random, fullConfig(), 60), plainLife(60)}
	for i := range count {
		lives = append(lives, someLife(random, someConfig(random), 1+random.Intn([]int{3, 12, 60}[i%3])))
	}
	return lives
}

// someWatch gives a watch that has a version of a life, or nothing.
func someWatch(random *rand.Rand, l life) impl.Watch {
	if random.Intn(6) == 0 {
		return impl.Watch{}
	}
	return readyOf(l.all[random.Intn(len(l.all))])
}

// someUpdate gives an update of a life: whole, or of commands; now and then of others than those that stand there.
func someUpdate(random *rand.Rand, l life) impl.Update {
	at := random.Intn(len(l.all))
	if random.Intn(3) == 0 {
		return wholeOf(l.all[at])
	}
	return stepsOf(l.all[at].Version, otherCmds(random, l.cmds[at:min(at+random.Intn(21), len(l.cmds))])...)
}

// otherCmds gives commands of which now and then one is another one, that perhaps cannot be done.
func otherCmds(random *rand.Rand, list []impl.Cmd) []impl.Cmd {
	list = slices.Clone(list)
	if len(list) > 0 && random.Intn(4) == 0 {
		list[random.Intn(len(list))] = append(plainCmds(), list...)[random.Intn(9)]
	}
	return list
}

// nearUpdate gives an update that a watch may well take.
func nearUpdate(random *rand.Rand, l life, w impl.Watch) impl.Update {
	at := int(w.Config.Version - l.first())
	if !w.Ready || at < 0 || at >= len(l.cmds) || random.Intn(3) == 0 {
		return someUpdate(random, l)
	}
	return stepsOf(w.Config.Version, otherCmds(random, l.cmds[at:at+1+random.Intn(min(2, len(l.cmds)-at))])...)
}

// spoilUpdate breaks one thing of an update, or hits none.
func spoilUpdate(random *rand.Rand, u *impl.Update) {
	wrong := func(list ...int64) int64 { return append(list, farNumbers...)[random.Intn(len(list)*4)] }
	switch random.Intn(8) {
	case 0:
		u.From = wrong(-1, 1000001, 0, 1, u.From+1, u.From-1)
	case 1:
		u.To = wrong(-1, 1000001, 0, 1, u.To+1, u.To-1)
	case 2:
		u.Full = !u.Full
	case 3:
		u.Config = plainConfig()
	case 4:
		u.Config = cloneConfig(u.Config)
		for range 3 {
			spoilConfig(random, &u.Config)
		}
	case 5:
		u.Cmds = append(slices.Clone(u.Cmds), weigh(1+random.Intn(21))...)
	case 6:
		more := weigh(1 + random.Intn(21))
		u.Cmds, u.To = append(slices.Clone(u.Cmds), more...), u.To+int64(len(more))
	case 7:
		u.Cmds = slices.Clone(u.Cmds)
		if len(u.Cmds) > 0 {
			spoilCmd(random, &u.Cmds[random.Intn(len(u.Cmds))])
		}
	}
}

func spoilCmd(random *rand.Rand, x *impl.Cmd) {
	fields := fieldsOf(x)
	all := append(fields[:], &x.Kind, &x.Expect)
	*all[random.Intn(len(all))] = append([]int64{-2, 0, 10, 1000, 65536, 1000001}, farNumbers...)[random.Intn(12)]
}

// manyBadUpdates gives updates of which nearly all have one fault or several.
func manyBadUpdates(count int) []impl.Update {
	random := rand.New(rand.NewSource(132))
	lives := manyLives(60)
	var list []impl.Update
	for i := range count {
		u := someUpdate(random, lives[random.Intn(len(lives))])
		for range 1 + i%3 {
			spoilUpdate(random, &u)
		}
		list = append(list, u)
	}
	return list
}

// wantUpdateFault names all codes in their order, and takes the first that is so.
func wantUpdateFault(u impl.Update) int64 {
	far := told(outside(u.From, 0, 1000000) || outside(u.To, 0, 1000000), impl.ErrRange)
	if u.Full {
		return cmp.Or(far, told(u.From != 0 || len(u.Cmds) != 0, impl.ErrForm), wantConfigFault(u.Config), told(u.Config.Version != u.To, impl.ErrForm))
	}
	codes := []int64{far, told(!alikeConfigs(u.Config, impl.Config{}), impl.ErrForm), told(len(u.Cmds) > 20, impl.ErrMany), told(u.From+int64(len(u.Cmds)) != u.To, impl.ErrForm)}
	for _, x := range u.Cmds {
		codes = append(codes, wantCmdFault(x))
	}
	return cmp.Or(codes...)
}

func wantWatchFault(w impl.Watch) int64 {
	return cmp.Or(wantConfigFault(w.Config), told(!w.Ready && !alikeConfigs(w.Config, impl.Config{}), impl.ErrForm))
}

// wantSteps does commands to a configuration without a fault, until one has a code.
func wantSteps(c impl.Config, list []impl.Cmd) (int64, impl.Config) {
	if len(list) == 0 {
		return impl.OK, c
	}
	code, next := wantApply(c, list[0])
	if code != impl.OK {
		return code, impl.Config{}
	}
	return wantSteps(next, list[1:])
}

func wantStep(c impl.Config, list []impl.Cmd) impl.UpdateResult {
	code := cmp.Or(wantConfigFault(c), told(len(list) > 20, impl.ErrMany))
	if code == impl.OK {
		code, _ = wantSteps(c, list)
	}
	if code != impl.OK {
		return impl.UpdateResult{Code: code}
	}
	return impl.UpdateResult{Update: stepsOf(c.Version, list...)}
}

// wantWatch reads a watch that has nothing as one of a version below all others.
func wantWatch(w impl.Watch, u impl.Update) impl.WatchResult {
	has := map[bool]int64{true: w.Config.Version, false: -1}[w.Ready]
	code, next := cmp.Or(wantWatchFault(w), wantUpdateFault(u)), u.Config
	if code == impl.OK {
		code = cmp.Or(told(has < 0 && !u.Full, impl.ErrState), told(u.To <= has, impl.ErrOld), told(!u.Full && u.From != has, impl.ErrNone))
	}
	if code == impl.OK && !u.Full {
		code, next = wantSteps(w.Config, u.Cmds)
	}
	if code != impl.OK {
		return impl.WatchResult{Code: code}
	}
	return impl.WatchResult{Watch: readyOf(next)}
}

func wantWatched(w impl.Watch, list []impl.Update) impl.WatchResult {
	if code := cmp.Or(wantWatchFault(w), told(len(list) > 40, impl.ErrMany)); code != impl.OK {
		return impl.WatchResult{Code: code}
	}
	for _, u := range list {
		if answer := wantWatch(w, u); answer.Code == impl.OK {
			w = answer.Watch
		}
	}
	return impl.WatchResult{Watch: w}
}

// wantServe counts back from the last one.
func wantServe(all []impl.Config, cmds []impl.Cmd, from int64) impl.UpdateResult {
	codes := []int64{told(outside(int64(len(all)), 1, 60) || len(all) != len(cmds)+1, impl.ErrMany)}
	for i, c := range all {
		codes = append(codes, wantConfigFault(c), told(c.Version-all[0].Version != int64(i), impl.ErrForm))
	}
	for _, x := range cmds {
		codes = append(codes, wantCmdFault(x))
	}
	if code := cmp.Or(append(codes, told(from < 0, impl.ErrRange))...); code != impl.OK {
		return impl.UpdateResult{Code: code}
	}
	last := all[len(all)-1]
	for back := 1; back <= 4 && back <= len(cmds); back++ {
		if last.Version == from+int64(back) {
			return impl.UpdateResult{Update: stepsOf(from, cmds[len(cmds)-back:]...)}
		}
	}
	return impl.UpdateResult{Update: wholeOf(last)}
}

func mustUpdate(t *testing.T, u impl.Update, want int64) {
	t.Helper()
	if code := impl.UpdateFault(u); code != want {
		t.Errorf("the fault of the update %s is %d, not %d", short(u), code, want)
	}
}

func mustWatch(t *testing.T, w impl.Watch, want int64) {
	t.Helper()
	if code := impl.WatchFault(w); code != want {
		t.Errorf("the fault of the watch %s is %d, not %d", short(w), code, want)
	}
}

func TestWatchHelpersAgreeWithEachOther(t *testing.T) {
	random := rand.New(rand.NewSource(133))
	taken := map[int64]int{}
	for _, l := range manyLives(200) {
		if len(l.cmds) != len(l.all)-1 || l.last().Version != l.first()+int64(len(l.cmds)) || l.last().Version > 1000000 {
			t.Fatalf("%s is no life", short(l))
		}
		if code, last := wantSteps(l.all[0], l.cmds); code != impl.OK || !alikeConfigs(last, l.last()) {
			t.Fatalf("%s does not lead to its last version", short(l))
		}
		for range 40 {
			w := someWatch(random, l)
			u := nearUpdate(random, l, w)
			if wantUpdateFault(u) != impl.OK || wantWatchFault(w) != impl.OK {
				t.Fatalf("%s or %s has a fault", short(u), short(w))
			}
			taken[wantWatch(w, u).Code]++
		}
	}
	mustMeet(t, taken, 20, impl.OK, impl.ErrState, impl.ErrOld, impl.ErrNone, impl.ErrTaken)
	codes := map[int64]int{}
	for _, u := range manyBadUpdates(4000) {
		codes[wantUpdateFault(u)]++
	}
	mustMeet(t, codes, 100, impl.ErrForm, impl.ErrMany, impl.ErrRange)
}
