package tests

import (
	"math/rand"
	"slices"
	"testing"

	"loop.example/g00222/impl"
)

// watchAsked is what the functions of the layer are asked with.
type watchAsked struct {
	c    impl.Config
	cmds []impl.Cmd
	w    impl.Watch
	u    impl.Update
	list []impl.Update
	all  []impl.Config
	more []impl.Cmd
	from int64
}

// watchQuestions pairs watches, updates and lives with and without a fault.
func watchQuestions() []watchAsked {
	random := rand.New(rand.NewSource(142))
	lives, bad, broken := manyLives(100), manyBadUpdates(60), manyBadConfigs(60)
	none := watchAsked{cmds: []impl.Cmd{}, u: impl.Update{Cmds: []impl.Cmd{}}, list: []impl.Update{}, all: []impl.Config{}, more: []impl.Cmd{}}
	all := []watchAsked{{}, none, {w: readyOf(plainConfig())}, {w: readyOf(plainConfig()), u: stepsOf(12)}}
	for i := range 500 {
		l := lives[i%len(lives)]
		at := random.Intn(len(l.all))
		q := watchAsked{w: someWatch(random, l), c: l.all[at], cmds: otherCmds(random, l.cmds[at:min(len(l.cmds), at+random.Intn(22))]), all: l.all, more: l.cmds}
		q.u, q.from = nearUpdate(random, l, q.w), l.last().Version-random.Int63n(8)+1
		for range random.Intn(12) {
			q.list = append(q.list, nearUpdate(random, l, q.w))
		}
		switch i % 16 {
		case 0:
			q.u, q.c = bad[random.Intn(len(bad))], broken[random.Intn(len(broken))]
		case 1:
			q.w.Config, q.list = broken[random.Intn(len(broken))], append(q.list, bad...)
		case 2:
			q.w.Ready, q.list = false, append(q.list, bad[random.Intn(len(bad))])
		case 3:
			q.from, q.more = farNumbers[random.Intn(len(farNumbers))], l.cmds[:len(l.cmds)/2]
		}
		all = append(all, q)
	}
	return all
}

// updatesOf calls the functions of the layer that answer with lists.
func updatesOf(q watchAsked) []any {
	return []any{impl.FullUpdate(q.c), impl.StepUpdate(q.c, q.cmds), impl.TakeUpdate(q.w, q.u), impl.TakeUpdate(q.w, wholeOf(q.c)),
		impl.TakeMany(q.w, q.list), impl.TakeMany(q.w, nil), impl.ServeFrom(q.all, q.more, q.from), impl.ServeFrom(q.all, q.more, 1000001)}
}

// askWatches calls every function of the layer and gives all that they answer.
func askWatches(q watchAsked) []any {
	return append(updatesOf(q), impl.UpdateFault(q.u), impl.WatchFault(q.w))
}

// laid gives a question whose lists lie as told.
func (q watchAsked) laid(s shape) watchAsked {
	q.c, q.cmds, q.w, q.u = shaped(s, q.c), shaped(s, q.cmds), shaped(s, q.w), shaped(s, q.u)
	q.list, q.all, q.more = shaped(s, q.list), shaped(s, q.all), shaped(s, q.more)
	return q
}

func TestWatchesAnswerTheSameEachTime(t *testing.T) {
	mustAnswerTheSame(t, watchQuestions(), askWatches)
}

func TestWatchesStayAsTheyWere(t *testing.T) {
	mustStayAsTheyWere(t, watchQuestions(), askWatches)
}

func TestWatchesAnswerTheSameHoweverTheirListsLie(t *testing.T) {
	mustAnswerHoweverListsLie(t, watchQuestions(), askWatches)
}

func TestWatchesAnswerNewMemory(t *testing.T) {
	for _, q := range watchQuestions() {
		q = q.laid(shape{room: 2})
		again := updatesOf(q)
		for i, answer := range updatesOf(q) {
			if !lieApart(answer, q.c, q.cmds, q.w, q.u, q.list, q.all, q.more, again[i]) {
				t.Fatalf("answer %d to %s shares memory with it, or with what it gives again, or within itself", i, short(q))
			}
		}
	}
}

func TestWatchesWhoseListsAreOneGetTheirOwn(t *testing.T) {
	// Who hands in two vips with one list of names gets two, whatever is taken.
	names := shaped(shape{room: 2}, []int64{3, 8})
	c := plainConfig()
	for i := range c.Vips {
		c.Vips[i].Names = names
	}
	later := atVersion(c, 20)
	later.Vips[0].Names, later.Vips[1].Names, later.Vips[2].Names = names, names, names
	for _, answer := range []any{
		impl.FullUpdate(c), impl.TakeUpdate(impl.Watch{}, wholeOf(c)), impl.TakeUpdate(readyOf(c), wholeOf(later)), impl.TakeUpdate(readyOf(c), stepsOf(12, weigh(2)...)),
		impl.TakeMany(readyOf(c), nil), impl.TakeMany(readyOf(c), []impl.Update{{From: -1}}), impl.TakeMany(readyOf(c), []impl.Update{wholeOf(later)}),
		impl.ServeFrom([]impl.Config{c}, nil, 12),
	} {
		if !lieApart(answer, c, later) {
			t.Errorf("two lists of %s are one", short(answer))
		}
	}
}

func TestWatchesHangOnNothingThatWasAskedAhead(t *testing.T) {
	// A later version that another call installed is not known to this one.
	for range 3 {
		mustInstall(t, impl.Watch{}, wholeOf(fullConfig()), fullConfig())
		mustInstall(t, impl.Watch{}, wholeOf(plainConfig()), plainConfig())
		mustNotInstall(t, impl.Watch{}, stepsOf(12, weigh(1)...), impl.ErrState)
		mustKeep(t, impl.Watch{}, readyOf(plainConfig()), wholeOf(plainConfig()))
		mustKeep(t, impl.Watch{}, impl.Watch{}, stepsOf(12, weigh(1)...))
	}
}

func TestWatchesOfVeryLongLists(t *testing.T) {
	cmds, updates, all := make([]impl.Cmd, 100000), make([]impl.Update, 100000), make([]impl.Config, 100000)
	crowd := impl.Config{Backends: slices.Repeat(plainConfig().Backends, 10000)}
	mustUpdate(t, impl.Update{Cmds: cmds}, impl.ErrMany)
	mustUpdate(t, impl.Update{Full: true, Cmds: cmds}, impl.ErrForm)
	mustUpdate(t, wholeOf(crowd), impl.ErrMany)
	mustUpdate(t, impl.Update{Config: crowd}, impl.ErrForm)
	mustWatch(t, readyOf(crowd), impl.ErrMany)
	mustNotStep(t, plainConfig(), cmds, impl.ErrMany)
	mustNotStep(t, crowd, cmds, impl.ErrMany)
	mustNotInstall(t, readyOf(plainConfig()), impl.Update{Cmds: cmds}, impl.ErrMany)
	mustGive(t, impl.TakeMany(readyOf(plainConfig()), updates), impl.WatchResult{Code: impl.ErrMany})
	mustNotServe(t, life{all, cmds[:99999]}, 0, impl.ErrMany)
	mustNotServe(t, life{[]impl.Config{{}}, cmds}, 0, impl.ErrMany)
}
