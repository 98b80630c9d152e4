package tests

import (
	"math/rand"
	"reflect"
	"testing"

	"loop.example/g00222/impl"
)

// machineAsked is what the functions of the layer are asked with.
type machineAsked struct {
	m, other    impl.Machine
	x           impl.Entry
	list        []impl.Entry
	client, seq int64
}

// machineQuestions pairs machines and entries with and without a fault, and numbers that they have, that are near, or far.
func machineQuestions() []machineAsked {
	random := rand.New(rand.NewSource(120))
	machines := append(manyMachines(150), manyBadMachines(150)...)
	stories := append(manyStories(90), manyBadLogs(30)...)
	all := []machineAsked{{}, {m: impl.Machine{Sessions: []impl.Session{}}, list: []impl.Entry{}}}
	for i := range 600 {
		q := machineAsked{m: machines[i%len(machines)], other: machines[random.Intn(len(machines))], x: someEntry(random, 1), list: stories[i%len(stories)]}
		q.client, q.seq = random.Int63n(1000), random.Int63n(9)
		if len(q.m.Sessions) > 0 && i%3 > 0 {
			session := q.m.Sessions[random.Intn(len(q.m.Sessions))]
			q.client, q.seq = session.Client, session.Seq-1+random.Int63n(3)
			q.x.Client, q.x.Seq = q.client, q.seq
		}
		if i%20 == 0 {
			q.client, q.seq = farNumbers[random.Intn(len(farNumbers))], farNumbers[random.Intn(len(farNumbers))]
			spoilEntry(random, &q.x)
		}
		all = append(all, q)
	}
	return all
}

// machinesOf calls the functions of the layer that answer with lists.
func machinesOf(q machineAsked) []any {
	return []any{impl.ApplyEntry(q.m, q.x), impl.ApplyEntry(q.m, impl.Entry{Term: 1}), impl.ReplayEntries(q.list), impl.VersionsOf(q.list)}
}

// askMachines calls every function of the layer and gives all that they answer.
func askMachines(q machineAsked) []any {
	return append(machinesOf(q), impl.MachineFault(q.m), impl.ReplyOf(q.m, q.client, q.seq),
		impl.SameMachines(q.m, q.other), impl.SameMachines(q.other, q.m), impl.SameMachines(q.m, q.m))
}

func TestMachinesAnswerTheSameEachTime(t *testing.T) {
	mustAnswerTheSame(t, machineQuestions(), askMachines)
}

func TestMachinesStayAsTheyWere(t *testing.T) {
	for _, q := range machineQuestions() {
		q.m, q.other, q.list = shaped(shape{room: 2}, q.m), shaped(shape{room: 2}, q.other), shaped(shape{room: 2}, q.list)
		m, other, list := shaped(shape{whole: true}, q.m), shaped(shape{whole: true}, q.other), shaped(shape{whole: true}, q.list)
		askMachines(q)
		if !reflect.DeepEqual(shaped(shape{whole: true}, q.m), m) || !reflect.DeepEqual(shaped(shape{whole: true}, q.other), other) || !reflect.DeepEqual(shaped(shape{whole: true}, q.list), list) {
			t.Fatalf("%s, or the room behind its lists, was changed", short(q.m))
		}
	}
}

func TestMachinesAnswerTheSameHoweverTheirListsLie(t *testing.T) {
	for _, q := range machineQuestions() {
		asked := func(s shape) []any {
			laid := q
			laid.m, laid.other, laid.list = shaped(s, q.m), shaped(s, q.other), shaped(s, q.list)
			return askMachines(laid)
		}
		first := asked(shape{})
		for _, s := range []shape{{room: 2}, {empty: true}} {
			if second := asked(s); !reflect.DeepEqual(first, second) {
				t.Fatalf("%s is answered as %s and as %s", short(q.m), short(first), short(second))
			}
		}
	}
}

func TestMachinesAnswerNewMemory(t *testing.T) {
	for _, q := range machineQuestions() {
		q.m, q.list = shaped(shape{room: 2}, q.m), shaped(shape{room: 2}, q.list)
		again := machinesOf(q)
		for i, answer := range machinesOf(q) {
			if !lieApart(answer, q.m, q.list, again[i]) {
				t.Fatalf("what %s gives shares memory with it, or with what it gives again, or within itself", short(q.m))
			}
		}
	}
}

func TestVersionsShareNothingWithEachOther(t *testing.T) {
	for _, list := range soundStories(60) {
		versions := impl.VersionsOf(list)
		for place := range versions.Configs {
			kept := shaped(shape{}, versions)
			spoilAll(versions.Configs[place])
			// All but the one that was overwritten are as they were.
			kept.Configs[place] = versions.Configs[place]
			if !same(versions, kept) {
				t.Fatalf("version %d of %s lies where another one does", place, short(list))
			}
		}
	}
}

func TestMachinesWhoseListsAreOneGetTheirOwn(t *testing.T) {
	// Who hands in two vips with one list of names gets two, whether the entry is done or not.
	names := shaped(shape{room: 2}, []int64{3, 8})
	m := plainMachine()
	for i := range m.Config.Vips {
		m.Config.Vips[i].Names = names
	}
	for _, x := range []impl.Entry{{Term: 1}, weighs(3, 5, 1), weighs(3, 4, 1), weighs(3, 6, 1), weighs(1, 1, 1), askedOf(1, 1, 1, plainCmds()[0])} {
		if done := impl.ApplyEntry(m, x); done.Code != impl.OK || !lieApart(done, m) {
			t.Errorf("two lists of what %v gives are one: %s", x, short(done))
		}
	}
}

func TestMachinesOfVeryLongLists(t *testing.T) {
	m := machineOf(impl.Config{}, make([]impl.Session, 100000)...)
	mustMachine(t, m, impl.ErrMany)
	mustNotDo(t, m, impl.Entry{Term: 1}, impl.ErrMany)
	mustReplyOf(t, m, 1, 1, impl.ErrMany, 0)
	mustNotReplay(t, make([]impl.Entry, 100000), impl.ErrMany)
	other := machineWith(m, sessionOff(99999, func(s *impl.Session) { s.Code = 1 }))
	if impl.SameMachines(m, other) || !impl.SameMachines(m, m) {
		t.Error("the last one of 100000 sessions is not held against the other")
	}
}
