package tests

import (
	"math/rand"
	"slices"
	"testing"

	"loop.example/g00222/impl"
)

// healthAsked is what the functions of the layer are asked with.
type healthAsked struct {
	h             impl.Health
	ok            bool
	answers       []bool
	c             impl.Config
	list          []impl.Verdict
	name, probers int64
}

// healthQuestions pairs healths, answers, configurations and verdicts with and without a fault.
func healthQuestions() []healthAsked {
	random := rand.New(rand.NewSource(130))
	healths := append(healthStates(3), badHealths()...)
	configs := append(healthConfigs(100), manyBadConfigs(20)...)
	broken := manyBadVerdicts(60)
	all := []healthAsked{{}, {answers: []bool{}, list: []impl.Verdict{}}}
	for i := range 600 {
		q := healthAsked{h: healths[i%7], ok: i%2 == 0, c: configs[i%len(configs)], name: someName(random, configs[i%len(configs)])}
		for range random.Intn(110) {
			q.answers = append(q.answers, random.Intn(2) == 0)
		}
		q.list = someVerdicts(random, q.c, random.Intn(61))
		q.probers = someProbers(random, q.list)
		if i%20 == 0 {
			q.h, q.list = healths[random.Intn(len(healths))], broken[random.Intn(len(broken))]
		}
		if i%30 == 0 {
			q.name, q.probers = farNumbers[random.Intn(len(farNumbers))], farNumbers[random.Intn(len(farNumbers))]
		}
		all = append(all, q)
	}
	return all
}

// askHealths calls every function of the layer and gives all that they answer.
func askHealths(q healthAsked) []any {
	return []any{impl.HealthFault(q.h), impl.ProbeHealth(q.h, q.ok), impl.ProbeMany(q.h, q.answers),
		impl.VerdictsFault(q.list), impl.VerdictFor(q.list, q.name, q.probers), impl.UpCmds(q.c, q.list, q.probers), impl.UpCmds(q.c, q.list, 1)}
}

// laid gives a question whose lists lie as told.
func (q healthAsked) laid(s shape) healthAsked {
	q.answers, q.list, q.c = shaped(s, q.answers), shaped(s, q.list), shaped(s, q.c)
	return q
}

func TestHealthsAnswerTheSameEachTime(t *testing.T) {
	mustAnswerTheSame(t, healthQuestions(), askHealths)
}

func TestHealthsStayAsTheyWere(t *testing.T) {
	mustStayAsTheyWere(t, healthQuestions(), askHealths)
}

func TestHealthsAnswerTheSameHoweverTheirListsLie(t *testing.T) {
	mustAnswerHoweverListsLie(t, healthQuestions(), askHealths)
}

func TestCommandsOfVerdictsAreNewMemory(t *testing.T) {
	for _, q := range healthQuestions() {
		q = q.laid(shape{room: 2})
		again := impl.UpCmds(q.c, q.list, q.probers)
		if answer := impl.UpCmds(q.c, q.list, q.probers); !lieApart(answer, q.c, q.list, again) {
			t.Fatalf("what %s gives shares memory with it, or with what it gives again", short(q))
		}
	}
	// What is done to one answer is not seen in the next one.
	list := saying(3, 0, 2, 0)
	first := impl.UpCmds(plainConfig(), list, 3)
	clear(first.Cmds[:cap(first.Cmds)])
	mustTurn(t, plainConfig(), list, 3, turnsDown(3))
}

func TestVerdictsHangOnNothingThatWasAskedAhead(t *testing.T) {
	// A later epoch that was told to another call is not known to this one.
	list := saying(3, 0, 3, 1)
	for range 3 {
		mustSay(t, saying(3, 3, 0, 1000000), 3, 3, 1)
		mustSay(t, list, 3, 3, 2)
		mustSay(t, nil, 3, 3, 0)
		mustProbes(t, healthOf(3, true, 0), "nn", false, healthOf(3, true, 2))
		mustProbe(t, healthOf(3, true, 0), false, false, healthOf(3, true, 1))
	}
}

func TestHealthsOfVeryLongLists(t *testing.T) {
	list := make([]impl.Verdict, 100000)
	mustVerdicts(t, list, impl.ErrMany)
	mustNotSay(t, list, 3, 3, impl.ErrMany)
	mustNotTurn(t, plainConfig(), list, 3, impl.ErrMany)
	mustNotTurn(t, impl.Config{Backends: slices.Repeat(plainConfig().Backends, 10000)}, list, 3, impl.ErrMany)
	mustNotProbe(t, healthOf(3, true, 0), make([]bool, 100000), impl.ErrMany)
}
