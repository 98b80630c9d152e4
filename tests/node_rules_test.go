package tests

import (
	"math/rand"
	"reflect"
	"slices"
	"testing"

	"loop.example/g00222/impl"
)

// nodeAsked is what the functions of the layer are asked with.
type nodeAsked struct {
	n         impl.Node
	m         impl.Mail
	x         impl.Entry
	id, peers int64
}

// nodeQuestions pairs nodes with and without a fault, mails and entries that they may wait for or not.
func nodeQuestions() []nodeAsked {
	random := rand.New(rand.NewSource(85))
	nodes := append(manyNodes(700), manyBadNodes(300)...)
	all := []nodeAsked{{}, {n: impl.Node{Log: []impl.Entry{}, Votes: []int64{}, Next: []int64{}, Match: []int64{}}, m: impl.Mail{Entries: []impl.Entry{}}}}
	for i, n := range append(nodes, nodes...) {
		q := nodeAsked{n: n, x: someEntry(random, max(1, n.Term)), id: random.Int63n(7) - 1, peers: random.Int63n(8) - 1}
		q.m = someMailToAny(random, n)
		if i%5 == 0 {
			spoilMail(random, &q.m)
		}
		all = append(all, q)
	}
	return all
}

// answersOf calls the functions of the layer that answer with a node.
func answersOf(q nodeAsked) []impl.NodeResult {
	return append(askEach(q.n, q.x), impl.HearMail(q.n, q.m), impl.NewNode(q.id, q.peers))
}

// askNodes calls every function of the layer and gives all that they answer.
func askNodes(q nodeAsked) []any {
	list := []any{impl.NodeFault(q.n), impl.MailFault(q.n, q.m), impl.CommitOf(q.n)}
	for _, answer := range answersOf(q) {
		list = append(list, answer)
	}
	return list
}

func TestNodesAnswerTheSameEachTime(t *testing.T) {
	mustAnswerTheSame(t, nodeQuestions(), askNodes)
}

// roomyAsked copies a question into memory with more room behind each list, in which other things stand.
func roomyAsked(q nodeAsked) nodeAsked {
	q.n.Log, q.n.Votes, q.n.Next, q.n.Match = roomyLog(q.n.Log), roomy(q.n.Votes, 2), roomy(q.n.Next, 1), roomy(q.n.Match, 0)
	q.m.Entries = roomyLog(q.m.Entries)
	return q
}

// wholeAsked copies all that can be reached by a question, the room behind its lists too.
func wholeAsked(q nodeAsked) nodeAsked {
	q.n.Log, q.m.Entries = slices.Clone(q.n.Log[:cap(q.n.Log)]), slices.Clone(q.m.Entries[:cap(q.m.Entries)])
	for _, list := range []*[]int64{&q.n.Votes, &q.n.Next, &q.n.Match} {
		*list = slices.Clone((*list)[:cap(*list)])
	}
	return q
}

func TestNodesAndMailsStayAsTheyWere(t *testing.T) {
	for _, q := range nodeQuestions() {
		given := roomyAsked(q)
		whole := wholeAsked(given)
		askNodes(given)
		if !reflect.DeepEqual(wholeAsked(given), whole) {
			t.Fatalf("%+v, or the room behind its lists, was changed", q)
		}
	}
}

func TestNodesAnswerTheSameWhateverRoomThereIs(t *testing.T) {
	for _, q := range nodeQuestions() {
		bare := q
		bare.n, bare.m = bareNode(cloneNode(q.n)), bareMail(q.m)
		bare.n.Log, bare.m.Entries = slices.Clip(bare.n.Log), slices.Clip(bare.m.Entries)
		if first, second := askNodes(roomyAsked(q)), askNodes(bare); !reflect.DeepEqual(first, second) {
			t.Fatalf("%+v is answered as %+v and as %+v", q, first, second)
		}
	}
}

// emptied gives a list without elements that is not nil, where there are none.
func emptied[T any](list []T) []T {
	if len(list) == 0 {
		return []T{}
	}
	return list
}

func TestNodesOfEmptyListsAndNilAreTheSame(t *testing.T) {
	for _, q := range nodeQuestions() {
		bare, empty := q, q
		bare.n, bare.m = bareNode(q.n), bareMail(q.m)
		empty.n.Log, empty.n.Votes, empty.n.Next, empty.n.Match = emptied(q.n.Log), emptied(q.n.Votes), emptied(q.n.Next), emptied(q.n.Match)
		empty.m.Entries = emptied(q.m.Entries)
		if first, second := askNodes(bare), askNodes(empty); !reflect.DeepEqual(first, second) {
			t.Fatalf("%+v is answered as %+v and as %+v", q, first, second)
		}
	}
}

// cloneResult copies all lists of an answer.
func cloneResult(r impl.NodeResult) impl.NodeResult {
	r.Node, r.Send = cloneNode(r.Node), slices.Clone(r.Send)
	for i := range r.Send {
		r.Send[i].Entries = slices.Clone(r.Send[i].Entries)
	}
	return r
}

// spoilNumbers overwrites all that can be reached by a list of numbers.
func spoilNumbers(list []int64) {
	for i := range list[:cap(list)] {
		list[:cap(list)][i] = -9
	}
}

// spoilers overwrite one list of an answer each, with all that can be reached by it, and give it up then.
func spoilers(r *impl.NodeResult) []func() {
	var all []func()
	for _, list := range []*[]int64{&r.Node.Votes, &r.Node.Next, &r.Node.Match} {
		all = append(all, func() { spoilNumbers(*list); *list = nil })
	}
	logs := []*[]impl.Entry{&r.Node.Log}
	for i := range r.Send {
		logs = append(logs, &r.Send[i].Entries)
	}
	for _, log := range logs {
		all = append(all, func() { spoilLog(*log); *log = nil })
	}
	return all
}

// mustShareNothing spoils one list of an answer after the other, and wants all else to be as it was.
func mustShareNothing(t *testing.T, q nodeAsked) {
	t.Helper()
	given := roomyAsked(q)
	whole := wholeAsked(given)
	first, second := answersOf(given), answersOf(given)
	for place, one := range first {
		other := second[place]
		kept, untouched := cloneResult(one), cloneResult(other)
		for i, spoilOne := range spoilers(&one) {
			spoilOne()
			spoilers(&kept)[i]()
			if !reflect.DeepEqual(bareResult(one), bareResult(kept)) {
				t.Fatalf("two lists of what %+v gives share memory", q)
			}
		}
		if !reflect.DeepEqual(other, untouched) || !reflect.DeepEqual(wholeAsked(given), whole) {
			t.Fatalf("what %+v gives shares memory with it, or with what it gives again", q)
		}
	}
}

func TestNodesAnswerNewMemory(t *testing.T) {
	for _, q := range nodeQuestions() {
		mustShareNothing(t, q)
		given := roomyAsked(q)
		answers := answersOf(given)
		spoilLog(given.n.Log)
		spoilLog(given.m.Entries)
		for _, list := range [][]int64{given.n.Votes, given.n.Next, given.n.Match} {
			spoilNumbers(list)
		}
		for place, want := range answersOf(q) {
			if !reflect.DeepEqual(answers[place], want) {
				t.Fatalf("what %+v gives is the memory that it was given", q)
			}
		}
	}
}

func TestANodeMayHearItsOwnLists(t *testing.T) {
	// Who hands in one list twice gets two.
	log := roomyLog(markedLog(1, 1, 2, 2))
	marks := roomy([]int64{3, 3, 3}, 1)
	leads := impl.Node{Peers: 3, Term: 2, Log: log, Role: impl.RoleLead, Next: marks, Match: marks}
	mustBecome(t, impl.AskNode(leads, impl.Entry{Term: 2}), nodeWith(leads, func(n *impl.Node) {
		n.Log, n.Next, n.Match, n.Commit = append(n.Log, impl.Entry{Term: 2}), []int64{5, 3, 3}, []int64{4, 3, 3}, 3
	}))
	follows := impl.Node{Peers: 3, Term: 2, Log: log[:1], Voted: -1}
	got := impl.HearMail(follows, appendOf(1, 0, 2, 0, 0, 0, log))
	mustBecome(t, got, nodeWith(follows, func(n *impl.Node) { n.Log = log }), takenOf(0, 1, 2, true, 3))
	if !slices.Equal(log, markedLog(1, 1, 2, 2)) || !slices.Equal(marks, []int64{3, 3, 3}) {
		t.Errorf("%v or %v was changed", log, marks)
	}
}
