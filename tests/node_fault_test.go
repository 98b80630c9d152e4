package tests

import (
	"math/rand"
	"slices"
	"testing"

	"loop.example/g00222/impl"
)

func mustNode(t *testing.T, n impl.Node, want int64) {
	t.Helper()
	if code := impl.NodeFault(n); code != want {
		t.Errorf("the fault of the node %+v is %d, not %d", n, code, want)
	}
}

func mustMail(t *testing.T, n impl.Node, m impl.Mail, want int64) {
	t.Helper()
	if code := impl.MailFault(n, m); code != want {
		t.Errorf("the fault of the mail %+v to %+v is %d, not %d", m, n, code, want)
	}
}

// broken is something that makes a thing be not right, with the code that it gives.
type broken[T any] struct {
	code int64
	do   func(one *T)
}

// breaks gives all that is broken with one code.
func breaks[T any](code int64, list ...func(one *T)) []broken[T] {
	var all []broken[T]
	for _, do := range list {
		all = append(all, broken[T]{code, do})
	}
	return all
}

func TestNodeFaultOfWhatHasNone(t *testing.T) {
	for _, n := range manyNodes(3000) {
		mustNode(t, n, impl.OK)
	}
	for peers := int64(1); peers <= 5; peers++ {
		for id := range peers {
			for voted := int64(-1); voted < peers; voted++ {
				for _, term := range []int64{0, 1, 99999, 100000} {
					mustNode(t, impl.Node{Id: id, Peers: peers, Term: term, Voted: voted}, impl.OK)
				}
			}
		}
	}
	log := plainLog()
	for commit := range int64(8) {
		mustNode(t, impl.Node{Peers: 2, Voted: -1, Term: 100000, Log: log, Commit: commit}, impl.OK)
		// How far who leads is, itself too, may be any index, and what is sent next any behind it or not.
		for next := int64(1); next <= 8; next++ {
			mustNode(t, impl.Node{Peers: 2, Term: 100000, Log: log, Role: impl.RoleLead, Next: []int64{next, 9 - next}, Match: []int64{commit, 7 - commit}}, impl.OK)
		}
	}
	// Who asks for votes may have none, not its own either, or more than it needs.
	for _, votes := range [][]int64{nil, {}, {0}, {1}, {4}, {0, 4}, {1, 2, 3}, {0, 1, 2, 3, 4}} {
		mustNode(t, impl.Node{Peers: 5, Term: 1, Role: impl.RoleAsk, Votes: votes}, impl.OK)
	}
}

// nodeFaults are the faults of a node of three without the others' help, in the order of the chapter: one list for each code that it names.
func nodeFaults() [][]broken[impl.Node] {
	numbers := breaks[impl.Node](impl.ErrRange)
	for _, far := range farNumbers {
		if far == -1 {
			continue
		}
		numbers = append(numbers, breaks(impl.ErrRange,
			func(n *impl.Node) { n.Peers = far }, func(n *impl.Node) { n.Id = far }, func(n *impl.Node) { n.Term = far },
			func(n *impl.Node) { n.Voted = far }, func(n *impl.Node) { n.Role = far })...)
	}
	return [][]broken[impl.Node]{
		append(numbers, breaks(impl.ErrRange,
			func(n *impl.Node) { n.Peers = 0 }, func(n *impl.Node) { n.Peers = 6 }, func(n *impl.Node) { n.Peers = -1 },
			func(n *impl.Node) { n.Id = -1 }, func(n *impl.Node) { n.Id = 3 }, func(n *impl.Node) { n.Id, n.Peers = 4, 4 },
			func(n *impl.Node) { n.Term = -1 }, func(n *impl.Node) { n.Term = 100001 },
			func(n *impl.Node) { n.Voted = -2 }, func(n *impl.Node) { n.Voted = 3 },
			func(n *impl.Node) { n.Role = -1 }, func(n *impl.Node) { n.Role = 3 })...),
		slices.Concat(
			breaks(impl.ErrMany, func(n *impl.Node) { n.Log = termsLog(evenTerms(41, 1)...) }),
			breaks(impl.ErrRange, func(n *impl.Node) { n.Log = termsLog(0) }, func(n *impl.Node) { n.Log = termsLog(1, 100001) }),
			breaks(impl.ErrForm, func(n *impl.Node) { n.Log = termsLog(2, 1) }, func(n *impl.Node) { n.Log = []impl.Entry{{Term: 1, Client: 1}} })),
		breaks(impl.ErrForm, func(n *impl.Node) { n.Log = termsLog(1, 1, n.Term+1) }, func(n *impl.Node) { n.Term, n.Log = 0, termsLog(1) }),
		breaks(impl.ErrRange, func(n *impl.Node) { n.Commit = -1 }, func(n *impl.Node) { n.Commit = int64(len(n.Log)) + 1 }, func(n *impl.Node) { n.Commit = 1 << 62 }),
		breaks(impl.ErrForm,
			func(n *impl.Node) { n.Role, n.Votes = impl.RoleAsk, []int64{1, 0} }, func(n *impl.Node) { n.Role, n.Votes = impl.RoleAsk, []int64{0, 0} },
			func(n *impl.Node) { n.Role, n.Votes = impl.RoleAsk, []int64{-1, 0} }, func(n *impl.Node) { n.Role, n.Votes = impl.RoleAsk, []int64{0, 3} },
			func(n *impl.Node) { n.Role, n.Votes = impl.RoleFollow, []int64{0} }, func(n *impl.Node) { n.Role, n.Votes = impl.RoleLead, []int64{0} },
			func(n *impl.Node) { n.Role, n.Next = impl.RoleFollow, []int64{1, 1, 1} }, func(n *impl.Node) { n.Role, n.Next = impl.RoleAsk, []int64{1} },
			func(n *impl.Node) { n.Role, n.Match = impl.RoleFollow, []int64{0} }, func(n *impl.Node) { n.Role, n.Match = impl.RoleAsk, []int64{0, 0, 0} },
			func(n *impl.Node) { n.Role, n.Next, n.Match = impl.RoleLead, []int64{1, 1}, []int64{0, 0, 0} },
			func(n *impl.Node) { n.Role, n.Next, n.Match = impl.RoleLead, []int64{1, 1, 1}, []int64{0, 0, 0, 0} },
			func(n *impl.Node) { n.Role, n.Next, n.Match = impl.RoleLead, nil, []int64{0, 0, 0} },
			func(n *impl.Node) { n.Role, n.Next, n.Match = impl.RoleLead, []int64{1, 1, 1}, nil }),
		breaks(impl.ErrRange,
			func(n *impl.Node) { n.Next[2] = 0 }, func(n *impl.Node) { n.Next[0] = -1 }, func(n *impl.Node) { n.Next[1] = int64(len(n.Log)) + 2 }, func(n *impl.Node) { n.Next[1] = 1 << 62 },
			func(n *impl.Node) { n.Match[1] = -1 }, func(n *impl.Node) { n.Match[2] = int64(len(n.Log)) + 1 }, func(n *impl.Node) { n.Match[0] = -1 << 63 }),
		breaks(impl.ErrForm, func(n *impl.Node) { n.Voted = 1 }, func(n *impl.Node) { n.Voted = -1 }, func(n *impl.Node) { n.Term, n.Log, n.Next, n.Match = 0, nil, []int64{1, 1, 1}, []int64{0, 0, 0} }),
	}
}

func TestNodeFaultIsTheFirstOne(t *testing.T) {
	stages := nodeFaults()
	for place, stage := range stages {
		for _, one := range stage {
			mustNode(t, nodeWith(leaderOf(0, 7, 1, 2, 2), one.do), one.code)
			// Whatever else is broken that is asked behind it.
			for _, later := range stages[place+1:] {
				for _, other := range later {
					n := nodeWith(leaderOf(0, 7, 1, 2, 2), other.do)
					if place < 5 || len(n.Next) == 3 && len(n.Match) == 3 {
						mustNode(t, nodeWith(n, one.do), one.code)
					}
				}
			}
		}
	}
}

func TestNodeFaultOfWhoAsksForVotes(t *testing.T) {
	asks := askerOf(0, 7, 1, 2)
	mustNode(t, asks, impl.OK)
	mustNode(t, nodeWith(asks, func(n *impl.Node) { n.Voted = 1 }), impl.ErrForm)
	mustNode(t, nodeWith(asks, func(n *impl.Node) { n.Voted = -1 }), impl.ErrForm)
	mustNode(t, impl.Node{Peers: 3, Role: impl.RoleAsk, Votes: []int64{0}}, impl.ErrForm)
	mustNode(t, impl.Node{Peers: 3, Term: 1, Role: impl.RoleAsk, Votes: []int64{0}}, impl.OK)
	mustNode(t, impl.Node{Peers: 1, Role: impl.RoleLead, Next: []int64{1}, Match: []int64{0}}, impl.ErrForm)
	mustNode(t, impl.Node{Peers: 1, Term: 1, Role: impl.RoleLead, Next: []int64{1}, Match: []int64{0}}, impl.OK)
	// Who follows may have voted for anybody, in term 0 too.
	mustNode(t, impl.Node{Peers: 3, Voted: 2}, impl.OK)
}

func TestNodeFaultOfManyNodes(t *testing.T) {
	for _, n := range manyBadNodes(20000) {
		mustNode(t, n, wantNodeFault(n))
	}
}

func TestMailFaultOfWhatHasNone(t *testing.T) {
	n := followerOf(1, 5, 1, 1, 2, 5)
	log := fullLog()
	for _, m := range []impl.Mail{
		voteOf(0, 1, 1, 0, 0), voteOf(2, 1, 100000, 40, 100000), voteOf(0, 1, 9, 1, 0), voteOf(0, 1, 9, 40, 9),
		grantOf(0, 1, 1, true), grantOf(2, 1, 100000, false), takenOf(0, 1, 1, true, 0), takenOf(2, 1, 100000, false, 40), takenOf(2, 1, 5, false, 0),
		appendOf(0, 1, 1, 0, 0, 0, nil), appendOf(2, 1, 100000, 40, 100000, 40, nil), appendOf(0, 1, 5, 3, 0, 40, nil), appendOf(2, 1, 100000, 0, 0, 40, log),
		appendOf(0, 1, 9, 4, 3, 0, termsLog(3, 9)), appendOf(0, 1, 9, 40, 9, 0, termsLog(9)), appendOf(0, 1, 100000, 40, 1, 0, log),
	} {
		mustMail(t, n, m, impl.OK)
	}
	for _, n := range manyNodes(3000) {
		random := rand.New(rand.NewSource(int64(len(n.Log)) + n.Term))
		for range 3 {
			if n.Peers > 1 {
				mustMail(t, n, someMail(random, n), impl.OK)
			}
		}
	}
}

// mailFaults are the faults of a mail from 0 to 1 of three with the term 7, in the order of the chapter: one list for each code that it names.
func mailFaults() [][]broken[impl.Mail] {
	kinds, numbers := breaks(impl.ErrText, func(m *impl.Mail) { m.Kind = 0 }, func(m *impl.Mail) { m.Kind = 5 }), breaks[impl.Mail](impl.ErrRange)
	for _, far := range farNumbers {
		kinds = append(kinds, breaks(impl.ErrText, func(m *impl.Mail) { m.Kind = far })...)
		numbers = append(numbers, breaks(impl.ErrRange,
			func(m *impl.Mail) { m.From = far }, func(m *impl.Mail) { m.To = far }, func(m *impl.Mail) { m.Term = far },
			func(m *impl.Mail) { m.Index = far }, func(m *impl.Mail) { m.Last = far }, func(m *impl.Mail) { m.Commit = far })...)
	}
	return [][]broken[impl.Mail]{
		kinds,
		append(numbers, breaks(impl.ErrRange,
			func(m *impl.Mail) { m.From = 1 }, func(m *impl.Mail) { m.From = 3 }, func(m *impl.Mail) { m.To = 0 }, func(m *impl.Mail) { m.To = 2 },
			func(m *impl.Mail) { m.From, m.To = 1, 0 }, func(m *impl.Mail) { m.Term = 0 }, func(m *impl.Mail) { m.Term, m.Last = 100001, 0 },
			func(m *impl.Mail) { m.Index = 41 }, func(m *impl.Mail) { m.Last = m.Term + 1 }, func(m *impl.Mail) { m.Commit = 41 })...),
		slices.Concat(
			breaks(impl.ErrMany, func(m *impl.Mail) { m.Entries = termsLog(evenTerms(41, 1)...) }),
			breaks(impl.ErrRange, func(m *impl.Mail) { m.Entries = termsLog(0) }, func(m *impl.Mail) { m.Entries = termsLog(3, 100001) }),
			breaks(impl.ErrForm, func(m *impl.Mail) { m.Entries = termsLog(4, 3) }, func(m *impl.Mail) { m.Entries = []impl.Entry{{Term: 3, Seq: 1}} })),
		breaks(impl.ErrForm,
			func(m *impl.Mail) { m.Kind, m.Entries = impl.MailVote, termsLog(7) }, func(m *impl.Mail) { m.Kind, m.Entries = impl.MailGrant, termsLog(7) },
			func(m *impl.Mail) { m.Kind, m.Entries = impl.MailTaken, termsLog(7) },
			func(m *impl.Mail) { m.Kind, m.Entries = impl.MailAppend, termsLog(8) }, func(m *impl.Mail) { m.Kind, m.Entries = impl.MailAppend, termsLog(3, 7, 8) },
			func(m *impl.Mail) { m.Kind, m.Index, m.Last, m.Entries = impl.MailAppend, 1, 4, termsLog(3, 4) },
			func(m *impl.Mail) { m.Kind, m.Ok = impl.MailVote, true }, func(m *impl.Mail) { m.Kind, m.Ok = impl.MailAppend, true },
			func(m *impl.Mail) { m.Kind, m.Index = impl.MailGrant, 1 }, func(m *impl.Mail) { m.Kind, m.Last = impl.MailGrant, 1 },
			func(m *impl.Mail) { m.Kind, m.Commit = impl.MailGrant, 1 }, func(m *impl.Mail) { m.Kind, m.Commit = impl.MailVote, 1 },
			func(m *impl.Mail) { m.Kind, m.Index, m.Last = impl.MailTaken, 1, 1 }, func(m *impl.Mail) { m.Kind, m.Commit = impl.MailTaken, 1 },
			func(m *impl.Mail) { m.Kind, m.Index, m.Last = impl.MailVote, 0, 1 }, func(m *impl.Mail) { m.Kind, m.Index, m.Last = impl.MailAppend, 0, 7 }),
	}
}

func TestMailFaultIsTheFirstOne(t *testing.T) {
	// To each node: the node's own faults come first, and only then those of the mail.
	n, plain := followerOf(1, 5, 1, 1, 2, 5), appendOf(0, 1, 7, 2, 3, 1, termsLog(3, 4))
	stages := mailFaults()
	for place, stage := range stages {
		for _, one := range stage {
			m := plain
			if place == len(stages)-1 {
				// So that nothing but what is broken is: a mail without anything.
				m = impl.Mail{From: 0, To: 1, Term: 7}
			}
			one.do(&m)
			mustMail(t, n, m, one.code)
			for _, later := range stages[place+1:] {
				for _, other := range later {
					m := plain
					other.do(&m)
					one.do(&m)
					mustMail(t, n, m, one.code)
				}
			}
			for _, stage := range nodeFaults() {
				node := nodeWith(leaderOf(0, 7, 1, 2, 2), stage[0].do)
				mustMail(t, node, m, stage[0].code)
			}
		}
	}
}

func TestNoMailComesToANodeThatIsAlone(t *testing.T) {
	alone := impl.Node{Peers: 1, Voted: -1}
	for from := int64(-2); from < 7; from++ {
		for kind := int64(1); kind <= 4; kind++ {
			mustMail(t, alone, impl.Mail{Kind: kind, From: from, Term: 1}, impl.ErrRange)
			mustNotBecome(t, impl.HearMail(alone, impl.Mail{Kind: kind, From: from, Term: 1}), impl.ErrRange)
		}
	}
	mustMail(t, alone, impl.Mail{Kind: 5, From: 0, Term: 1}, impl.ErrText)
}

func TestMailFaultOfManyMails(t *testing.T) {
	random := rand.New(rand.NewSource(82))
	nodes := append(manyNodes(1000), manyBadNodes(100)...)
	codes := map[int64]int{}
	for i := range 60000 {
		n := nodes[random.Intn(len(nodes))]
		m := someMailToAny(random, n)
		for range i % 3 {
			spoilMail(random, &m)
		}
		codes[wantMailFault(n, m)]++
		mustMail(t, n, m, wantMailFault(n, m))
	}
	mustMeet(t, codes, 1000, impl.OK, impl.ErrForm, impl.ErrRange, impl.ErrText)
}
