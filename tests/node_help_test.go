package tests

import (
	"cmp"
	"math/rand"
	"reflect"
	"slices"
	"testing"

	"loop.example/g00222/impl"
)

// followerOf gives a node of three that follows, with a log of the terms.
func followerOf(id, term, voted int64, terms ...int64) impl.Node {
	return impl.Node{Id: id, Peers: 3, Term: term, Voted: voted, Log: markedLog(1, terms...)}
}

// askerOf gives a node of three that asks for votes and has its own alone.
func askerOf(id, term int64, terms ...int64) impl.Node {
	n := followerOf(id, term, id, terms...)
	n.Role, n.Votes = impl.RoleAsk, []int64{id}
	return n
}

// leaderOf gives a node of three as it is when it comes to lead.
func leaderOf(id, term int64, terms ...int64) impl.Node {
	n := followerOf(id, term, id, terms...)
	n.Role, n.Next, n.Match = impl.RoleLead, evenTerms(3, int64(len(terms))+1), evenTerms(3, 0)
	n.Match[id] = int64(len(terms))
	return n
}

// nodeWith gives a copy of a node to which something was done.
func nodeWith(n impl.Node, do func(n *impl.Node)) impl.Node {
	n = cloneNode(n)
	do(&n)
	return n
}

func voteOf(from, to, term, index, last int64) impl.Mail {
	return impl.Mail{Kind: impl.MailVote, From: from, To: to, Term: term, Index: index, Last: last}
}

func grantOf(from, to, term int64, ok bool) impl.Mail {
	return impl.Mail{Kind: impl.MailGrant, From: from, To: to, Term: term, Ok: ok}
}

func appendOf(from, to, term, index, last, commit int64, entries []impl.Entry) impl.Mail {
	return impl.Mail{Kind: impl.MailAppend, From: from, To: to, Term: term, Index: index, Last: last, Commit: commit, Entries: entries}
}

func takenOf(from, to, term int64, ok bool, index int64) impl.Mail {
	return impl.Mail{Kind: impl.MailTaken, From: from, To: to, Term: term, Index: index, Ok: ok}
}

func cloneNode(n impl.Node) impl.Node {
	n.Log, n.Votes, n.Next, n.Match = slices.Clone(n.Log), slices.Clone(n.Votes), slices.Clone(n.Next), slices.Clone(n.Match)
	return n
}

// bare gives nil for a list without elements.
func bare[T any](list []T) []T {
	if len(list) == 0 {
		return nil
	}
	return list
}

func bareNode(n impl.Node) impl.Node {
	n.Log, n.Votes, n.Next, n.Match = bare(n.Log), bare(n.Votes), bare(n.Next), bare(n.Match)
	return n
}

func bareMail(m impl.Mail) impl.Mail {
	m.Entries = bare(m.Entries)
	return m
}

// bareResult copies an answer; none of its lists without elements is another thing than nil.
func bareResult(r impl.NodeResult) impl.NodeResult {
	r.Node = bareNode(r.Node)
	var send []impl.Mail
	for _, m := range r.Send {
		send = append(send, bareMail(m))
	}
	r.Send = send
	return r
}

func mustBecome(t *testing.T, got impl.NodeResult, want impl.Node, send ...impl.Mail) {
	t.Helper()
	if !reflect.DeepEqual(bareResult(got), bareResult(impl.NodeResult{Node: want, Send: send})) {
		t.Errorf("got\n%+v, not\n%+v with the mails %+v", got, want, send)
	}
}

func mustNotBecome(t *testing.T, got impl.NodeResult, code int64) {
	t.Helper()
	if !reflect.DeepEqual(bareResult(got), impl.NodeResult{Code: code}) {
		t.Errorf("got %+v, not the code %d alone", got, code)
	}
}

// mustAnswer holds an answer against that of the model.
func mustAnswer(t *testing.T, asked any, got, want impl.NodeResult) {
	t.Helper()
	if !reflect.DeepEqual(bareResult(got), bareResult(want)) {
		t.Fatalf("%+v\ngives\n%+v, not\n%+v", asked, got, want)
	}
}

// plainNodes are nodes without a fault of each role, alone and with others, without and with a log, and the longest one.
func plainNodes() []impl.Node {
	alone := impl.Node{Peers: 1, Term: 3, Voted: 0, Log: markedLog(1, 1, 3), Commit: 1, Role: impl.RoleLead, Next: []int64{3}, Match: []int64{2}}
	full := nodeWith(leaderOf(1, 100000, 1, 5), func(n *impl.Node) {
		n.Log, n.Commit, n.Next, n.Match = fullLog(), 40, []int64{1, 41, 41}, []int64{0, 40, 40}
	})
	great := impl.Node{Id: 4, Peers: 5, Term: 100000, Voted: 4, Log: plainLog(), Commit: 7, Role: impl.RoleAsk, Votes: []int64{0, 1, 2, 3, 4}}
	return []impl.Node{
		{Peers: 1, Voted: -1}, {Id: 2, Peers: 3, Voted: -1}, {Id: 4, Peers: 5, Voted: 3, Term: 9}, alone, full, great,
		followerOf(0, 5, -1, 1, 1, 2, 5), followerOf(0, 100000, 2, 1, 2), askerOf(1, 2, 1), askerOf(2, 6, 1, 4, 6), leaderOf(0, 1), leaderOf(2, 4, 1, 3, 4, 4, 4, 4, 4),
	}
}

// someNode gives a node without a fault.
func someNode(random *rand.Rand) impl.Node {
	log := someLog(random, []int{3, 8, 40}[random.Intn(3)])
	if random.Intn(5) == 0 {
		log = slices.Clone(fullLog()[:20])
	}
	peers := 1 + random.Int63n(5)
	return someNodeOf(random, random.Int63n(peers), peers, log)
}

// someNodeOf gives a node without a fault that has a log.
func someNodeOf(random *rand.Rand, id, peers int64, log []impl.Entry) impl.Node {
	count := int64(len(log))
	n := impl.Node{Id: id, Peers: peers, Log: log, Voted: random.Int63n(peers+1) - 1, Commit: random.Int63n(count + 1)}
	n.Term = min(wantLast(n.Log)+random.Int63n(3), 100000)
	if n.Term > 0 {
		n.Role = random.Int63n(3)
	}
	if n.Role != impl.RoleFollow {
		n.Voted = n.Id
	}
	for id := range n.Peers {
		switch {
		case n.Role == impl.RoleAsk && random.Intn(3) == 0:
			n.Votes = append(n.Votes, id)
		case n.Role == impl.RoleLead:
			n.Next, n.Match = append(n.Next, 1+random.Int63n(count+1)), append(n.Match, random.Int63n(count+1))
		}
	}
	return n
}

func manyNodes(count int) []impl.Node {
	random := rand.New(rand.NewSource(8))
	nodes := plainNodes()
	for range count {
		nodes = append(nodes, someNode(random))
	}
	return nodes
}

// spoilNode breaks one thing of a node, or hits none.
func spoilNode(random *rand.Rand, n *impl.Node) {
	wrong := func(list ...int64) int64 { return append(list, farNumbers...)[random.Intn(len(list)*3)] }
	inOne := func(list []int64, to int64) {
		if len(list) > 0 {
			list[random.Intn(len(list))] = to
		}
	}
	switch random.Intn(12) {
	case 0:
		*[]*int64{&n.Peers, &n.Id, &n.Voted}[random.Intn(3)] = wrong(-2, -1, 0, 1, 2, 5, 6)
	case 1:
		n.Term = wrong(-1, 0, 1, 2, 100001)
	case 2:
		n.Role = wrong(-1, 0, 1, 2, 3)
	case 3:
		n.Commit = wrong(-1, int64(len(n.Log)), int64(len(n.Log))+1)
	case 4:
		n.Votes = append(n.Votes, wrong(-1, 0, 1, 4, 5))
	case 5:
		inOne(n.Votes, wrong(-1, 0, 4, 5))
	case 6:
		inOne(n.Next, wrong(0, 1, int64(len(n.Log))+1, int64(len(n.Log))+2))
	case 7:
		inOne(n.Match, wrong(-1, 0, int64(len(n.Log)), int64(len(n.Log))+1))
	case 8:
		n.Next = append(n.Next, 1)
	case 9:
		n.Match = n.Match[:len(n.Match)/2]
	case 10:
		n.Match = append(n.Match, 0)
	case 11:
		if len(n.Log) > 0 {
			spoilEntry(random, &n.Log[random.Intn(len(n.Log))])
		}
	}
}

// manyBadNodes gives nodes of which nearly all have one fault or several.
func manyBadNodes(count int) []impl.Node {
	random := rand.New(rand.NewSource(88))
	nodes := manyNodes(count)[:count]
	for i := range nodes {
		nodes[i] = cloneNode(nodes[i])
		for range 1 + i%3 {
			spoilNode(random, &nodes[i])
		}
		if i%15 == 0 && len(nodes[i].Log) > 0 {
			nodes[i].Log = slices.Repeat(nodes[i].Log, 1+40/len(nodes[i].Log))
		}
	}
	return nodes
}

// wantLast tells the Term of the last entry, 0 where there is none.
func wantLast(log []impl.Entry) int64 {
	if len(log) == 0 {
		return 0
	}
	return log[len(log)-1].Term
}

// outside tells whether a number is not from a to b.
func outside(n, a, b int64) bool {
	return n < a || n > b
}

// wantNodeFault asks for each fault by itself and takes the first one.
func wantNodeFault(n impl.Node) int64 {
	count, off := int64(len(n.Log)), func(a, b int64) func(int64) bool {
		return func(one int64) bool { return outside(one, a, b) }
	}
	marks := map[int64][3]int64{1: {n.Peers, 0, 0}, 2: {0, n.Peers, n.Peers}}[n.Role]
	votes := slices.Compact(slices.Sorted(slices.Values(n.Votes)))
	return cmp.Or(
		told(outside(n.Peers, 1, 5) || outside(n.Id, 0, n.Peers-1) || outside(n.Term, 0, 100000) || outside(n.Voted, -1, n.Peers-1) || outside(n.Role, 0, 2), impl.ErrRange),
		wantLogFault(n.Log),
		told(wantLast(n.Log) > n.Term, impl.ErrForm),
		told(outside(n.Commit, 0, count), impl.ErrRange),
		told(!slices.Equal(votes, n.Votes) || slices.ContainsFunc(n.Votes, off(0, n.Peers-1)) || int64(len(n.Votes)) > marks[0], impl.ErrForm),
		told(int64(len(n.Next)) != marks[1] || int64(len(n.Match)) != marks[2], impl.ErrForm),
		told(slices.ContainsFunc(n.Next, off(1, count+1)) || slices.ContainsFunc(n.Match, off(0, count)), impl.ErrRange),
		told(n.Role > 0 && n.Voted != n.Id, impl.ErrForm), told(n.Role > 0 && n.Term == 0, impl.ErrForm),
	)
}

// wantMailFault asks for each fault by itself and takes the first one.
func wantMailFault(n impl.Node, m impl.Mail) int64 {
	first, last := m.Last, m.Term
	if len(m.Entries) > 0 {
		first, last = m.Entries[0].Term, wantLast(m.Entries)
	}
	zero := map[int64][]int64{1: {m.Commit}, 2: {m.Index, m.Last, m.Commit}, 4: {m.Last, m.Commit}}[m.Kind]
	return cmp.Or(
		wantNodeFault(n),
		told(outside(m.Kind, 1, 4), impl.ErrText),
		told(outside(m.From, 0, n.Peers-1) || m.From == n.Id || m.To != n.Id || outside(m.Term, 1, 100000), impl.ErrRange),
		told(outside(m.Index, 0, 40) || outside(m.Last, 0, m.Term) || outside(m.Commit, 0, 40), impl.ErrRange),
		wantLogFault(m.Entries),
		told(len(m.Entries) > 0 && m.Kind != 3, impl.ErrForm), told(last > m.Term || first < m.Last, impl.ErrForm),
		told(m.Ok && m.Kind%2 == 1, impl.ErrForm), told(slices.ContainsFunc(zero, func(one int64) bool { return one != 0 }), impl.ErrForm),
		told(m.Index == 0 && m.Last != 0, impl.ErrForm),
	)
}

// someMail gives a mail without a fault to a node that is not alone: perhaps one that it waits for.
func someMail(random *rand.Rand, n impl.Node) impl.Mail {
	between := func(a, b int64) int64 { return a + random.Int63n(b-a+1) }
	near := func(one, most int64) int64 { return min(max(one+between(-2, 1)*between(0, 1), 0), most) }
	m := impl.Mail{Kind: between(1, 4), From: (n.Id + between(1, n.Peers-1)) % n.Peers, To: n.Id, Term: max(near(n.Term, 99999), 1)}
	if random.Intn(6) == 0 {
		m.Term++
	}
	count := int64(len(n.Log))
	switch m.Kind {
	case impl.MailVote:
		m.Index, m.Last = near(count, 40), near(wantLast(n.Log), m.Term)
	case impl.MailGrant:
		m.Ok = random.Intn(3) > 0
	case impl.MailTaken:
		m.Ok, m.Index = random.Intn(2) > 0, near(between(0, count), 40)
	case impl.MailAppend:
		m.Index, m.Commit = near(between(0, count), 40), near(between(0, count), 40)
		m.Last = m.Term
		if m.Index <= count {
			m.Last = min(wantLast(n.Log[:m.Index]), m.Term)
		}
		if random.Intn(6) == 0 {
			m.Last = near(m.Last, m.Term)
		}
		m.Entries = someSent(random, n.Log[min(m.Index, count):], m.Last, m.Term)
	}
	if m.Index == 0 {
		m.Last = 0
	}
	return m
}

// someMailToAny gives a mail also to a node that is alone or has a fault.
func someMailToAny(random *rand.Rand, n impl.Node) impl.Mail {
	if wantNodeFault(n) != impl.OK || n.Peers == 1 {
		return appendOf(1, 0, 1+random.Int63n(9), 0, 0, 0, termsLog(1))
	}
	return someMail(random, n)
}

// someSent gives entries of terms from last to term: of those that are there already, and perhaps of others behind.
func someSent(random *rand.Rand, there []impl.Entry, last, term int64) []impl.Entry {
	list := slices.Clone(there[:random.Intn(min(len(there), 6)+1)])
	for range random.Intn(4) {
		list = append(list, someEntry(random, max(1, term-random.Int63n(3))))
	}
	lower := max(last, 1)
	return slices.DeleteFunc(list, func(x impl.Entry) bool {
		if x.Term < lower || x.Term > term {
			return true
		}
		lower = x.Term
		return false
	})
}

// spoilMail breaks one thing of a mail, or hits none.
func spoilMail(random *rand.Rand, m *impl.Mail) {
	wrong := func(list ...int64) int64 { return append(list, farNumbers...)[random.Intn(len(list)*3)] }
	switch random.Intn(9) {
	case 0:
		m.Kind = wrong(0, 1, 2, 3, 4, 5)
	case 1:
		m.From = wrong(-1, 0, 1, 2, 5)
	case 2:
		m.To = wrong(-1, 0, 1, 2, 5)
	case 3:
		m.Term = wrong(0, 1, 2, 100001)
	case 4:
		*[]*int64{&m.Index, &m.Commit}[random.Intn(2)] = wrong(-1, 0, 1, 40, 41)
	case 5:
		m.Last = wrong(-1, 0, 1, m.Term, m.Term+1)
	case 6:
		m.Ok = !m.Ok
	case 7:
		m.Entries = append(slices.Clone(m.Entries), someEntry(random, m.Term+random.Int63n(3)-1))
	case 8:
		m.Entries = append(someLog(random, 3), m.Entries...)
		if len(m.Entries) > 0 {
			spoilEntry(random, &m.Entries[random.Intn(len(m.Entries))])
		}
	}
}

// mustMeet wants each of the wanted codes at least so often, so that a test knows that it asked for all of them.
func mustMeet(t *testing.T, codes map[int64]int, least int, wanted ...int64) {
	t.Helper()
	for _, code := range wanted {
		if codes[code] < least {
			t.Errorf("the codes are %v", codes)
			return
		}
	}
}

func TestNodeHelpersAgreeWithEachOther(t *testing.T) {
	random := rand.New(rand.NewSource(81))
	kinds := map[int64]int{}
	for _, n := range manyNodes(3000) {
		if wantNodeFault(n) != impl.OK {
			t.Fatalf("%+v is not without a fault", n)
		}
		if n.Peers > 1 {
			m := someMail(random, n)
			kinds[m.Kind]++
			if wantMailFault(n, m) != impl.OK {
				t.Fatalf("%+v is not without a fault to %+v", m, n)
			}
		}
	}
	mustMeet(t, kinds, 400, 1, 2, 3, 4)
	codes := map[int64]int{}
	for _, n := range manyBadNodes(4000) {
		codes[wantNodeFault(n)]++
	}
	mustMeet(t, codes, 100, impl.OK, impl.ErrForm, impl.ErrMany, impl.ErrRange)
}
