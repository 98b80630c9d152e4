package tests

import (
	"math/rand"
	"slices"
	"testing"

	"loop.example/g00222/impl"
)

// play is nodes, the mails between them, and what was seen of them: whom each voted for in which term, when it asked for votes, and who led.
type play struct {
	t      *testing.T
	nodes  []impl.Node
	mails  []impl.Mail
	voted  map[[2]int64]int64
	asked  map[[2]int64]int
	leads  map[int64]int64
	agreed []impl.Entry
	honest bool
}

func newPlay(t *testing.T, peers int64) *play {
	p := &play{t: t, voted: map[[2]int64]int64{}, asked: map[[2]int64]int{}, leads: map[int64]int64{}, honest: true}
	for id := range peers {
		p.nodes = append(p.nodes, impl.NewNode(id, peers).Node)
	}
	return p
}

// become puts a node to what it came to be, and looks at what is promised of any node.
func (p *play) become(id int64, what string, got impl.NodeResult) {
	p.t.Helper()
	before, after := p.nodes[id], got.Node
	if impl.NodeFault(after) != impl.OK || after.Id != id || after.Peers != before.Peers || after.Term < before.Term {
		p.t.Fatalf("%s makes %+v of %+v", what, after, before)
	}
	if what != "crash" && (after.Commit < before.Commit || impl.CommonOf(before.Log, after.Log) < before.Commit) {
		p.t.Fatalf("%s takes back what was agreed: %+v was %+v", what, after, before)
	}
	at := [2]int64{id, after.Term}
	if one, has := p.voted[at]; has && one != after.Voted {
		p.t.Fatalf("%s makes %+v vote for another in its term: it was %+v", what, after, before)
	}
	if after.Voted >= 0 {
		p.voted[at] = after.Voted
	}
	for _, m := range got.Send {
		to := impl.NewNode(m.To, after.Peers)
		if m.From != id || m.Term != after.Term || to.Code != impl.OK || impl.MailFault(to.Node, m) != impl.OK {
			p.t.Fatalf("%s sends %+v", what, m)
		}
	}
	p.nodes[id], p.mails = after, append(p.mails, got.Send...)
	if p.honest {
		p.lookTogether(after)
	}
}

// lookTogether looks at what holds among nodes that came of new ones.
func (p *play) lookTogether(n impl.Node) {
	p.t.Helper()
	if n.Role == impl.RoleLead {
		if other, has := p.leads[n.Term]; has && other != n.Id {
			p.t.Fatalf("both %d and %d lead in term %d", other, n.Id, n.Term)
		}
		p.leads[n.Term] = n.Id
	}
	if known := n.Log[:n.Commit]; len(known) > len(p.agreed) {
		if !slices.Equal(known[:len(p.agreed)], p.agreed) {
			p.t.Fatalf("%v is agreed, though %v was", known, p.agreed)
		}
		p.agreed = slices.Clone(known)
	} else if !slices.Equal(known, p.agreed[:len(known)]) {
		p.t.Fatalf("%v is agreed, though %v was", known, p.agreed)
	}
}

func (p *play) timeout(id int64) {
	p.t.Helper()
	before := p.nodes[id]
	got := impl.TimeoutNode(before)
	if before.Role == impl.RoleLead || before.Term == 100000 {
		return
	}
	if got.Code != impl.OK || got.Node.Term <= before.Term || got.Node.Voted != id {
		p.t.Fatalf("asking for votes makes %+v of %+v", got, before)
	}
	at := [2]int64{id, got.Node.Term}
	if _, has := p.voted[at]; has || p.asked[at] > 0 {
		p.t.Fatalf("%+v asks for votes in a term that was there already: %+v", got, before)
	}
	p.asked[at]++
	p.become(id, "timeout", got)
}

func (p *play) ask(id int64, x impl.Entry) {
	p.t.Helper()
	n := p.nodes[id]
	x.Term = n.Term
	if n.Role != impl.RoleLead || len(n.Log) == 40 {
		return
	}
	got := impl.AskNode(n, x)
	if got.Code != impl.OK || !slices.Equal(got.Node.Log, append(slices.Clone(n.Log), x)) {
		p.t.Fatalf("%+v was asked for %+v and is %+v", n, x, got)
	}
	p.become(id, "ask", got)
}

func (p *play) spread(id int64) {
	p.t.Helper()
	if p.nodes[id].Role == impl.RoleLead {
		p.become(id, "spread", impl.SpreadNode(p.nodes[id]))
	}
}

// deliver lets a mail come; it may come again, where it stays.
func (p *play) deliver(at int, stays bool) {
	p.t.Helper()
	m := p.mails[at]
	if !stays {
		p.mails = slices.Delete(p.mails, at, at+1)
	}
	got := impl.HearMail(p.nodes[m.To], m)
	if got.Code == impl.OK {
		p.become(m.To, "mail", got)
	} else if p.honest {
		// Among nodes that came of new ones no mail tells of two leaders, of too much, or of what is agreed otherwise.
		p.t.Fatalf("%+v comes to %+v: %d", m, p.nodes[m.To], got.Code)
	}
}

// deliverAll lets all mails come in the order in which they were sent, with the answers to them.
func (p *play) deliverAll() {
	p.t.Helper()
	for len(p.mails) > 0 {
		p.deliver(0, false)
	}
}

// someStep lets anything happen.
func (p *play) someStep(random *rand.Rand) {
	p.t.Helper()
	id := random.Int63n(int64(len(p.nodes)))
	switch random.Intn(20) {
	case 0:
		if random.Intn(3) == 0 {
			p.timeout(id)
		}
	case 1:
		if random.Intn(4) == 0 {
			p.become(id, "crash", impl.CrashNode(p.nodes[id]))
		}
	case 2, 3:
		p.ask(id, someEntry(random, 1))
	case 4, 5, 6:
		p.spread(id)
	case 7:
		if len(p.mails) > 0 && random.Intn(2) == 0 {
			at := random.Intn(len(p.mails))
			p.mails = slices.Delete(p.mails, at, at+1)
		}
	default:
		if len(p.mails) > 0 {
			p.deliver(random.Intn(len(p.mails)), random.Intn(6) == 0)
		}
	}
	if len(p.mails) > 30 {
		p.mails = slices.Delete(p.mails, 0, 1)
	}
}

func TestWhateverHappensAmongNodes(t *testing.T) {
	led, agreed, most := 0, 0, int64(0)
	for seed := range int64(300) {
		random := rand.New(rand.NewSource(seed))
		p := newPlay(t, 1+seed%5)
		for range 600 {
			p.someStep(random)
		}
		led, agreed = led+len(p.leads), agreed+len(p.agreed)
		for _, n := range p.nodes {
			most = max(most, n.Term)
		}
	}
	if led < 600 || agreed < 2000 || most < 10 {
		t.Errorf("%d led, and %d entries were agreed, up to the term %d", led, agreed, most)
	}
}

func TestWhateverMailANodeHears(t *testing.T) {
	random := rand.New(rand.NewSource(86))
	heard, later, votes := 0, 0, 0
	for _, n := range manyNodes(3000) {
		if n.Peers == 1 {
			continue
		}
		p := newPlay(t, n.Peers)
		p.honest, p.nodes[n.Id] = false, n
		for range 25 {
			before := p.nodes[n.Id]
			p.mails = []impl.Mail{someMail(random, before)}
			if random.Intn(8) == 0 {
				spoilMail(random, &p.mails[0])
				p.mails[0].To = n.Id
			}
			p.deliver(0, false)
			after := p.nodes[n.Id]
			heard++
			if after.Term > before.Term {
				later++
			}
			if after.Voted != before.Voted {
				votes++
			}
			switch random.Intn(20) {
			case 0:
				p.timeout(n.Id)
			case 1:
				p.ask(n.Id, someEntry(random, 1))
			case 2:
				p.spread(n.Id)
			}
		}
	}
	if heard < 50000 || later < 5000 || votes < 5000 {
		t.Errorf("of %d mails %d were of a later term, and %d votes turned", heard, later, votes)
	}
}

func TestWhoAsksForVotesLeadsWhereAllMailsCome(t *testing.T) {
	for peers := int64(1); peers <= 5; peers++ {
		for id := range peers {
			p := newPlay(t, peers)
			p.timeout(id)
			p.deliverAll()
			if n := p.nodes[id]; n.Role != impl.RoleLead || n.Term != 1 {
				t.Fatalf("%+v does not lead in term 1", n)
			}
			for at := range 40 {
				p.ask(id, askedOf(1, 3, int64(at)+1, plainCmds()[at%9]))
				p.spread(id)
				p.deliverAll()
			}
			p.spread(id)
			p.deliverAll()
			for _, n := range p.nodes {
				if len(n.Log) != 40 || n.Commit != 40 || !slices.Equal(n.Log, p.nodes[id].Log) {
					t.Fatalf("%+v has not all that was asked", n)
				}
			}
			mustNotBecome(t, impl.AskNode(p.nodes[id], impl.Entry{Term: 1}), impl.ErrMany)
		}
	}
}

func TestWhoLeadsBringsTheOthersToItsLog(t *testing.T) {
	random := rand.New(rand.NewSource(87))
	for range 300 {
		leads := leaderOf(0, 60, slices.Sorted(slices.Values([]int64{1 + random.Int63n(50), 1 + random.Int63n(50), 1 + random.Int63n(50), 1 + random.Int63n(50), 55}))...)
		p := newPlay(t, 3)
		p.honest, p.nodes[0] = false, leads
		for id := int64(1); id < 3; id++ {
			// Others have any log, but for what is agreed.
			n := followerOf(id, 58, -1)
			cut := random.Intn(6)
			n.Log = append(slices.Clone(leads.Log[:cut]), markedLog(2, evenTerms(random.Intn(35), 58)...)...)
			p.nodes[id] = n
		}
		p.ask(0, impl.Entry{})
		for range 60 {
			p.spread(0)
			p.deliverAll()
		}
		for _, n := range p.nodes {
			if n.Commit != 6 || !slices.Equal(n.Log[:6], p.nodes[0].Log) {
				t.Fatalf("%+v is not where %+v is", n, p.nodes[0])
			}
		}
	}
}
