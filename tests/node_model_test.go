package tests

import (
	"cmp"
	"slices"

	"loop.example/g00222/impl"
)

// wantAgreed sorts how far the nodes are: what the one in the middle reaches, more than half do.
func wantAgreed(n impl.Node) impl.Node {
	reach := slices.Sorted(slices.Values(n.Match))
	for index := n.Commit + 1; index <= reach[(len(reach)-1)/2]; index++ {
		if n.Log[index-1].Term == n.Term {
			n.Commit = index
		}
	}
	return n
}

// wantFollower takes away what only those have who ask for votes or lead.
func wantFollower(n impl.Node) impl.Node {
	return impl.Node{Id: n.Id, Peers: n.Peers, Term: n.Term, Voted: n.Voted, Log: n.Log, Commit: n.Commit}
}

// wantLeader tells a node that leads from now on, if its votes are enough.
func wantLeader(n impl.Node) impl.Node {
	if int64(len(n.Votes)) <= n.Peers/2 {
		return n
	}
	count := int64(len(n.Log))
	n = wantFollower(n)
	n.Role, n.Next, n.Match = impl.RoleLead, evenTerms(int(n.Peers), count+1), evenTerms(int(n.Peers), 0)
	n.Match[n.Id] = count
	if n.Peers == 1 {
		return wantAgreed(n)
	}
	return n
}

// wantOthers are the Ids of all nodes but one.
func wantOthers(n impl.Node) []int64 {
	return slices.DeleteFunc([]int64{0, 1, 2, 3, 4}, func(id int64) bool { return id == n.Id || id >= n.Peers })
}

func wantTimeout(n impl.Node) impl.NodeResult {
	if code := cmp.Or(wantNodeFault(n), told(n.Role == impl.RoleLead, impl.ErrState), told(n.Term >= 100000, impl.ErrRange)); code != impl.OK {
		return impl.NodeResult{Code: code}
	}
	n = wantFollower(n)
	n.Term, n.Voted, n.Role, n.Votes = n.Term+1, n.Id, impl.RoleAsk, []int64{n.Id}
	var send []impl.Mail
	for _, id := range wantOthers(n) {
		send = append(send, voteOf(n.Id, id, n.Term, int64(len(n.Log)), wantLast(n.Log)))
	}
	return impl.NodeResult{Node: wantLeader(n), Send: send}
}

func wantSpread(n impl.Node) impl.NodeResult {
	if code := cmp.Or(wantNodeFault(n), told(n.Role != impl.RoleLead, impl.ErrState)); code != impl.OK {
		return impl.NodeResult{Code: code}
	}
	var send []impl.Mail
	for _, id := range wantOthers(n) {
		ahead := n.Next[id] - 1
		end := min(ahead+4, int64(len(n.Log)))
		send = append(send, appendOf(n.Id, id, n.Term, ahead, wantLast(n.Log[:ahead]), n.Commit, n.Log[ahead:end]))
	}
	return impl.NodeResult{Node: n, Send: send}
}

func wantAsk(n impl.Node, x impl.Entry) impl.NodeResult {
	code := cmp.Or(
		wantNodeFault(n), told(n.Role != impl.RoleLead, impl.ErrState), wantEntryFault(x),
		told(x.Term != n.Term, impl.ErrForm), told(len(n.Log) >= 40, impl.ErrMany),
	)
	if code != impl.OK {
		return impl.NodeResult{Code: code}
	}
	n = cloneNode(n)
	n.Log = append(n.Log, x)
	n.Match[n.Id], n.Next[n.Id] = int64(len(n.Log)), int64(len(n.Log))+1
	return impl.NodeResult{Node: wantAgreed(n)}
}

func wantCrash(n impl.Node) impl.NodeResult {
	if code := wantNodeFault(n); code != impl.OK {
		return impl.NodeResult{Code: code}
	}
	n = wantFollower(n)
	n.Commit = 0
	return impl.NodeResult{Node: n}
}

func wantHear(n impl.Node, m impl.Mail) impl.NodeResult {
	if code := wantMailFault(n, m); code != impl.OK {
		return impl.NodeResult{Code: code}
	}
	n = cloneNode(n)
	if m.Term > n.Term {
		n = wantFollower(n)
		n.Term, n.Voted = m.Term, -1
	}
	own := m.Term == n.Term
	switch m.Kind {
	case impl.MailVote:
		grants := own && (n.Voted == -1 || n.Voted == m.From) && wantUpToDate(n.Log, m.Index, m.Last)
		if grants {
			n.Voted = m.From
		}
		return impl.NodeResult{Node: n, Send: []impl.Mail{grantOf(n.Id, m.From, n.Term, grants)}}
	case impl.MailGrant:
		if own && m.Ok && n.Role == impl.RoleAsk {
			n.Votes = slices.Compact(slices.Sorted(slices.Values(append(n.Votes, m.From))))
			n = wantLeader(n)
		}
	case impl.MailAppend:
		return wantHearAppend(n, m, own)
	case impl.MailTaken:
		if own && n.Role == impl.RoleLead {
			n = wantHearTaken(n, m)
		}
	}
	return impl.NodeResult{Node: n}
}

func wantHearAppend(n impl.Node, m impl.Mail, own bool) impl.NodeResult {
	if !own {
		return impl.NodeResult{Node: n, Send: []impl.Mail{takenOf(n.Id, m.From, n.Term, false, 0)}}
	}
	if n.Role == impl.RoleLead {
		return impl.NodeResult{Code: impl.ErrState}
	}
	n = wantFollower(n)
	if !wantFits(n.Log, m.Index, m.Last) {
		return impl.NodeResult{Node: n, Send: []impl.Mail{takenOf(n.Id, m.From, n.Term, false, min(m.Index-1, int64(len(n.Log))))}}
	}
	code, log := wantTake(n.Log, m.Index, m.Last, m.Entries)
	if code != impl.OK {
		return impl.NodeResult{Code: code}
	}
	for i, x := range n.Log[:n.Commit] {
		if i >= len(log) || log[i] != x {
			return impl.NodeResult{Code: impl.ErrState}
		}
	}
	n.Log = log
	reach := m.Index + int64(len(m.Entries))
	n.Commit = max(n.Commit, min(m.Commit, reach))
	return impl.NodeResult{Node: n, Send: []impl.Mail{takenOf(n.Id, m.From, n.Term, true, reach)}}
}

func wantHearTaken(n impl.Node, m impl.Mail) impl.Node {
	next, match := &n.Next[m.From], &n.Match[m.From]
	if m.Ok {
		if m.Index > *match && m.Index <= int64(len(n.Log)) {
			*match = m.Index
		}
		*next = *match + 1
		return wantAgreed(n)
	}
	*next = max(1, min(*next-1, m.Index+1), *match+1)
	return n
}
