package tests

import (
	"cmp"
	"slices"

	"loop.example/g00222/impl"
)

// wantAt asks what each function asks ahead of anything else.
func wantAt(c impl.Cluster, at int64, count int) int64 {
	return cmp.Or(wantClusterFault(c), told(outside(at, 0, int64(count)-1), impl.ErrRange))
}

// wantDone tells a cluster whose node did something, by what the model of nodes says of it.
func wantDone(c impl.Cluster, node int64, do func(n impl.Node) impl.NodeResult) impl.ClusterResult {
	c = shaped(shape{}, c)
	before, result := c.Nodes[node], do(c.Nodes[node])
	after := result.Node
	c.Mails = slices.Concat(c.Mails, result.Send)
	// Who leads is told by its term; 0 stands for nobody.
	reign := func(n impl.Node) int64 { return map[int64]int64{impl.RoleLead: n.Term}[n.Role] }
	if reign(after) != 0 && reign(after) != reign(before) {
		c.Wins = append(c.Wins, impl.Won{Term: after.Term, Node: node})
	}
	if code := cmp.Or(result.Code, told(len(c.Mails) > 80 || len(c.Wins) > 400, impl.ErrMany)); code != impl.OK {
		return impl.ClusterResult{Code: code}
	}
	c.Nodes[node] = after
	for place, x := range after.Log[:after.Commit] {
		if place >= len(c.Seals) {
			c.Seals = append(c.Seals, impl.Seal{Term: after.Term, Entry: x})
		}
	}
	return impl.ClusterResult{Cluster: c}
}

// wantTold tells a cluster whose node, if there is one, did something.
func wantTold(c impl.Cluster, node int64, do func(n impl.Node) impl.NodeResult) impl.ClusterResult {
	if code := wantAt(c, node, len(c.Nodes)); code != impl.OK {
		return impl.ClusterResult{Code: code}
	}
	return wantDone(c, node, do)
}

func wantAskAt(c impl.Cluster, node, client, seq int64, x impl.Cmd) impl.ClusterResult {
	return wantTold(c, node, func(n impl.Node) impl.NodeResult { return wantAsk(n, askedOf(n.Term, client, seq, x)) })
}

func wantDeliver(c impl.Cluster, at int64) impl.ClusterResult {
	if code := wantAt(c, at, len(c.Mails)); code != impl.OK {
		return impl.ClusterResult{Code: code}
	}
	m := c.Mails[at]
	return wantDone(wantDrop(c, at).Cluster, m.To, func(n impl.Node) impl.NodeResult { return wantHear(n, m) })
}

func wantDrop(c impl.Cluster, at int64) impl.ClusterResult {
	if code := wantAt(c, at, len(c.Mails)); code != impl.OK {
		return impl.ClusterResult{Code: code}
	}
	var left []impl.Mail
	for place, m := range c.Mails {
		if int64(place) != at {
			left = append(left, m)
		}
	}
	c.Mails = left
	return impl.ClusterResult{Cluster: c}
}

func wantCopy(c impl.Cluster, at int64) impl.ClusterResult {
	if code := cmp.Or(wantAt(c, at, len(c.Mails)), told(len(c.Mails) >= 80, impl.ErrMany)); code != impl.OK {
		return impl.ClusterResult{Code: code}
	}
	c.Mails = append(slices.Clone(c.Mails), c.Mails[at])
	return impl.ClusterResult{Cluster: c}
}
