package tests

import (
	"reflect"
	"slices"
	"testing"

	"loop.example/g00222/impl"
)

func TestAClusterIsSafeWhereAllFourHold(t *testing.T) {
	steady := steadyCluster()
	mustLack(t, steady)
	turns := map[string]func(c *impl.Cluster){
		"OneLeader":   func(c *impl.Cluster) { c.Wins = append(c.Wins, impl.Won{Term: 7, Node: 1}) },
		"LogsMatch":   func(c *impl.Cluster) { c.Nodes[1].Log[2].Client = 77 },
		"SealsKept":   func(c *impl.Cluster) { c.Nodes[2].Commit = 3 },
		"LeadersHave": func(c *impl.Cluster) { c.Seals = append(c.Seals, impl.Seal{Term: 7, Entry: impl.Entry{Term: 7}}) },
	}
	for some := range 16 {
		c, wrong := steadyCluster(), []string(nil)
		for i, name := range namesOf(false, false, false, false) {
			if some>>i%2 == 1 {
				turns[name](&c)
				wrong = append(wrong, name)
			}
		}
		mustLack(t, c, wrong...)
	}
}

func TestWhatIsToldOfClustersWithAFault(t *testing.T) {
	mustLack(t, steadyCluster())
	mustBeLed(t, steadyCluster(), impl.OK, 0)
	refuses := func(c impl.Cluster, code int64) {
		t.Helper()
		if len(wrongOf(c)) != 4 || impl.SafeCluster(c) {
			t.Errorf("something is told to hold in %s", short(c))
		}
		mustBeLed(t, c, code, 0)
		mustAgree(t, c, code)
	}
	for _, stage := range clusterFaults() {
		for _, one := range stage {
			c := clusterWith(steadyCluster(), one.do)
			refuses(c, one.code)
			// That nobody leads is asked behind it.
			for id := range c.Nodes {
				n := &c.Nodes[id]
				n.Role, n.Next, n.Match = min(n.Role, impl.RoleFollow), nil, nil
			}
			if code := wantClusterFault(c); code != impl.OK {
				refuses(c, code)
			} else {
				mustBeLed(t, c, impl.ErrNone, 0)
			}
		}
	}
	refuses(impl.Cluster{}, impl.ErrMany)
	refuses(impl.Cluster{Seals: sealsOf(1, impl.Entry{Term: 1})}, impl.ErrMany)
}

func TestWhatIsAgreed(t *testing.T) {
	log := markedLog(1, 1, 1, 3, 4)
	mustAgree(t, newThree(), impl.OK)
	mustAgree(t, newAlone(), impl.OK)
	mustAgree(t, greatCluster(), impl.OK, fullLog()...)
	for count := range 5 {
		// Whatever the nodes know of.
		mustAgree(t, knownThree([3]int64{4, 1, 0}, sealsOf(4, log[:count]...)...), impl.OK, log[:count]...)
	}
	// In the order in which they stand, twice and of any terms.
	strange := []impl.Entry{log[3], log[0], {Term: 100000}, log[0], {Term: 1}}
	mustAgree(t, clusterWith(newThree(), func(c *impl.Cluster) { c.Seals = sealsOf(9, strange...) }), impl.OK, strange...)
}

func TestWhatManyClustersAreToldToBe(t *testing.T) {
	clusters := append(manyTurned(250), manyClusters(400)...)
	for _, c := range append(clusters, manyBadClusters(300)...) {
		want := wantWrong(c)
		if got := wrongOf(c); !slices.Equal(got, want) {
			t.Fatalf("of %s not %v but %v does not hold", short(c), want, got)
		}
		if impl.SafeCluster(c) != (len(want) == 0) {
			t.Fatalf("%s is told to be safe or not, though %v does not hold", short(c), want)
		}
		if got := impl.LeaderOf(c); got != wantLed(c) {
			t.Fatalf("who leads %s is told as %v, not %v", short(c), got, wantLed(c))
		}
		if got := impl.AgreedOf(c); !reflect.DeepEqual(shaped(shape{}, got), wantAgreedOf(c)) {
			t.Fatalf("what is agreed in %s is told as %v, not %v", short(c), got, wantAgreedOf(c))
		}
	}
}
