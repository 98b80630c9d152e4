package tests

import (
	"math/rand"
	"slices"
	"testing"

	"loop.example/g00222/impl"
)

func TestBackendAtTellsTheBackendOfAName(t *testing.T) {
	for _, c := range manyConfigs(300) {
		m := modelOf(c)
		for _, name := range append(allNames(), notNames()...) {
			want, known := m.backends[name]
			code := int64(impl.ErrNone)
			if known {
				code = impl.OK
			}
			if answer := impl.BackendAt(c, name); answer.Code != code || answer.Backend != want {
				t.Fatalf("the backend %d of %v is %v", name, c, answer)
			}
		}
	}
	if answer := impl.BackendAt(plainConfig(), 40); answer.Code != impl.OK || answer.Backend != backendOf(40, 800, 4, impl.StageOn, false) {
		t.Errorf("the backend 40 is %v", answer)
	}
}

func TestVipForTellsThePlaceOfWhatIsServed(t *testing.T) {
	c := plainConfig()
	for _, asked := range []struct {
		flow impl.Flow
		want impl.IntResult
	}{
		{impl.Flow{To: 9, ToP: 80, Proto: 6}, impl.IntResult{}},
		{impl.Flow{From: farthest, To: 9, ToP: 80, Proto: 17, FromP: 65535}, impl.IntResult{Value: 1}},
		{impl.Flow{From: 9, To: 9, ToP: 443, Proto: 6, FromP: 80}, impl.IntResult{Value: 2}},
		{impl.Flow{To: 9, ToP: 443, Proto: 17}, impl.IntResult{Code: impl.ErrNone}},
		{impl.Flow{To: 9, ToP: 81, Proto: 6}, impl.IntResult{Code: impl.ErrNone}},
		{impl.Flow{To: 8, ToP: 80, Proto: 6}, impl.IntResult{Code: impl.ErrNone}},
		{impl.Flow{From: 9, To: 0, ToP: 0, Proto: 6, FromP: 80}, impl.IntResult{Code: impl.ErrNone}},
		{impl.Flow{To: 9, ToP: 80}, impl.IntResult{Code: impl.ErrRange}},
		{impl.Flow{}, impl.IntResult{Code: impl.ErrRange}},
		{impl.Flow{To: 9, ToP: 65536, Proto: 6}, impl.IntResult{Code: impl.ErrRange}},
		{impl.Flow{From: -1, To: 9, ToP: 80, Proto: 6}, impl.IntResult{Code: impl.ErrRange}},
		{impl.Flow{To: 9, ToP: 80, Proto: 6, FromP: 65536}, impl.IntResult{Code: impl.ErrRange}},
		{impl.Flow{To: farthest + 1, ToP: 80, Proto: 6}, impl.IntResult{Code: impl.ErrRange}},
		{impl.Flow{To: 9, ToP: 80, Proto: impl.ProtoGre}, impl.IntResult{Code: impl.ErrRange}},
	} {
		if answer := impl.VipFor(c, asked.flow); answer != asked.want {
			t.Errorf("the vip for %v is %v, not %v", asked.flow, answer, asked.want)
		}
		none := asked.want
		if none.Code == impl.OK {
			none = impl.IntResult{Code: impl.ErrNone}
		}
		if answer := impl.VipFor(impl.Config{}, asked.flow); answer != none {
			t.Errorf("without vips the vip for %v is %v, not %v", asked.flow, answer, none)
		}
	}
}

func TestVipForOfManyFlows(t *testing.T) {
	random := rand.New(rand.NewSource(57))
	found := 0
	for _, c := range manyConfigs(2000) {
		for range 10 {
			at := someServed(random, c)
			flow := impl.Flow{From: someUpTo(random, farthest), To: at.address, Proto: at.proto, FromP: someUpTo(random, 65535), ToP: at.port}
			want := impl.IntResult{Code: impl.ErrNone}
			for place, vip := range c.Vips {
				if (served{vip.Address, vip.Port, vip.Proto}) == at {
					want = impl.IntResult{Value: int64(place)}
					found++
				}
			}
			if answer := impl.VipFor(c, flow); answer != want {
				t.Fatalf("the vip of %v for %v is %v, not %v", c, flow, answer, want)
			}
		}
		for _, far := range farNumbers {
			for place := range 5 {
				flow := plainFlow()
				*[]*int64{&flow.From, &flow.To, &flow.Proto, &flow.FromP, &flow.ToP}[place] = far
				if answer := impl.VipFor(c, flow); answer != (impl.IntResult{Code: impl.ErrRange}) {
					t.Fatalf("the vip for %v is %v", flow, answer)
				}
			}
		}
	}
	if found < 5000 {
		t.Errorf("only %d vips were found", found)
	}
}

func TestSharesForTellsWhoIsUpAndOn(t *testing.T) {
	c := plainConfig()
	for place, want := range [][]impl.Share{sharesOf(3, 2, 8, 0), nil, sharesOf(3, 2)} {
		if answer := impl.SharesFor(c, int64(place)); answer.Code != impl.OK || !slices.Equal(answer.Shares, want) {
			t.Errorf("the shares of vip %d are %v, not %v", place, answer, want)
		}
	}
	for _, stage := range []int64{impl.StageOn, impl.StageDrain, impl.StageOff} {
		for _, up := range []bool{true, false} {
			for weight := range int64(10) {
				c := impl.Config{Backends: []impl.Backend{backendOf(7, 1, weight, stage, up)}, Vips: []impl.Vip{vipOf(1, 1, 6, 7)}}
				var want []impl.Share
				if stage == 1 && up {
					want = sharesOf(7, weight)
				}
				if answer := impl.SharesFor(c, 0); answer.Code != impl.OK || !slices.Equal(answer.Shares, want) {
					t.Errorf("the shares of %v are %v, not %v", c, answer, want)
				}
			}
		}
	}
}

func TestSharesForOfManyConfigurations(t *testing.T) {
	shares := 0
	for _, c := range manyConfigs(3000) {
		for place, vip := range c.Vips {
			// Who is there is asked of the backends, in their order, and not name by name.
			var want []impl.Share
			for _, b := range c.Backends {
				if b.Up && b.Stage == impl.StageOn && slices.Contains(vip.Names, b.Name) {
					want = append(want, impl.Share{Name: b.Name, Weight: b.Weight})
				}
			}
			answer := impl.SharesFor(c, int64(place))
			if answer.Code != impl.OK || !slices.Equal(answer.Shares, want) || impl.SharesFault(answer.Shares) != impl.OK {
				t.Fatalf("the shares of vip %d of %v are %v, not %v", place, c, answer, want)
			}
			shares += len(want)
		}
	}
	if shares < 1000 {
		t.Errorf("there were only %d shares", shares)
	}
}

func TestSharesForOfAPlaceThatIsNone(t *testing.T) {
	for _, c := range manyConfigs(200) {
		last := int64(len(c.Vips))
		for _, place := range append([]int64{-1, last, last + 1, last + 4, 256, 65536}, farNumbers...) {
			if answer := impl.SharesFor(c, place); answer.Code != impl.ErrRange || len(answer.Shares) != 0 {
				t.Fatalf("the shares of vip %d of %v are %v", place, c, answer)
			}
		}
	}
}

func TestWhatIsLookedUpInAConfigurationWithAFault(t *testing.T) {
	for _, c := range manyBadConfigs(3000) {
		want := wantConfigFault(c)
		if want == impl.OK {
			continue
		}
		// The fault of the configuration is asked ahead of all else, whether that is right or not.
		for _, name := range []int64{3, 0, 1000} {
			if answer := impl.BackendAt(c, name); answer != (impl.BackendResult{Code: want}) {
				t.Fatalf("the backend %d of %v is %v", name, c, answer)
			}
		}
		for _, flow := range []impl.Flow{{To: 9, ToP: 80, Proto: 6}, {To: 1, ToP: 1, Proto: 6}, {}} {
			if answer := impl.VipFor(c, flow); answer != (impl.IntResult{Code: want}) {
				t.Fatalf("the vip of %v for %v is %v", c, flow, answer)
			}
		}
		for _, place := range []int64{0, 2, -1, 99} {
			if answer := impl.SharesFor(c, place); answer.Code != want || len(answer.Shares) != 0 {
				t.Fatalf("the shares of vip %d of %v are %v", place, c, answer)
			}
		}
		if answer := impl.ConfigText(c); answer != (impl.TextResult{Code: want}) {
			t.Fatalf("the text of %v is %v", c, answer)
		}
	}
}

func TestWhatIsTurnedOffGetsNoShare(t *testing.T) {
	for _, c := range manyConfigs(500) {
		if c.Version == 1000000 {
			continue
		}
		for place, vip := range c.Vips {
			for _, share := range impl.SharesFor(c, int64(place)).Shares {
				for _, x := range []impl.Cmd{
					cmdOf(impl.CmdStage, -1, share.Name, 0, impl.StageDrain, 0), cmdOf(impl.CmdStage, -1, share.Name, 0, impl.StageOff, 0),
					cmdOf(impl.CmdUp, -1, share.Name, 0, 0, 0), cmdOf(impl.CmdDetach, -1, share.Name, vip.Address, vip.Port, vip.Proto),
				} {
					later := impl.SharesFor(mustApply(t, c, x), int64(place))
					if want := impl.WithoutShare(impl.SharesFor(c, int64(place)).Shares, share.Name).Shares; !slices.Equal(later.Shares, want) {
						t.Fatalf("behind %v the shares of %v are %v, not %v", x, c, later, want)
					}
				}
			}
		}
	}
}
