package tests

import (
	"math/rand"
	"testing"

	"loop.example/g00222/impl"
)

// flowPacket is a packet of a flow, with so many bytes to carry.
func flowPacket(f impl.Flow, load int) impl.Packet {
	return impl.Packet{From: f.From, To: f.To, Proto: f.Proto, FromP: f.FromP, ToP: f.ToP, Load: upTo(int64(load), load)}
}

func mustHash(t *testing.T, f impl.Flow, want int64) {
	t.Helper()
	if got := impl.HashFlow(f); got.Code != impl.OK || got.Value != want {
		t.Errorf("HashFlow(%v) = %v, want %d", f, got, want)
	}
	if got := impl.FlowOf(flowPacket(f, 3)); got.Code != impl.OK || got.Flow != f {
		t.Errorf("FlowOf of a packet of %v = %v", f, got)
	}
}

func mustNotHash(t *testing.T, f impl.Flow) {
	t.Helper()
	if got := impl.HashFlow(f); got != (impl.IntResult{Code: impl.ErrRange}) {
		t.Errorf("HashFlow(%v) = %v, want ErrRange and nothing else", f, got)
	}
	if got := impl.FlowOf(flowPacket(f, 3)); got != (impl.FlowResult{Code: impl.ErrRange}) {
		t.Errorf("FlowOf of a packet of %v = %v, want ErrRange and nothing else", f, got)
	}
}

func TestHashFlowOfKnownFlows(t *testing.T) {
	mustHash(t, impl.Flow{Proto: 6}, 184923)
	mustHash(t, impl.Flow{From: farthest, To: farthest, Proto: 17, FromP: 65535, ToP: 65535}, 297855)
	mustHash(t, impl.Flow{From: 5, To: 6, Proto: 17, FromP: 1, ToP: 2}, 402432)
	mustHash(t, impl.Flow{From: 6, To: 5, Proto: 17, FromP: 1, ToP: 2}, 214641)
	mustHash(t, impl.Flow{From: 5, To: 6, Proto: 17, FromP: 2, ToP: 1}, 165966)
	mustHash(t, impl.Flow{From: 5, To: 6, Proto: 6, FromP: 1, ToP: 2}, 909704)
	mustHash(t, impl.Flow{From: 167772160, To: 5, Proto: 6, FromP: 1000, ToP: 80}, 504078)
}

func TestHashFlowOfManyFlows(t *testing.T) {
	random := rand.New(rand.NewSource(311))
	for range 10000 {
		f := flowOfFields(somePacket(random))
		mustHash(t, f, wantHash(f))
	}
}

func TestAFlowIsTheSameWhateverItsPacketsCarry(t *testing.T) {
	f := plainFlow()
	for load := 0; load <= 200; load++ {
		got := impl.FlowOf(flowPacket(f, load))
		if got.Code != impl.OK || got.Flow != f || impl.HashFlow(got.Flow).Value != wantHash(f) {
			t.Errorf("with %d bytes to carry the flow %v is %v", load, f, got)
		}
	}
}

func TestFlowOfTooGreatALoad(t *testing.T) {
	for _, load := range []int{201, 202, 456, 5000} {
		if got := impl.FlowOf(flowPacket(plainFlow(), load)); got != (impl.FlowResult{Code: impl.ErrMany}) {
			t.Errorf("FlowOf with %d bytes to carry = %v, want ErrMany and nothing else", load, got)
		}
		bad := plainFlow()
		bad.ToP = -1
		if got := impl.FlowOf(flowPacket(bad, load)); got != (impl.FlowResult{Code: impl.ErrRange}) {
			t.Errorf("FlowOf with a port below 0 and %d bytes to carry = %v, want ErrRange", load, got)
		}
	}
}

func TestFlowsWithEachNumberAtItsBounds(t *testing.T) {
	for name := range packetFields(&impl.Packet{}) {
		p := plainPacket()
		field := packetFields(&p)[name]
		for _, good := range []int64{0, 1, 255, 256, field.most - 1, field.most} {
			*field.at = good
			mustHash(t, flowOfFields(p), wantHash(flowOfFields(p)))
		}
		for _, bad := range append([]int64{field.most + 1, field.most + 2}, farNumbers...) {
			*field.at = bad
			mustNotHash(t, flowOfFields(p))
		}
	}
}

func TestFlowsOfEachProtocol(t *testing.T) {
	f := plainFlow()
	for f.Proto = -3; f.Proto < 600; f.Proto++ {
		if f.Proto == 6 || f.Proto == 17 {
			mustHash(t, f, wantHash(f))
		} else {
			mustNotHash(t, f)
		}
	}
	for _, f.Proto = range farNumbers {
		mustNotHash(t, f)
	}
	mustNotHash(t, impl.Flow{})
}
