package tests

import (
	"fmt"
	"strings"
	"testing"

	"loop.example/g00222/impl"
)

func mustWrite(t *testing.T, m impl.Mux, text string) {
	t.Helper()
	if got := impl.MuxText(m); got != (impl.TextResult{Text: text}) {
		t.Errorf("the text of %s is %q with the code %d, not %q", short(m), got.Text, got.Code, text)
	}
}

func TestMuxTextOfKnownMuxes(t *testing.T) {
	mustWrite(t, impl.Mux{}, "mux 0.0.0.0 0\nempty\n")
	mustWrite(t, impl.NewMux(600).Mux, "mux 0.0.2.88 0\nempty\n")
	mustWrite(t, impl.Mux{Address: farthest, Now: 1000000000}, "mux 255.255.255.255 1000000000\nempty\n")
	// What has version 0 is not empty.
	mustWrite(t, muxOf(1, 2, impl.Config{}), "mux 0.0.0.1 2\nversion 0\n")
	mustWrite(t, muxOf(600, 7, liveConfig()), "mux 0.0.2.88 7\nversion 30\n")
	mustWrite(t, plainMux(), `mux 0.0.2.88 100
version 12
held 0.0.0.5 1000 5 80
held 0.0.0.5 1000 3 99
held 0.0.0.6 1000 40 85
held 0.0.0.5 1001 8 100
`)
	mustWrite(t, fullMux(), `mux 255.255.255.255 1000000000
version 1000000
held 255.255.255.255 65535 1 1000000000
held 255.255.255.255 65534 2 999999998
held 255.255.255.255 65533 500 999999995
held 255.255.255.255 65532 996 999999992
held 255.255.255.255 65531 998 999999989
held 255.255.255.255 65530 999 999999986
held 255.255.255.255 65529 1 999999983
held 255.255.255.255 65528 2 999999980
`)
	mustWrite(t, muxOf(167772161, 5, liveConfig(), heldOf(impl.Flow{From: 167772162, To: 9, Proto: 17, ToP: 80}, 8, 0)), "mux 10.0.0.1 5\nversion 30\nheld 10.0.0.2 0 8 0\n")
}

func TestMuxTextGoesByTheCachesOrder(t *testing.T) {
	m := muxOf(600, 27, liveConfig(), heldFlows(3, 10)...)
	mustWrite(t, m, "mux 0.0.2.88 27\nversion 30\nheld 0.0.0.5 0 3 10\nheld 0.0.0.5 1 8 11\nheld 0.0.0.5 2 20 12\n")
	m = impl.ForwardMux(m, dataOf(liveFlow(1), 3)).Mux
	mustWrite(t, m, "mux 0.0.2.88 27\nversion 30\nheld 0.0.0.5 0 3 10\nheld 0.0.0.5 2 20 12\nheld 0.0.0.5 1 8 27\n")
	m = impl.TickMux(m, 4).Mux
	mustWrite(t, m, "mux 0.0.2.88 31\nversion 30\nheld 0.0.0.5 2 20 12\nheld 0.0.0.5 1 8 27\n")
	m = impl.InstallMux(m, stepsOf(30, stageOf(20, impl.StageOff))).Mux
	mustWrite(t, m, "mux 0.0.2.88 31\nversion 31\nheld 0.0.0.5 1 8 27\n")
}

// wantMuxText writes a mux by the library.
func wantMuxText(m impl.Mux) string {
	address := func(a int64) string { return fmt.Sprintf("%d.%d.%d.%d", a>>24, a>>16&255, a>>8&255, a&255) }
	var text strings.Builder
	fmt.Fprintf(&text, "mux %s %d\n", address(m.Address), m.Now)
	fmt.Fprint(&text, map[bool]string{true: fmt.Sprintln("version", m.Watch.Config.Version), false: "empty\n"}[m.Watch.Ready])
	for _, h := range m.Cache {
		fmt.Fprintln(&text, "held", address(h.Flow.From), h.Flow.FromP, h.Name, h.Seen)
	}
	return text.String()
}

func TestMuxTextOfManyMuxes(t *testing.T) {
	for _, m := range manyMuxes(2000) {
		mustWrite(t, m, wantMuxText(m))
	}
	for _, m := range manyBadMuxes(1000) {
		if want := wantMuxFault(m); want != impl.OK {
			mustGive(t, impl.MuxText(m), impl.TextResult{Code: want})
		}
	}
}
