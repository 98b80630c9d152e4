package tests

import (
	"bytes"
	"encoding/binary"
	"math/rand"
	"slices"
	"testing"

	"loop.example/g00222/impl"
)

func TestPackCmdByHand(t *testing.T) {
	for _, one := range []struct {
		x    impl.Cmd
		want []byte
	}{
		{cmdOf(impl.CmdBackend, -1, 3, 500, 2, 0), []byte{1, 0, 0, 0, 0, 0, 3, 0, 0, 1, 244, 0, 2, 0}},
		{cmdOf(impl.CmdWeight, 0, 999, 0, 9, 0), []byte{2, 0, 0, 0, 1, 3, 231, 0, 0, 0, 0, 0, 9, 0}},
		{cmdOf(impl.CmdStage, 255, 256, 0, impl.StageOff, 0), []byte{3, 0, 0, 1, 0, 1, 0, 0, 0, 0, 0, 0, 3, 0}},
		{cmdOf(impl.CmdForget, 65535, 1, 0, 0, 0), []byte{4, 0, 1, 0, 0, 0, 1, 0, 0, 0, 0, 0, 0, 0}},
		{cmdOf(impl.CmdVip, 1000000, 0, 4294967295, 65535, 17), []byte{5, 0, 15, 66, 65, 0, 0, 255, 255, 255, 255, 255, 255, 17}},
		{cmdOf(impl.CmdNoVip, 7, 0, 0, 0, 6), []byte{6, 0, 0, 0, 8, 0, 0, 0, 0, 0, 0, 0, 0, 6}},
		{cmdOf(impl.CmdAttach, -1, 3, 9, 80, 6), []byte{7, 0, 0, 0, 0, 0, 3, 0, 0, 0, 9, 0, 80, 6}},
		{cmdOf(impl.CmdDetach, 1, 515, 16909060, 1286, 17), []byte{8, 0, 0, 0, 2, 2, 3, 1, 2, 3, 4, 5, 6, 17}},
		{cmdOf(impl.CmdUp, 2, 40, 0, 1, 0), []byte{9, 0, 0, 0, 3, 0, 40, 0, 0, 0, 0, 0, 1, 0}},
		{cmdOf(impl.CmdUp, 2, 40, 0, 0, 0), []byte{9, 0, 0, 0, 3, 0, 40, 0, 0, 0, 0, 0, 0, 0}},
	} {
		mustPackCmd(t, one.x, one.want)
	}
}

func TestPackCmdOfTheLeastAndTheGreatest(t *testing.T) {
	for _, plain := range plainCmds() {
		for _, expect := range []int64{-1, 0, 1, 254, 255, 256, 65534, 65535, 65536, 999999, 1000000} {
			x := plain
			x.Expect = expect
			mustPackCmd(t, x, wantCmdBytes(x))
		}
		bounds, needed := rightNumbers(plain.Kind)
		for i := range 4 {
			for _, right := range []int64{bounds[i][0], bounds[i][1], 1, 2, 255, 256, 999, 65535, 65536} {
				x := plain
				*fieldsOf(&x)[i] = right
				if needed[i] && wantCmdFault(x) == impl.OK {
					mustPackCmd(t, x, wantCmdBytes(x))
				}
			}
		}
	}
}

func TestPackCmdOfManyCommands(t *testing.T) {
	random := rand.New(rand.NewSource(61))
	codes := map[int64]int{}
	for _, c := range manyConfigs(500) {
		for range 20 {
			x := someCmd(random, c)
			code := wantCmdFault(x)
			codes[code]++
			if code == impl.OK {
				mustPackCmd(t, x, wantCmdBytes(x))
			} else {
				mustNotPackCmd(t, x, code)
			}
		}
	}
	if codes[impl.OK] < 1000 || codes[impl.ErrRange] < 100 || codes[impl.ErrForm] < 100 {
		t.Errorf("the codes are %v", codes)
	}
}

func TestPackCmdOfAFault(t *testing.T) {
	mustNotPackCmd(t, impl.Cmd{}, impl.ErrForm)
	for _, plain := range plainCmds() {
		for _, far := range append([]int64{-2, 10, 256 + plain.Kind, 1000001}, farNumbers...) {
			for i, field := range []func(x *impl.Cmd) *int64{
				func(x *impl.Cmd) *int64 { return &x.Kind }, func(x *impl.Cmd) *int64 { return &x.Expect },
				func(x *impl.Cmd) *int64 { return &x.Name }, func(x *impl.Cmd) *int64 { return &x.Addr },
				func(x *impl.Cmd) *int64 { return &x.Number }, func(x *impl.Cmd) *int64 { return &x.Proto },
			} {
				x := plain
				*field(&x) = far
				if code := wantCmdFault(x); code != impl.OK {
					mustNotPackCmd(t, x, code)
				} else if far < -1 || i == 0 {
					t.Errorf("%v has no fault", x)
				}
			}
		}
	}
	// The kind ahead of the numbers, and these ahead of what is not needed.
	mustNotPackCmd(t, cmdOf(10, -2, -1, -1, -1, -1), impl.ErrForm)
	mustNotPackCmd(t, cmdOf(impl.CmdForget, -2, 3, 1, 0, 0), impl.ErrRange)
	mustNotPackCmd(t, cmdOf(impl.CmdForget, -1, 0, 1, 0, 0), impl.ErrRange)
	mustNotPackCmd(t, cmdOf(impl.CmdForget, -1, 3, 1, 0, 0), impl.ErrForm)
}

func TestUnpackCmdOfAnyLength(t *testing.T) {
	mustNotUnpackCmd(t, nil)
	mustNotUnpackCmd(t, []byte{})
	for _, x := range plainCmds() {
		good := wantCmdBytes(x)
		for cut := range good {
			mustNotUnpackCmd(t, good[:cut])
			mustNotUnpackCmd(t, good[cut+1:])
			mustNotUnpackCmd(t, slices.Delete(bytes.Clone(good), cut, cut+1))
		}
		for more := range 256 {
			mustNotUnpackCmd(t, joined(good, []byte{byte(more)}))
			mustNotUnpackCmd(t, joined([]byte{byte(more)}, good))
		}
		mustNotUnpackCmd(t, joined(good, good))
		mustNotUnpackCmd(t, joined(good, make([]byte, 100000)))
		mustUnpackCmd(t, good, x)
	}
	for length := range 300 {
		mustNotUnpackCmd(t, make([]byte, length))
		mustNotUnpackCmd(t, bytes.Repeat([]byte{1}, length))
	}
}

func TestUnpackCmdReadsNothingBehindItsBytes(t *testing.T) {
	for _, x := range plainCmds() {
		good := wantCmdBytes(x)
		for cut := range good {
			// The other bytes lie behind the end, where there is room.
			if got := impl.UnpackCmd(good[:cut]); got != (impl.CmdResult{Code: impl.ErrText}) {
				t.Errorf("UnpackCmd of %v = %v", good[:cut], got)
			}
		}
	}
}

func TestUnpackCmdOfAnUnknownKind(t *testing.T) {
	for _, x := range plainCmds() {
		good := wantCmdBytes(x)
		for kind := range 256 {
			data := bytes.Clone(good)
			data[0] = byte(kind)
			if kind == 0 || kind > 9 {
				mustNotUnpackCmd(t, data)
			} else {
				checkCmdRead(t, data)
			}
		}
	}
}

func TestUnpackCmdOfAnyTurnedByte(t *testing.T) {
	read, unread := 0, 0
	for _, x := range plainCmds() {
		good := wantCmdBytes(x)
		for at := range good {
			for value := range 256 {
				data := bytes.Clone(good)
				data[at] = byte(value)
				if checkCmdRead(t, data) {
					read++
				} else {
					unread++
				}
			}
		}
	}
	if read < 1000 || unread < 1000 {
		t.Errorf("%d of the turned bytes are read, and %d are not", read, unread)
	}
}

func TestUnpackCmdOfWhatIsExpected(t *testing.T) {
	for _, x := range plainCmds() {
		data := wantCmdBytes(x)
		for number, so := range map[uint32]bool{
			0: true, 1: true, 2: true, 255: true, 256: true, 1000000: true, 1000001: true, 1000002: false, 1000003: false,
			1 << 24: false, 1<<31 - 1: false, 1 << 31: false, 1<<32 - 2: false, 1<<32 - 1: false,
		} {
			binary.BigEndian.PutUint32(data[1:], number)
			want := x
			want.Expect = int64(number) - 1
			if so {
				mustUnpackCmd(t, data, want)
			} else {
				mustNotUnpackCmd(t, data)
			}
		}
	}
}

func TestUnpackCmdOfNumbersInTwoBytes(t *testing.T) {
	for _, x := range plainCmds() {
		for _, at := range []int{5, 11} {
			data := wantCmdBytes(x)
			for n := range 65536 {
				binary.BigEndian.PutUint16(data[at:], uint16(n))
				want, so := wantCmdRead(data)
				if got := impl.UnpackCmd(data); got.Cmd != want || (got.Code == impl.OK) != so {
					t.Fatalf("UnpackCmd(%v) = %v, want %v", data, got, want)
				}
			}
		}
	}
}

func TestUnpackCmdOfWhatIsNotNeeded(t *testing.T) {
	for _, x := range plainCmds() {
		_, needed := rightNumbers(x.Kind)
		for i, places := range [][]int{{5, 6}, {7, 8, 9, 10}, {11, 12}, {13}} {
			for _, at := range places {
				data := wantCmdBytes(x)
				data[at] |= 1
				if !needed[i] {
					mustNotUnpackCmd(t, data)
				}
			}
		}
	}
}

func TestUnpackCmdOfDamagedBytes(t *testing.T) {
	random := rand.New(rand.NewSource(62))
	read := 0
	for _, c := range manyConfigs(500) {
		for range 40 {
			if checkCmdRead(t, damagedBytes(random, wantCmdBytes(someCmd(random, c)))) {
				read++
			}
		}
	}
	if read < 500 {
		t.Errorf("only %d were commands", read)
	}
	for i := range 20000 {
		data := upTo(int64(i), 14)
		data[0] %= 10
		checkCmdRead(t, data)
	}
}

func TestTwoCommandsHaveNotTheSameBytes(t *testing.T) {
	random := rand.New(rand.NewSource(63))
	seen := map[string]impl.Cmd{}
	for _, c := range manyConfigs(500) {
		for range 20 {
			x := someCmd(random, c)
			packed := impl.PackCmd(x)
			if packed.Code != impl.OK {
				continue
			}
			if other, known := seen[string(packed.Bytes)]; known && other != x {
				t.Fatalf("%v and %v have the bytes %v", x, other, packed.Bytes)
			}
			seen[string(packed.Bytes)] = x
		}
	}
	if len(seen) < 1000 {
		t.Errorf("there were only %d commands", len(seen))
	}
}
