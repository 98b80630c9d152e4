package tests

import (
	"slices"
	"testing"

	"loop.example/g00222/impl"
)

func TestOrderOfKnownNames(t *testing.T) {
	known := map[int64][]int64{
		1:   {20, 24, 28, 1, 5, 9, 13, 17, 21, 25, 29, 2, 6, 10, 14, 18, 22, 26, 30, 3, 7, 11, 15, 19, 23, 27, 0, 4, 8, 12, 16},
		5:   {14, 4, 25, 15, 5, 26, 16, 6, 27, 17, 7, 28, 18, 8, 29, 19, 9, 30, 20, 10, 0, 21, 11, 1, 22, 12, 2, 23, 13, 3, 24},
		9:   {8, 16, 24, 1, 9, 17, 25, 2, 10, 18, 26, 3, 11, 19, 27, 4, 12, 20, 28, 5, 13, 21, 29, 6, 14, 22, 30, 7, 15, 23, 0},
		998: {3, 4, 5, 6, 7, 8, 9, 10, 11, 12, 13, 14, 15, 16, 17, 18, 19, 20, 21, 22, 23, 24, 25, 26, 27, 28, 29, 30, 0, 1, 2},
		999: {26, 11, 27, 12, 28, 13, 29, 14, 30, 15, 0, 16, 1, 17, 2, 18, 3, 19, 4, 20, 5, 21, 6, 22, 7, 23, 8, 24, 9, 25, 10},
	}
	for name, want := range known {
		if got := impl.Permutation(name); got.Code != impl.OK || !slices.Equal(got.List, want) {
			t.Errorf("Permutation(%d) = %v, want %v", name, got, want)
		}
	}
}

func TestOrderOfEachName(t *testing.T) {
	for _, name := range allNames() {
		if got := impl.OffsetOf(name); got != (impl.IntResult{Value: wantOffset(name)}) {
			t.Errorf("OffsetOf(%d) = %v, want %d", name, got, wantOffset(name))
		}
		if got := impl.SkipOf(name); got != (impl.IntResult{Value: wantSkip(name)}) {
			t.Errorf("SkipOf(%d) = %v, want %d", name, got, wantSkip(name))
		}
		if got := impl.Permutation(name); got.Code != impl.OK || !slices.Equal(got.List, wantOrder(name)) {
			t.Errorf("Permutation(%d) = %v, want %v", name, got, wantOrder(name))
		}
	}
}

func TestEachNameAsksForEachPlaceOnce(t *testing.T) {
	for _, name := range allNames() {
		list := impl.Permutation(name).List
		asked := map[int64]int{}
		for _, place := range list {
			asked[place]++
		}
		for place := range int64(impl.TableSize) {
			if asked[place] != 1 {
				t.Errorf("%d asks %d times for the place %d", name, asked[place], place)
			}
		}
		if len(list) != impl.TableSize {
			t.Errorf("%d asks %d times", name, len(list))
		}
	}
}

func TestTheFirstPlaceIsTheOffset(t *testing.T) {
	first, skips := map[int64]bool{}, map[int64]bool{}
	for _, name := range allNames() {
		offset, skip, list := impl.OffsetOf(name).Value, impl.SkipOf(name).Value, impl.Permutation(name).List
		if len(list) != 31 || list[0] != offset || list[1] != (offset+skip)%31 || skip < 1 || skip > 30 {
			t.Errorf("%d begins at %v, its offset is %d and its skip %d", name, list, offset, skip)
		}
		first[offset], skips[skip] = true, true
	}
	if len(first) != 31 || len(skips) != 30 {
		t.Errorf("of all names there are %d first places and %d skips, want 31 and 30", len(first), len(skips))
	}
}

func TestOrderOfWhatIsNoName(t *testing.T) {
	for _, name := range notNames() {
		if got := impl.OffsetOf(name); got != (impl.IntResult{Code: impl.ErrRange}) {
			t.Errorf("OffsetOf(%d) = %v, want ErrRange and nothing else", name, got)
		}
		if got := impl.SkipOf(name); got != (impl.IntResult{Code: impl.ErrRange}) {
			t.Errorf("SkipOf(%d) = %v, want ErrRange and nothing else", name, got)
		}
		if got := impl.Permutation(name); got.Code != impl.ErrRange || len(got.List) != 0 {
			t.Errorf("Permutation(%d) = %v, want ErrRange and nothing else", name, got)
		}
	}
}
