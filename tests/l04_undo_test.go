package tests

import (
	"slices"
	"strings"
	"testing"
	"unsafe"

	"loop.example/g00330/impl"
)

func had(key string, num int) impl.Undo {
	return impl.Undo{Key: key, Had: true, Num: num}
}

func gone(key string) impl.Undo {
	return impl.Undo{Key: key}
}

// plainUndoOf and plainUndone are the chapter's own words, on the list itself.
func plainUndoOf(list []impl.Cell, key string) impl.Undo {
	for _, cell := range list {
		if cell.Key == key {
			return impl.Undo{Key: key, Had: true, Num: cell.Num}
		}
	}
	return impl.Undo{Key: key}
}

func plainUndone(list []impl.Cell, u impl.Undo) []impl.Cell {
	same := slices.Clone(list)
	if !impl.CellsOk(list) || !impl.KeyOk(u.Key) || u.Num < 0 || u.Num > impl.MaxNumber {
		return same
	}
	at := 0
	for at < len(same) && same[at].Key < u.Key {
		at++
	}
	if at < len(same) && same[at].Key == u.Key {
		same = slices.Delete(same, at, at+1)
	}
	if u.Had {
		same = slices.Insert(same, at, impl.Cell{Key: u.Key, Num: u.Num})
	}
	return same
}

func holdUndone(t *testing.T, list []impl.Cell, u impl.Undo, want []impl.Cell) {
	t.Helper()
	if got := impl.Undone(list, u); !slices.Equal(got, want) {
		t.Errorf("Undone(%.300v, %.40v) = %.300v, want %.300v", list, u, got, want)
	}
}

// backRows are rows of commands of which some are refused: without the account, over a number, over MaxCells, and not right.
func backRows() [][]impl.Cmd {
	var full []impl.Cmd
	for b := byte('a'); b <= 'z'; b++ {
		full = append(full, set(string([]byte{b, b}), int(b)), add(string([]byte{b, 'y'}), 1))
	}
	return append(someRows(),
		[]impl.Cmd{add("q", 1), take("q", 0)},
		[]impl.Cmd{set("b", 7), set("b", 8), add("b", 1), take("b", 9), take("b", 1), set("b", impl.MaxNumber), add("b", 1), set("b", 0)},
		[]impl.Cmd{set("q", 7), add("q", 1), add("q", impl.MaxNumber), take("q", 9), take("q", 8), set("q", 3)},
		[]impl.Cmd{set("a", 1), set("zz", 2), set("a", 3), add("zz", 4), set("ab", 5)},
		wrongCmds()[:60],
		full,
		slices.Concat(full, wrongCmds()[:20], full),
	)
}

func someUndos() []impl.Undo {
	var us []impl.Undo
	for _, key := range []string{"a", "aa", "b", "bb", "c", "g", "gg", "l", "m", "mm", "n", "zzz"} {
		us = append(us, gone(key), impl.Undo{Key: key, Num: 5}, had(key, 0), had(key, 7), had(key, impl.MaxNumber))
	}
	return us
}

func wrongUndos() []impl.Undo {
	var us []impl.Undo
	for _, key := range wrongKeys() {
		us = append(us, gone(key), had(key, 3))
	}
	for _, num := range wrongNumbers() {
		for _, key := range []string{"a", "b", "m", "zzz"} {
			us = append(us, had(key, num), impl.Undo{Key: key, Num: num})
		}
	}
	return us
}

func TestUndoOf(t *testing.T) {
	list := []impl.Cell{{Key: "b", Num: 5}, {Key: "bb", Num: 0}, {Key: "d", Num: impl.MaxNumber}}
	for key, want := range map[string]impl.Undo{
		"b": had("b", 5), "bb": had("bb", 0), "d": had("d", impl.MaxNumber),
		"a": gone("a"), "ba": gone("ba"), "bbb": gone("bbb"), "c": gone("c"), "dd": gone("dd"), "": gone(""), "B": gone("B"), "bbbb": gone("bbbb"),
	} {
		if got := impl.UndoOf(list, key); got != want {
			t.Errorf("UndoOf(%v, %q) = %v, want %v", list, key, got, want)
		}
		if got := impl.UndoOf(nil, key); got != gone(key) {
			t.Errorf("UndoOf(nil, %q) = %v, want %v", key, got, gone(key))
		}
	}
}

func TestUndoOfEachPlace(t *testing.T) {
	for _, list := range rightLists() {
		for _, cell := range list {
			if got := impl.UndoOf(list, cell.Key); got != had(cell.Key, cell.Num) {
				t.Errorf("UndoOf(%v, %q) = %v", list, cell.Key, got)
			}
		}
		for _, key := range append([]string{"ac", "q", "zz", "bz"}, wrongKeys()...) {
			if got := impl.UndoOf(list, key); got != gone(key) {
				t.Errorf("UndoOf(%v, %.20q) = %.40v, want that there is none", list, key, got)
			}
		}
	}
}

// The chapter names no fixed answer of UndoOf for a list or a key that is not right: it tells what the first such cell has.
func TestUndoOfWrongLists(t *testing.T) {
	twice := []impl.Cell{{Key: "b", Num: 1}, {Key: "a", Num: -2}, {Key: "b", Num: 3}, {Key: "", Num: impl.MaxNumber + 1}, {Key: "LONG", Num: 5}, {Key: "a", Num: 6}}
	for key, want := range map[string]impl.Undo{
		"b": had("b", 1), "a": had("a", -2), "": had("", impl.MaxNumber+1), "LONG": had("LONG", 5), "c": gone("c"), "long": gone("long"),
	} {
		if got := impl.UndoOf(twice, key); got != want {
			t.Errorf("UndoOf(%v, %q) = %v, want %v", twice, key, got, want)
		}
	}
	for _, list := range wrongLists() {
		for _, key := range []string{"a", "b", "c", "m", "n", "zz", "", "A", "zzzz"} {
			if got, want := impl.UndoOf(list, key), plainUndoOf(list, key); got != want {
				t.Errorf("UndoOf(%.60v, %q) = %v, want %v", list, key, got, want)
			}
		}
	}
}

func TestUndoneOfAnAccountThatIsThere(t *testing.T) {
	b, d, f := impl.Cell{Key: "b", Num: 5}, impl.Cell{Key: "d", Num: 7}, impl.Cell{Key: "f", Num: 9}
	list := []impl.Cell{b, d, f}
	for _, num := range []int{0, 1, 5, impl.MaxNumber} {
		holdUndone(t, list, had("b", num), []impl.Cell{{Key: "b", Num: num}, d, f})
		holdUndone(t, list, had("d", num), []impl.Cell{b, {Key: "d", Num: num}, f})
		holdUndone(t, list, had("f", num), []impl.Cell{b, d, {Key: "f", Num: num}})
	}
	holdUndone(t, list, gone("b"), []impl.Cell{d, f})
	holdUndone(t, list, gone("d"), []impl.Cell{b, f})
	holdUndone(t, list, gone("f"), []impl.Cell{b, d})
	holdUndone(t, []impl.Cell{b}, gone("b"), nil)
}

func TestUndoneOfAnAccountThatIsNotThere(t *testing.T) {
	b, d := impl.Cell{Key: "b", Num: 5}, impl.Cell{Key: "d", Num: 7}
	list := []impl.Cell{b, d}
	for _, num := range []int{0, 1, impl.MaxNumber} {
		holdUndone(t, nil, had("x", num), []impl.Cell{{Key: "x", Num: num}})
		holdUndone(t, list, had("a", num), []impl.Cell{{Key: "a", Num: num}, b, d})
		holdUndone(t, list, had("bb", num), []impl.Cell{b, {Key: "bb", Num: num}, d})
		holdUndone(t, list, had("c", num), []impl.Cell{b, {Key: "c", Num: num}, d})
		holdUndone(t, list, had("da", num), []impl.Cell{b, d, {Key: "da", Num: num}})
	}
	for _, key := range []string{"a", "bb", "c", "da", "zzz"} {
		holdUndone(t, list, gone(key), list)
		holdUndone(t, nil, gone(key), nil)
	}
}

// Without Had, a right Num says nothing: the cell is gone all the same.
func TestUndoneGoneWithANumber(t *testing.T) {
	list := []impl.Cell{{Key: "b", Num: 5}, {Key: "d", Num: 7}}
	for _, num := range []int{0, 1, 5, impl.MaxNumber} {
		holdUndone(t, list, impl.Undo{Key: "b", Num: num}, list[1:])
		holdUndone(t, list, impl.Undo{Key: "d", Num: num}, list[:1])
		holdUndone(t, list, impl.Undo{Key: "c", Num: num}, list)
	}
}

func TestUndoneOfAFullList(t *testing.T) {
	full := cellsWith(impl.MaxCells)
	for at, cell := range full {
		want := slices.Clone(full)
		want[at].Num = impl.MaxNumber
		holdUndone(t, full, had(cell.Key, impl.MaxNumber), want)
		holdUndone(t, full, gone(cell.Key), slices.Delete(want, at, at+1))
	}
	for _, key := range []string{"a", "bb", "ff", "ma", "n", "zzz"} {
		holdUndone(t, full, gone(key), full)
		almost := full[:impl.MaxCells-1]
		holdUndone(t, almost, had(key, 8), cellsAnd(almost, key, 8))
	}
}

func cellsAnd(list []impl.Cell, key string, num int) []impl.Cell {
	out := append(slices.Clone(list), impl.Cell{Key: key, Num: num})
	slices.SortFunc(out, func(x, y impl.Cell) int { return strings.Compare(x.Key, y.Key) })
	return out
}

// No sentence of Undone asks for room: the cell has Num again, and what then is one too many is not right and stays as it is.
func TestUndoneWithoutRoom(t *testing.T) {
	full := cellsWith(impl.MaxCells)
	for _, key := range []string{"a", "bb", "ff", "ma", "n", "zzz"} {
		more := cellsAnd(full, key, 8)
		holdUndone(t, full, had(key, 8), more)
		for _, u := range []impl.Undo{gone(key), had(key, 9), gone("b"), had("b", 1), had("yy", 2)} {
			holdUndone(t, more, u, more)
			if got := impl.UndoneAll(full, []impl.Undo{u, had(key, 8)}); !slices.Equal(got, more) {
				t.Errorf("UndoneAll of %v behind one that finds no room = %v, want %v", u, got, more)
			}
		}
		roomFirst := []impl.Undo{had(key, 8), gone("c")}
		if got, want := impl.UndoneAll(full, roomFirst), cellsAnd(slices.Delete(slices.Clone(full), 1, 2), key, 8); !slices.Equal(got, want) {
			t.Errorf("UndoneAll(%v, %v) = %v, want %v", full, roomFirst, got, want)
		}
	}
}

func TestUndoneOfWrongUndos(t *testing.T) {
	for _, u := range wrongUndos() {
		for _, list := range [][]impl.Cell{nil, {{Key: "a"}}, {{Key: "a", Num: 4}, {Key: "b", Num: 5}, {Key: "zzz", Num: 6}}, cellsWith(impl.MaxCells)} {
			holdUndone(t, list, u, list)
			if got := impl.UndoneAll(list, []impl.Undo{u, u}); !slices.Equal(got, list) {
				t.Errorf("UndoneAll(%v, %.40v twice) = %v", list, u, got)
			}
		}
	}
}

// A list that is not right is answered as it was handed in, its order and its doubles too.
func TestUndoneOfWrongLists(t *testing.T) {
	us := []impl.Undo{gone("a"), had("a", 1), gone("q"), had("q", 2), had("b", 0), gone("b"), gone(""), had("A", 1), had("a", -1)}
	for _, list := range wrongLists() {
		for _, u := range us {
			holdUndone(t, list, u, list)
		}
		for n := range len(us) + 1 {
			if got := impl.UndoneAll(list, us[:n]); !slices.Equal(got, list) {
				t.Errorf("UndoneAll(%.60v, %v) = %.60v", list, us[:n], got)
			}
		}
	}
}

func TestUndoneByTheWords(t *testing.T) {
	for _, list := range append(rightLists(), wrongLists()...) {
		for _, u := range someUndos() {
			holdUndone(t, list, u, plainUndone(list, u))
		}
	}
}

func TestDoneBackTells(t *testing.T) {
	list := []impl.Cell{{Key: "b", Num: 5}}
	cmds := []impl.Cmd{
		set("a", 1), add("b", 2), add("c", 1), take("b", 8), take("b", 7), set("b", 9),
		{Kind: 4, Key: "b"}, {Kind: impl.CmdSet, Key: "B", Num: 1}, set("a", -1), add("a", impl.MaxNumber), take("a", 1), {},
	}
	want := []impl.Undo{
		gone("a"), had("b", 5), gone("c"), had("b", 7), had("b", 7), had("b", 0),
		had("b", 9), gone("B"), had("a", 1), had("a", 1), had("a", 1), gone(""),
	}
	got, us := impl.DoneBack(list, cmds)
	if !slices.Equal(got, []impl.Cell{{Key: "a"}, {Key: "b", Num: 9}}) {
		t.Errorf("DoneBack answers %v", got)
	}
	if !slices.Equal(us, want) {
		t.Errorf("DoneBack takes back by %v, want %v", us, want)
	}
	if back := impl.UndoneAll(got, us); !slices.Equal(back, list) {
		t.Errorf("UndoneAll answers %v, want %v", back, list)
	}
}

func TestDoneBackOfNothing(t *testing.T) {
	for _, list := range append(rightLists(), wrongLists()...) {
		for _, cmds := range [][]impl.Cmd{nil, {}} {
			if got, us := impl.DoneBack(list, cmds); !slices.Equal(got, list) || len(us) != 0 {
				t.Errorf("DoneBack(%.60v, nothing) = %.60v, %v", list, got, us)
			}
		}
		for _, us := range [][]impl.Undo{nil, {}} {
			if got := impl.UndoneAll(list, us); !slices.Equal(got, list) {
				t.Errorf("UndoneAll(%.60v, nothing) = %.60v", list, got)
			}
		}
	}
}

func TestDoneBackIsDoneAllAndUndoOfEach(t *testing.T) {
	for _, list := range append(rightLists(), wrongLists()[:30]...) {
		for _, cmds := range backRows() {
			ahead, want := slices.Clone(list), []impl.Undo{}
			for _, c := range cmds {
				u := impl.UndoOf(ahead, c.Key)
				if u != plainUndoOf(ahead, c.Key) {
					t.Fatalf("UndoOf(%v, %q) = %v", ahead, c.Key, u)
				}
				want = append(want, u)
				ahead, _ = impl.Done(ahead, c)
			}
			all, _ := impl.DoneAll(list, cmds)
			got, us := impl.DoneBack(list, cmds)
			if !slices.Equal(got, all) || !slices.Equal(got, ahead) {
				t.Errorf("DoneBack(%.60v, %d commands) = %v, and DoneAll %v", list, len(cmds), got, all)
			}
			if !slices.Equal(us, want) {
				t.Errorf("DoneBack(%.60v, %d commands) takes back by %.300v, want %.300v", list, len(cmds), us, want)
			}
		}
	}
}

func TestDoneIsTakenBack(t *testing.T) {
	refused := make([]int, impl.ErrOver+1)
	for _, list := range append(rightLists(), wrongLists()[:30]...) {
		for _, cmds := range backRows() {
			_, codes := impl.DoneAll(list, cmds)
			for _, code := range codes {
				refused[code]++
			}
			got, us := impl.DoneBack(list, cmds)
			if back := impl.UndoneAll(got, us); !slices.Equal(back, list) {
				t.Errorf("of %.60v, %d commands are done and taken back: %v", list, len(cmds), back)
			}
		}
	}
	if slices.Min(refused) == 0 {
		t.Errorf("so many commands told 0, ErrNone, ErrOver: %v; each of them must be there", refused)
	}
}

func TestDoneIsTakenBackInPart(t *testing.T) {
	for _, list := range rightLists() {
		for _, cmds := range backRows() {
			got, us := impl.DoneBack(list, cmds)
			for _, kept := range []int{0, 1, 2, len(cmds) / 3, len(cmds) / 2, len(cmds) - 1, len(cmds)} {
				if kept < 0 || kept > len(cmds) {
					continue
				}
				want, _ := impl.DoneAll(list, cmds[:kept])
				if part := impl.UndoneAll(got, us[kept:]); !slices.Equal(part, want) {
					t.Errorf("of %v, %d commands are done, and taken back but for %d: %v, want %v", list, len(cmds), kept, part, want)
				}
			}
		}
	}
}

func TestUndoneAllTakesTheLastOneFirst(t *testing.T) {
	list := []impl.Cell{{Key: "b", Num: 5}}
	for _, c := range []struct {
		us   []impl.Undo
		want []impl.Cell
	}{
		{[]impl.Undo{had("b", 1), had("b", 2)}, []impl.Cell{{Key: "b", Num: 1}}},
		{[]impl.Undo{had("b", 1), gone("b")}, []impl.Cell{{Key: "b", Num: 1}}},
		{[]impl.Undo{gone("b"), had("b", 2)}, nil},
		{[]impl.Undo{gone("a"), had("a", 2)}, list},
		{[]impl.Undo{had("a", 2), gone("a"), had("b", -1), had("B", 1)}, []impl.Cell{{Key: "a", Num: 2}, {Key: "b", Num: 5}}},
	} {
		if got := impl.UndoneAll(list, c.us); !slices.Equal(got, c.want) {
			t.Errorf("UndoneAll(%v, %v) = %v, want %v", list, c.us, got, c.want)
		}
	}
}

func TestUndoneAllIsUndoneOfEach(t *testing.T) {
	many := someUndos()
	back := slices.Clone(many)
	slices.Reverse(back)
	rows := [][]impl.Undo{nil, many[:1], many[:7], many, back, slices.Concat(many[:20], wrongUndos()[:40], back[:20]), wrongUndos()}
	for step := 2; step < 8; step++ {
		var some []impl.Undo
		for i := 0; i < 4*len(many); i++ {
			some = append(some, many[i*step%len(many)])
		}
		rows = append(rows, some)
	}
	for _, list := range append(rightLists(), wrongLists()[:30]...) {
		for _, us := range rows {
			want, plain := slices.Clone(list), slices.Clone(list)
			for i := len(us) - 1; i >= 0; i-- {
				want, plain = impl.Undone(want, us[i]), plainUndone(plain, us[i])
			}
			if got := impl.UndoneAll(list, us); !slices.Equal(got, want) || !slices.Equal(got, plain) {
				t.Errorf("UndoneAll(%.60v, %d of them) = %v, want %v, by the words %v", list, len(us), got, want, plain)
			}
		}
	}
}

func TestUndoArgumentsStay(t *testing.T) {
	for _, list := range append(rightLists(), wrongLists()[:30]...) {
		for _, cmds := range backRows() {
			whole, front := withRoom(list)
			was, asked := slices.Clone(whole), slices.Clone(cmds)
			got, us := impl.DoneBack(front, cmds)
			handed := slices.Clone(us)
			back := impl.UndoneAll(got, us)
			soil(back)
			if all, _ := impl.DoneAll(list, cmds); !slices.Equal(got, all) || !slices.Equal(us, handed) {
				t.Fatalf("UndoneAll changes an argument: %v, %v", got, us)
			}
			soil(got)
			if !slices.Equal(us, handed) {
				t.Fatalf("the two lists that DoneBack answers share memory: %v", us)
			}
			for _, u := range slices.Concat(us[:min(len(us), 3)], []impl.Undo{gone("b"), had("b", 1), had("zz", 1)}) {
				soil(impl.Undone(front, u))
				impl.UndoOf(front, u.Key)
			}
			if !slices.Equal(whole, was) || !slices.Equal(cmds, asked) {
				t.Fatalf("an argument is changed: %v, was %v", whole, was)
			}
		}
	}
}

func TestUndoneAllLeavesTheRoomBehindIt(t *testing.T) {
	whole := []impl.Undo{had("b", 1), gone("c"), had("room", -7), had("room", -7)}
	was := slices.Clone(whole)
	list, room := withRoom(cellsWith(3))
	room = impl.UndoneAll(room, whole[:2])
	if !slices.Equal(whole, was) || !slices.Equal(list[:3], cellsWith(3)) || list[3].Key != "room" {
		t.Errorf("UndoneAll changes %v, or %v", whole, list)
	}
	if !slices.Equal(room, []impl.Cell{{Key: "b", Num: 1}, {Key: "d", Num: 20}}) {
		t.Errorf("UndoneAll answers %v", room)
	}
}

// ownKeys tells whether no two of these texts stand in the same memory.
func ownKeys(keys []string) bool {
	seen := map[*byte]bool{}
	for _, key := range keys {
		at := unsafe.StringData(key)
		if key != "" && seen[at] {
			return false
		}
		seen[at] = true
	}
	return true
}

func keysOf(list []impl.Cell, us []impl.Undo) []string {
	var keys []string
	for _, cell := range list {
		keys = append(keys, cell.Key)
	}
	for _, u := range us {
		keys = append(keys, u.Key)
	}
	return keys
}

func TestUndoAnswersNewKeys(t *testing.T) {
	lists := [][]impl.Cell{
		{{Key: strings.Clone("ab"), Num: 1}, {Key: strings.Clone("abc"), Num: 2}},
		{{Key: strings.Clone("wrong"), Num: 1}, {Key: strings.Clone("list"), Num: 2}},
	}
	for _, list := range lists {
		cmds := []impl.Cmd{set(strings.Clone("xyz"), 3), add(strings.Clone("ab"), 1), take(strings.Clone("list"), 1)}
		asked := keysOf(list, nil)
		for _, c := range cmds {
			asked = append(asked, c.Key)
		}
		got, us := impl.DoneBack(list, cmds)
		if !ownKeys(slices.Concat(asked, keysOf(got, us))) {
			t.Errorf("DoneBack(%v, %v) answers an argument's memory, or the same twice", list, cmds)
		}
		for _, u := range []impl.Undo{had(strings.Clone("q"), 1), gone(strings.Clone("ab")), had(strings.Clone("abc"), 7)} {
			one := impl.UndoOf(list, u.Key)
			answers := keysOf(slices.Concat(impl.Undone(list, u), impl.UndoneAll(list, []impl.Undo{u})), []impl.Undo{one})
			if !ownKeys(slices.Concat(keysOf(list, []impl.Undo{u}), answers)) {
				t.Errorf("an answer of %v and %v is an argument's memory", list, u)
			}
		}
		for _, cell := range list {
			if one := impl.UndoOf(list, cell.Key); !ownKeys(keysOf(list, []impl.Undo{one})) {
				t.Errorf("UndoOf(%v, %q) answers an argument's memory", list, cell.Key)
			}
		}
	}
}

// A map is gone through in any order; what is told is the same each time.
func TestUndoIsTheSameEachTime(t *testing.T) {
	rows := backRows()
	cmds := rows[len(rows)-1]
	list := cellsWith(5)
	first, firstUs := impl.DoneBack(list, cmds)
	if len(first) != impl.MaxCells {
		t.Fatalf("%d accounts, want a full list", len(first))
	}
	for range 200 {
		got, us := impl.DoneBack(list, cmds)
		if !slices.Equal(got, first) || !slices.Equal(us, firstUs) || !slices.Equal(impl.UndoneAll(got, us), list) {
			t.Fatalf("DoneBack answers %v, %v, and before %v, %v", got, us, first, firstUs)
		}
	}
}
