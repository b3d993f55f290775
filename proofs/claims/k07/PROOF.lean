import PyProof.Rows.All
import Wide.All
import OpenK.AllK
import Wide.FinOn
import PyProof.EqAt
import PyProof.EqKinds
import PyProof.TupleCall
import HandS.Base
import HandS.Call
import HandS.List
import HandS.TupAny
import HandS.Strs
import HandS.Conv
import KE.GoesMore
import PyProof.EnumMake
import HandS.Iter
import HandS.Zip
import HandS.SortInts
import HandS.SortKw
import HandS.Comp
import HandS.Ends
import HandS.Dict
import HandS.Text
import HandS.Walk
import HandS.Words
import HandS.WordsList
import HandS.TupMul
import HandS.Style
import HandS.IsInst
import HandS.More
import HandS.SetFor
import HandS.Wide
import KE.KIndexOf
import KE.DatumOrd
import HandS.Defaults
import KE.KDictZip
import HandS.Star
import KE.SortData
import KE.DataMinMax
import PyProof.P3Eq
import HandS.Flow
import HandS.HeadHook1
import HandS.HeadHook2
import HandS.ExcIs
import HandS.Exc
import HandS.ExcOwn
import HandS.ExcCtx
import HandS.Hot
import HandS.HotCalls
import HandS.FStr
import HandS.Deep
import KE.KStateDown
import HandS.WordsExc
import HandS.Head0
import HandS.Head1
import HandS.Head2
import HandS.HeadEnd
import PySem.Challenge.RW_shelfrows_k07_whole_rows_ahead
set_option Elab.async false
set_option linter.all false
set_option maxRecDepth 100000
set_option Elab.async false
set_option linter.all false
set_option maxRecDepth 100000
namespace He
open PySem PySem.Spec PyProof.Rows L2
/-! further facts of the written part -/
def obsX (fa : List Fa) (fn : List DefD) (ex : List (PySem.W.Frag → Bool)) (K : PySem.W.Frag) : AlD := ((obsD fa fn K).1 && ex.all fun e => e K, (obsD fa fn K).2)
def SaysX (fa : List Fa) (fn : List DefD) (ex : List (PySem.W.Frag → Bool)) (K : PySem.W.Frag) : Prop := obsX fa fn ex K = valD fn
def obsXG (n : Nat) (fa : List Fa) (fn : List DefD) (ex : List (PySem.W.Frag → Bool)) (g : Addr → Option Obj) : AlD := obsX fa fn ex (frG g (asD g n))
def hookX (n : Nat) (fa : List Fa) (fn : List DefD) (ex : List (PySem.W.Frag → Bool)) : PySem.W.Hook where
  α := AlD
  obs := fun s => obsXG n fa fn ex s.heap.get?
  val := fun _ => valD fn
  says := fun _ h => ∃ K : PySem.W.Frag, K.In h ∧ SaysX fa fn ex K
  of := fun _ _ e => ⟨_, frG_in, e⟩
  keeps := fun _ _ _ ⟨K, hK, c⟩ k => ⟨K, PySem.W.Frag.In.keeps hK k, c⟩
theorem obsXG_eq {n : Nat} {fa : List Fa} {fn : List DefD} {ex : List (PySem.W.Frag → Bool)} {g : Addr → Option Obj} {s : Shared} (h : ∀ a, g a = s.heap.get? a) : obsXG n fa fn ex g = (hookX n fa fn ex).obs s := by
  have e : g = s.heap.get? := funext h
  rw [e] <;> rfl
section
variable {fa : List Fa} {fn : List DefD} {ex : List (PySem.W.Frag → Bool)} {K : PySem.W.Frag}
theorem SaysX.d (c : SaysX fa fn ex K) : SaysD fa fn K := by
  have c1 : ((obsD fa fn K).1 && ex.all fun e => e K) = true := congrArg (fun z : AlD => z.1) c
  have c2 : (obsD fa fn K).2 = fn.map DefD.val := congrArg (fun z : AlD => z.2) c
  have c3 : (obsD fa fn K).1 = true := (ba c1).1
  show obsD fa fn K = (true, fn.map DefD.val)
  rw [← c3, ← c2]
theorem SaysX.x (c : SaysX fa fn ex K) (i : Nat) {e : PySem.W.Frag → Bool} (h : ex[i]? = some e := by rfl) : e K = true := by
  have c1 : ((obsD fa fn K).1 && ex.all fun e => e K) = true := congrArg (fun z : AlD => z.1) c
  exact List.all_eq_true.mp (ba c1).2 e (List.mem_of_getElem? h)
end
/-- what isinstance asks of an error's class -/
def xcB (x : Str) (K : PySem.W.Frag) : Bool :=
  eqO (PySem.W.findIn K (.ref (ga K x)) "__getattribute__") (some (some (.builtin "BaseException.__getattribute__"))) && (eqO (PySem.W.findIn K (.ref (ga K x)) "__getattr__") (some none) && (decide (PySem.W.subIn K (.ref (ga K x)) (.type "BaseException") = some true) &&
    (PySem.W.hasDictIn K (ga K x) && (eqO (PySem.W.findIn K (.ref (ga K x)) "__class__") (some (some (.builtin "object.__class__"))) && (eqO (PySem.W.specialIn K (.builtin "object.__class__") "__get__") (some (some (.builtin "getset_descriptor.__get__"))) &&
      (decide (PySem.W.takesIn K (.builtin "object.__class__") = some true) && decide (PySem.W.mroIn K (ga K x) (.type "object") = some true)))))))
def ktB (x y : Str) (b : Bool) (K : PySem.W.Frag) : Bool := decide (PySem.W.kitOne K (.ref (ga K x)) (.ref (ga K y)) = some b)
def kvB (x : Str) (K : PySem.W.Frag) : Bool := decide (PySem.W.kitOne K (.ref (ga K x)) (.type "ValueError") = some true)
/-- all of it, for the class x, the n-th of ys -/
def klB (x : Str) (n : Nat) (ys : List Str) (K : PySem.W.Frag) : Bool := xcB x K && (kvB x K && (ys.zipIdx.all fun p => ktB x p.1 (decide ((p.2 : Int) = n)) K))
end He
namespace Sh
open PySem PySem.Spec PyProof.Rows L2
def topS (i : Nat) : Stmt := PySem.Challenge.pw_shelfrows_k07_whole_rows_ahead.main.body.getD i (.Pass ⟨0, 0, 0, 0⟩)
abbrev s_is_whole : Stmt := topS 15
theorem sc_is_whole : FnScope ["thing"] ["thing"] (defScope s_is_whole) := ⟨rfl, rfl, rfl, by decide +kernel, rfl, by decide +kernel, by decide +kernel⟩
abbrev s_is_whole_within : Stmt := topS 16
theorem sc_is_whole_within : FnScope ["thing", "least", "most"] ["thing", "least", "most"] (defScope s_is_whole_within) := ⟨rfl, rfl, rfl, by decide +kernel, rfl, by decide +kernel, by decide +kernel⟩
abbrev s__numbers_of : Stmt := topS 25
theorem sc__numbers_of : FnScope ["things", "thing"] ["things"] (defScope s__numbers_of) := ⟨rfl, rfl, rfl, by decide +kernel, rfl, by decide +kernel, by decide +kernel⟩
abbrev s_is_row : Stmt := topS 19
theorem sc_is_row : FnScope ["thing", "numbers", "number"] ["thing"] (defScope s_is_row) := ⟨rfl, rfl, rfl, by decide +kernel, rfl, by decide +kernel, by decide +kernel⟩
abbrev s_check_row : Stmt := topS 20
theorem sc_check_row : FnScope ["row"] ["row"] (defScope s_check_row) := ⟨rfl, rfl, rfl, by decide +kernel, rfl, by decide +kernel, by decide +kernel⟩
abbrev s_check_unmarked : Stmt := topS 21
theorem sc_check_unmarked : FnScope ["row"] ["row"] (defScope s_check_unmarked) := ⟨rfl, rfl, rfl, by decide +kernel, rfl, by decide +kernel, by decide +kernel⟩
abbrev s_stretches : Stmt := topS 23
theorem sc_stretches : FnScope ["row", "told", "part"] ["row"] (defScope s_stretches) := ⟨rfl, rfl, rfl, by decide +kernel, rfl, by decide +kernel, by decide +kernel⟩
abbrev s__greater_ahead : Stmt := topS 26
theorem sc__greater_ahead : FnScope ["numbers", "place", "number", "other"] ["numbers"] (defScope s__greater_ahead) := ⟨rfl, rfl, rfl, by decide +kernel, rfl, by decide +kernel, by decide +kernel⟩
abbrev s_counts : Stmt := topS 22
theorem sc_counts : FnScope ["row"] ["row"] (defScope s_counts) := ⟨rfl, rfl, rfl, by decide +kernel, rfl, by decide +kernel, by decide +kernel⟩
abbrev s__are_counts : Stmt := topS 27
theorem sc__are_counts : FnScope ["thing", "many", "rank", "count"] ["thing", "many"] (defScope s__are_counts) := ⟨rfl, rfl, rfl, by decide +kernel, rfl, by decide +kernel, by decide +kernel⟩
abbrev s_row_of : Stmt := topS 24
theorem sc_row_of : FnScope ["numbers", "counts", "row", "number", "count"] ["numbers", "counts"] (defScope s_row_of) := ⟨rfl, rfl, rfl, by decide +kernel, rfl, by decide +kernel, by decide +kernel⟩
abbrev s__is_word : Stmt := topS 36
theorem sc__is_word : FnScope ["thing"] ["thing"] (defScope s__is_word) := ⟨rfl, rfl, rfl, by decide +kernel, rfl, by decide +kernel, by decide +kernel⟩
abbrev s__is_places : Stmt := topS 37
theorem sc__is_places : FnScope ["thing"] ["thing"] (defScope s__is_places) := ⟨rfl, rfl, rfl, by decide +kernel, rfl, by decide +kernel, by decide +kernel⟩
abbrev s_is_shelf : Stmt := topS 32
theorem sc_is_shelf : FnScope ["thing"] ["thing"] (defScope s_is_shelf) := ⟨rfl, rfl, rfl, by decide +kernel, rfl, by decide +kernel, by decide +kernel⟩
abbrev s__check_shelf : Stmt := topS 38
theorem sc__check_shelf : FnScope ["shelf"] ["shelf"] (defScope s__check_shelf) := ⟨rfl, rfl, rfl, by decide +kernel, rfl, by decide +kernel, by decide +kernel⟩
abbrev s_let_on : Stmt := topS 35
theorem sc_let_on : FnScope ["standing", "word", "most", "gone", "one"] ["standing", "word", "most"] (defScope s_let_on) := ⟨rfl, rfl, rfl, by decide +kernel, rfl, by decide +kernel, by decide +kernel⟩
abbrev s__let_past : Stmt := topS 39
theorem sc__let_past : FnScope ["numbers", "word", "places", "standing", "came", "number", "most"] ["numbers", "word", "places"] (defScope s__let_past) := ⟨rfl, rfl, rfl, by decide +kernel, rfl, by decide +kernel, by decide +kernel⟩
abbrev s_past : Stmt := topS 33
theorem sc_past : FnScope ["row", "shelf", "word", "places", "came", "stretch"] ["row", "shelf"] (defScope s_past) := ⟨rfl, rfl, rfl, by decide +kernel, rfl, by decide +kernel, by decide +kernel⟩
abbrev s_check_places : Stmt := topS 34
theorem sc_check_places : FnScope ["places", "least"] ["places", "least"] (defScope s_check_places) := ⟨rfl, rfl, rfl, by decide +kernel, rfl, by decide +kernel, by decide +kernel⟩
abbrev s__can_have : Stmt := topS 46
theorem sc__can_have : FnScope ["count", "rank", "places"] ["count", "rank", "places"] (defScope s__can_have) := ⟨rfl, rfl, rfl, by decide +kernel, rfl, by decide +kernel, by decide +kernel⟩
abbrev s__counts_ahead : Stmt := topS 45
theorem sc__counts_ahead : FnScope ["row", "places", "now", "rank", "number"] ["row", "places"] (defScope s__counts_ahead) := ⟨rfl, rfl, rfl, by decide +kernel, rfl, by decide +kernel, by decide +kernel⟩
abbrev s_how_many : Stmt := topS 42
theorem sc_how_many : FnScope ["row", "places", "rows", "can_have"] ["row", "places"] (defScope s_how_many) := ⟨rfl, rfl, rfl, by decide +kernel, rfl, by decide +kernel, by decide +kernel⟩
abbrev s_ahead : Stmt := topS 43
theorem sc_ahead : FnScope ["row", "places", "many", "told", "can_have", "ones", "count"] ["row", "places"] (defScope s_ahead) := ⟨rfl, rfl, rfl, by decide +kernel, rfl, by decide +kernel, by decide +kernel⟩
abbrev s_can_come : Stmt := topS 44
theorem sc_can_come : FnScope ["row", "places"] ["row", "places"] (defScope s_can_come) := ⟨rfl, rfl, rfl, by decide +kernel, rfl, by decide +kernel, by decide +kernel⟩
abbrev s__law_ask : Stmt := topS 57
theorem sc__law_ask : FnScope ["_law_row", "_law_room", "_law_e"] ["_law_row", "_law_room"] (defScope s__law_ask) := ⟨rfl, rfl, rfl, by decide +kernel, rfl, by decide +kernel, by decide +kernel⟩
abbrev s__law_cell_at : Stmt := topS 48
theorem sc__law_cell_at : FnScope ["_law_script", "_law_k", "_law_spare", "_law_again"] ["_law_script", "_law_k"] (defScope s__law_cell_at) := ⟨rfl, rfl, rfl, by decide +kernel, rfl, by decide +kernel, by decide +kernel⟩
abbrev s__law_mixed : Stmt := topS 49
theorem sc__law_mixed : FnScope ["_law_script", "_law_k", "_law_bound", "_law_spun"] ["_law_script", "_law_k", "_law_bound"] (defScope s__law_mixed) := ⟨rfl, rfl, rfl, by decide +kernel, rfl, by decide +kernel, by decide +kernel⟩
abbrev s__law_draw : Stmt := topS 50
theorem sc__law_draw : FnScope ["_law_script", "_law_town", "_law_bound"] ["_law_script", "_law_town", "_law_bound"] (defScope s__law_draw) := ⟨rfl, rfl, rfl, by decide +kernel, rfl, by decide +kernel, by decide +kernel⟩
abbrev s__law_pick : Stmt := topS 51
theorem sc__law_pick : FnScope ["_law_script", "_law_town", "_law_some"] ["_law_script", "_law_town", "_law_some"] (defScope s__law_pick) := ⟨rfl, rfl, rfl, by decide +kernel, rfl, by decide +kernel, by decide +kernel⟩
abbrev s__law_same_number : Stmt := topS 52
theorem sc__law_same_number : FnScope ["_law_got", "_law_due"] ["_law_got", "_law_due"] (defScope s__law_same_number) := ⟨rfl, rfl, rfl, by decide +kernel, rfl, by decide +kernel, by decide +kernel⟩
abbrev s__law_same_truth : Stmt := topS 53
theorem sc__law_same_truth : FnScope ["_law_got", "_law_due"] ["_law_got", "_law_due"] (defScope s__law_same_truth) := ⟨rfl, rfl, rfl, by decide +kernel, rfl, by decide +kernel, by decide +kernel⟩
abbrev s__law_some_plain : Stmt := topS 54
theorem sc__law_some_plain : FnScope ["_law_script", "_law_town", "_law_most_there", "_law_many", "_law_made", "_law_number", "_law_again", "_law_far"] ["_law_script", "_law_town", "_law_most_there"] (defScope s__law_some_plain) := ⟨rfl, rfl, rfl, by decide +kernel, rfl, by decide +kernel, by decide +kernel⟩
abbrev s__law_greater : Stmt := topS 55
theorem sc__law_greater : FnScope ["_law_numbers", "_law_made", "_law_at", "_law_one"] ["_law_numbers"] (defScope s__law_greater) := ⟨rfl, rfl, rfl, by decide +kernel, rfl, by decide +kernel, by decide +kernel⟩
abbrev s__law_orders : Stmt := topS 58
theorem sc__law_orders : FnScope ["_law_numbers", "_law_made", "_law_number", "_law_later", "_law_row", "_law_at"] ["_law_numbers"] (defScope s__law_orders) := ⟨rfl, rfl, rfl, by decide +kernel, rfl, by decide +kernel, by decide +kernel⟩
abbrev s_law : Stmt := topS 59
theorem sc_law : FnScope ["_law_script", "_law_town", "_law_first", "_law_room", "_law_row", "_law_many", "_law_falling", "_law_far", "_law_rank", "_law_number", "_law_count", "_law_got", "_law_one", "_law_few", "_law_due", "_law_a", "_law_b"] ["_law_script"] (defScope s_law) := ⟨rfl, rfl, rfl, by decide +kernel, rfl, by decide +kernel, by decide +kernel⟩
abbrev s__law_which : Stmt := topS 56
theorem sc__law_which : FnScope ["_law_e", "_law_own"] ["_law_e"] (defScope s__law_which) := ⟨rfl, rfl, rfl, by decide +kernel, rfl, by decide +kernel, by decide +kernel⟩
/-! ### the head -/
def d_is_whole : He.DefD := ⟨("is_whole", none), "is_whole", "is_whole", defArgs s_is_whole, defBody s_is_whole, defScope s_is_whole, [], []⟩
def d_is_whole_within : He.DefD := ⟨("is_whole_within", none), "is_whole_within", "is_whole_within", defArgs s_is_whole_within, defBody s_is_whole_within, defScope s_is_whole_within, [], []⟩
def d__numbers_of : He.DefD := ⟨("_numbers_of", none), "_numbers_of", "_numbers_of", defArgs s__numbers_of, defBody s__numbers_of, defScope s__numbers_of, [], []⟩
def d_is_row : He.DefD := ⟨("is_row", none), "is_row", "is_row", defArgs s_is_row, defBody s_is_row, defScope s_is_row, [], []⟩
def d_check_row : He.DefD := ⟨("check_row", none), "check_row", "check_row", defArgs s_check_row, defBody s_check_row, defScope s_check_row, [], []⟩
def d_check_unmarked : He.DefD := ⟨("check_unmarked", none), "check_unmarked", "check_unmarked", defArgs s_check_unmarked, defBody s_check_unmarked, defScope s_check_unmarked, [], []⟩
def d_stretches : He.DefD := ⟨("stretches", none), "stretches", "stretches", defArgs s_stretches, defBody s_stretches, defScope s_stretches, [], []⟩
def d__greater_ahead : He.DefD := ⟨("_greater_ahead", none), "_greater_ahead", "_greater_ahead", defArgs s__greater_ahead, defBody s__greater_ahead, defScope s__greater_ahead, [], []⟩
def d_counts : He.DefD := ⟨("counts", none), "counts", "counts", defArgs s_counts, defBody s_counts, defScope s_counts, [], []⟩
def d__are_counts : He.DefD := ⟨("_are_counts", none), "_are_counts", "_are_counts", defArgs s__are_counts, defBody s__are_counts, defScope s__are_counts, [], []⟩
def d_row_of : He.DefD := ⟨("row_of", none), "row_of", "row_of", defArgs s_row_of, defBody s_row_of, defScope s_row_of, [], []⟩
def d__is_word : He.DefD := ⟨("_is_word", none), "_is_word", "_is_word", defArgs s__is_word, defBody s__is_word, defScope s__is_word, [], []⟩
def d__is_places : He.DefD := ⟨("_is_places", none), "_is_places", "_is_places", defArgs s__is_places, defBody s__is_places, defScope s__is_places, [], []⟩
def d_is_shelf : He.DefD := ⟨("is_shelf", none), "is_shelf", "is_shelf", defArgs s_is_shelf, defBody s_is_shelf, defScope s_is_shelf, [], []⟩
def d__check_shelf : He.DefD := ⟨("_check_shelf", none), "_check_shelf", "_check_shelf", defArgs s__check_shelf, defBody s__check_shelf, defScope s__check_shelf, [], []⟩
def d_let_on : He.DefD := ⟨("let_on", none), "let_on", "let_on", defArgs s_let_on, defBody s_let_on, defScope s_let_on, [], []⟩
def d__let_past : He.DefD := ⟨("_let_past", none), "_let_past", "_let_past", defArgs s__let_past, defBody s__let_past, defScope s__let_past, [], []⟩
def d_past : He.DefD := ⟨("past", none), "past", "past", defArgs s_past, defBody s_past, defScope s_past, [], []⟩
def d_check_places : He.DefD := ⟨("check_places", none), "check_places", "check_places", defArgs s_check_places, defBody s_check_places, defScope s_check_places, [.int 0], []⟩
def d__can_have : He.DefD := ⟨("_can_have", none), "_can_have", "_can_have", defArgs s__can_have, defBody s__can_have, defScope s__can_have, [], []⟩
def d__counts_ahead : He.DefD := ⟨("_counts_ahead", none), "_counts_ahead", "_counts_ahead", defArgs s__counts_ahead, defBody s__counts_ahead, defScope s__counts_ahead, [], []⟩
def d_how_many : He.DefD := ⟨("how_many", none), "how_many", "how_many", defArgs s_how_many, defBody s_how_many, defScope s_how_many, [], []⟩
def d_ahead : He.DefD := ⟨("ahead", none), "ahead", "ahead", defArgs s_ahead, defBody s_ahead, defScope s_ahead, [], []⟩
def d_can_come : He.DefD := ⟨("can_come", none), "can_come", "can_come", defArgs s_can_come, defBody s_can_come, defScope s_can_come, [], []⟩
def d__law_ask : He.DefD := ⟨("_law_ask", none), "_law_ask", "_law_ask", defArgs s__law_ask, defBody s__law_ask, defScope s__law_ask, [], []⟩
def d__law_cell_at : He.DefD := ⟨("_law_cell_at", none), "_law_cell_at", "_law_cell_at", defArgs s__law_cell_at, defBody s__law_cell_at, defScope s__law_cell_at, [], []⟩
def d__law_mixed : He.DefD := ⟨("_law_mixed", none), "_law_mixed", "_law_mixed", defArgs s__law_mixed, defBody s__law_mixed, defScope s__law_mixed, [], []⟩
def d__law_draw : He.DefD := ⟨("_law_draw", none), "_law_draw", "_law_draw", defArgs s__law_draw, defBody s__law_draw, defScope s__law_draw, [], []⟩
def d__law_pick : He.DefD := ⟨("_law_pick", none), "_law_pick", "_law_pick", defArgs s__law_pick, defBody s__law_pick, defScope s__law_pick, [], []⟩
def d__law_same_number : He.DefD := ⟨("_law_same_number", none), "_law_same_number", "_law_same_number", defArgs s__law_same_number, defBody s__law_same_number, defScope s__law_same_number, [], []⟩
def d__law_same_truth : He.DefD := ⟨("_law_same_truth", none), "_law_same_truth", "_law_same_truth", defArgs s__law_same_truth, defBody s__law_same_truth, defScope s__law_same_truth, [], []⟩
def d__law_some_plain : He.DefD := ⟨("_law_some_plain", none), "_law_some_plain", "_law_some_plain", defArgs s__law_some_plain, defBody s__law_some_plain, defScope s__law_some_plain, [], []⟩
def d__law_greater : He.DefD := ⟨("_law_greater", none), "_law_greater", "_law_greater", defArgs s__law_greater, defBody s__law_greater, defScope s__law_greater, [], []⟩
def d__law_orders : He.DefD := ⟨("_law_orders", none), "_law_orders", "_law_orders", defArgs s__law_orders, defBody s__law_orders, defScope s__law_orders, [], []⟩
def d_law : He.DefD := ⟨("law", none), "law", "law", defArgs s_law, defBody s_law, defScope s_law, [], []⟩
def d__law_which : He.DefD := ⟨("_law_which", none), "_law_which", "_law_which", defArgs s__law_which, defBody s__law_which, defScope s__law_which, [], []⟩
def fnL : List He.DefD := [d_is_whole, d_is_whole_within, d__numbers_of, d_is_row, d_check_row, d_check_unmarked, d_stretches, d__greater_ahead, d_counts, d__are_counts, d_row_of, d__is_word, d__is_places, d_is_shelf, d__check_shelf, d_let_on, d__let_past, d_past, d_check_places, d__can_have, d__counts_ahead, d_how_many, d_ahead, d_can_come, d__law_ask, d__law_cell_at, d__law_mixed, d__law_draw, d__law_pick, d__law_same_number, d__law_same_truth, d__law_some_plain, d__law_greater, d__law_orders, d_law, d__law_which]
abbrev exL : List (PySem.W.Frag → Bool) := [He.klB "TooMany" 7 ["NoRow", "NoShelf", "NoLine", "NoPlaces", "Marked", "NoCounts", "NoLetting", "TooMany", "NoMove", "NoText", "NoNumber", "Nothing"]]
def faL : List He.Fa := [.glo "is_whole", .glo "is_whole_within", .glo "_numbers_of", .glo "is_row", .glo "check_row", .glo "check_unmarked", .glo "stretches", .glo "_greater_ahead", .glo "counts", .glo "_are_counts", .glo "row_of", .glo "_is_word", .glo "_is_places", .glo "is_shelf", .glo "_check_shelf", .glo "let_on", .glo "_let_past", .glo "past", .glo "check_places", .glo "_can_have", .glo "_counts_ahead", .glo "how_many", .glo "ahead", .glo "can_come", .glo "_law_ask", .glo "_law_cell_at", .glo "_law_mixed", .glo "_law_draw", .glo "_law_pick", .glo "_law_same_number", .glo "_law_same_truth", .glo "_law_some_plain", .glo "_law_greater", .glo "_law_orders", .glo "law", .glo "_law_which", .free "ValueError", .free "all", .free "bool", .free "dict", .free "enumerate", .free "int", .free "isinstance", .free "len", .free "list", .free "max", .free "min", .free "range", .free "set", .free "sorted", .free "str", .free "sum", .free "tuple", .free "zip", .str "HEAVY" "heavy", .str "LIGHT" "light", .int "MOST_PLACES" 9, .int "MOST_ROWS" 3000, .int "MOST_THINGS" 24, .glo "NoRow", .glo "NoShelf", .glo "NoLine", .glo "NoPlaces", .glo "Marked", .glo "NoCounts", .glo "NoLetting", .glo "TooMany", .glo "NoMove", .glo "NoText", .glo "NoNumber", .glo "Nothing", .glo "ShelfError", .exc "TooMany", .exm "TooMany" "ShelfError" true]
abbrev RR : PySem.W.OpenRow := PySem.W.OpenLaw.row PySem.Challenge.rw_shelfrows_k07_whole_rows_ahead
abbrev hkL : PySem.W.Hook := He.hookX 4 faL fnL exL
def obL (s : PySem.W.SharedT) : He.AlD := He.obsXG 4 faL fnL exL (HandSHeadRun.getT s)
theorem obL_eq (s : PySem.W.SharedT) : obL s = hkL.obs s.abs := He.obsXG_eq (HandSHeadRun.getT_eq s)
def lo0 : List PySem.Str := ["__name__", "ShelfError", "NoRow", "NoShelf", "NoLine", "NoPlaces", "Marked", "NoCounts", "NoLetting", "TooMany", "NoMove", "NoText", "NoNumber", "Nothing", "is_whole", "is_whole_within", "MOST_THINGS", "is_row", "check_row", "check_unmarked", "counts", "stretches", "row_of", "_numbers_of", "_greater_ahead", "_are_counts", "LIGHT", "HEAVY", "MOST_PLACES", "is_shelf"]
def lo1 : List PySem.Str := ["past", "check_places", "let_on", "_is_word", "_is_places", "_check_shelf", "_let_past", "MOST_ROWS", "how_many", "ahead", "can_come", "_counts_ahead", "_can_have", "_law_cell_at", "_law_mixed", "_law_draw", "_law_pick", "_law_same_number", "_law_same_truth", "_law_some_plain", "_law_greater", "_law_which", "_law_ask", "_law_orders"]
def looseL : List PySem.Str := lo0 ++ lo1
set_option maxHeartbeats 0 in
theorem runL (w : World) : HandSHeadRun.RunEq RR (PySem.W.view RR.prog [59]) hkL obL 8000 looseL w := by
  intro os
  kernel_rfl
end Sh
section
open PySem PySem.Spec PySem.W PySem.Calls PyProof.Rows
set_option maxHeartbeats 0 in
theorem Sh.endL (F : ∀ {w : PySem.World} {K : PySem.W.Frag} {h : PySem.Heap} {mg : PySem.Str → Option PySem.Value} {f : PySem.Addr}, K.In h → h.Ns PySem.mainGlobals mg → mg ("law" : PySem.Str) = some (.ref f) → He.SaysX Sh.faL Sh.fnL Sh.exL K →
    ∃ (fd : PySem.FuncData) (sp : L2.Sp), (∀ (s : PySem.Shared) (v : PySem.Value), BindsTo s fd ⟨[v], []⟩ [("_law_script", v)]) ∧ (∀ (H : L2.Hp) (a : PySem.Addr) (ns : List Int), ns.length ≤ 63 → L2.SqL K H a (ns.map L2.V.int) → sp [.ref a] H (fun v _ => v = .bl true) fun _ _ _ => False) ∧
      ∀ base : PySem.Heap, K.In base → base.Ns PySem.mainGlobals mg → L2.FnOk (PySem.Challenge.rw_shelfrows_k07_whole_rows_ahead).prog w K mg base L2.CX0 9 f fd ["_law_script"] sp) : PySem.Challenge.rw_shelfrows_k07_whole_rows_ahead.Holds := by
  w_on; o_law
  refine HandSHeadRun.head_any (r := OpenLaw.row PySem.Challenge.rw_shelfrows_k07_whole_rows_ahead) (q := view (OpenLaw.row PySem.Challenge.rw_shelfrows_k07_whole_rows_ahead).prog [59]) (H := Sh.hkL) (ob := Sh.obL) (M := 8000) (loose := Sh.looseL) (d := HandSHeadRun.topDef (OpenLaw.row PySem.Challenge.rw_shelfrows_k07_whole_rows_ahead).prog 59) (kwd := []) Sh.obL_eq
    (by kernel_rfl) (fun s => by kernel_rfl) Sh.runL (by kernel_rfl) (by kernel_rfl) (by kernel_rfl) (by rfl) (by first | assumption | decide +kernel) (by decide +kernel) ⟨rfl, rfl, rfl, rfl, rfl, by decide +kernel⟩ ?hw ?hc
  case hw => w_witness2
  case hc =>
    refine L2.walk_ofE (l := PySem.Challenge.rw_shelfrows_k07_whole_rows_ahead) (n := 63) (k := 9) (x := "_law_script") (CX := L2.CX0) rfl (by decide) (by kernel_rfl) ⟨rfl, by decide, by decide⟩ ?F (fun _ _ _ _ z => z)
    intro w mg fa h Y G hmg0
    obtain ⟨K, KX, c⟩ := Y
    have hmg : mg ("law" : PySem.Str) = some (.ref fa) := by
      have e : (HandSHeadRun.topDef (OpenLaw.row PySem.Challenge.rw_shelfrows_k07_whole_rows_ahead).prog 59).name = ("law" : PySem.Str) := by kernel_rfl
      rw [← e]
      exact hmg0
    obtain ⟨fd, sp, hb, hs, hF⟩ := F KX G hmg c
    exact ⟨K, fd, sp, KX, hb, fun H a ns hl _ hS => hs H a ns hl hS, hF⟩
end
set_option Elab.async false
set_option linter.all false
set_option maxRecDepth 100000
/-! tuples that are known as the objects they are (no dict of their own): made by displays, tuple(..), slices, + -/
namespace Lx
open PySem PySem.Spec PyProof.Rows L2
abbrev tupO (its : List Value) : Obj := { cls := .type "tuple", data := .seq its.toArray }
/-- a new tuple: locked as its own object -/
def NewT (H : Hp) (xs : List V) (Q : VK) : Prop := ∀ p o, o.dict = none → H p = none → Q (.ref p) (upd H p (.frz o (.tup xs)))
section
variable {X : Cx} {pins : List (Addr × Obj)} {σ : L2.St} {H : Hp} {s : Shared}
theorem newT_at {xs : List V} {its : List Value} {Q : VK} {tk : Nat} (I : Inv X pins σ H s) (hz : xs.length ≤ sizeLine) (r : Vals xs its) (q : NewT H xs Q) :
    EP X pins σ Q (.ref s.heap.objs.size) { s with heap := s.heap.push { cls := .type "tuple", data := .seq its.toArray }, toks := tk } :=
  ⟨.ref s.heap.objs.size, _, I.laid (t' := tk) (o := .frz (tupO its) (.tup xs)) (fun b ob q => Heap.get?_push_of_some _ q) (Nat.le_refl _) ⟨Heap.get?_push_size _ rfl, hz, its, r, IsTup.new _ _⟩, rfl, q _ _ rfl (I.hok.fresh (Nat.le_refl _))⟩
end
section
variable {X : Cx} {es : List Expr} {t : TA} {pos : Pos}
def tTupF (t : TA) : TE := fun σ H Q => t σ H fun xs H1 => xs.length ≤ sizeLine ∧ NewT H1 xs Q
theorem pe_tupF {x1} (h : PA X es t) : PE X (.Tuple es x1 pos) (tTupF t) := by
  refine ⟨fun pins s σ H Q I hq => ?_⟩
  refine wpAny_Tuple_spliced (thn (h.run pos pins s σ H _ I hq) fun us s1 ⟨xs, H1, I1, r, z, q⟩ => ⟨by rw [← r.length]; exact z, ?_⟩)
  exact newT_at (tk := s1.toks) I1 z r q
def rTupOfF (K : PySem.W.Frag) : List V → Hp → VK → Prop := fun xs H Q => ∃ p ys, xs = [.ref p] ∧ ((SqL K H p ys ∧ NewT H ys Q) ∨ (SqT K H p ys ∧ Q (.ref p) H))
theorem cl_tupleF : CallR X (.type "tuple") (rTupOfF X.K) := by
  intro pins s σ H xs us Q I r h
  obtain ⟨p, ys, rfl, h⟩ := h
  obtain ⟨u, rfl, rx⟩ := vals1 r
  cases rx
  rcases h with ⟨hq, q⟩ | ⟨hq, q⟩
  · obtain ⟨its, r', pl, hz⟩ := I.list hq
    have hlen := r'.length
    refine call_tuple_list pl.isList (fun h' kp => ?_) (by simp only [List.size_toArray] <;> omega)
    have I1 : Inv X pins σ H { s with heap := h' } := I.kept (t' := s.toks) kp
    exact newT_at (tk := s.toks) I1 hz r' q
  · obtain ⟨its, r', pl, hz⟩ := I.tuple hq
    exact call_tuple_same pl ⟨.ref p, H, I, rfl, q⟩
def rCatF (K : PySem.W.Frag) : R2 := fun x y H Q => ∃ a b xs ys, x = .ref a ∧ y = .ref b ∧ SqT K H a xs ∧ SqT K H b ys ∧ xs.length + ys.length ≤ sizeLine ∧
  (xs = [] → Q (.ref b) H) ∧ (xs ≠ [] → ys = [] → Q (.ref a) H) ∧ (xs ≠ [] → ys ≠ [] → NewT H (xs ++ ys) Q)
theorem op_catF : OpR X (binaryOp .Add) (rCatF X.K) := by
  intro pins s σ H x y v u Q I rx ry h
  obtain ⟨a, b, xs, ys, rfl, rfl, ha, hb, hz, q0, q1, q2⟩ := h
  cases rx
  cases ry
  obtain ⟨its, r1, p1, _⟩ := I.tuple ha
  obtain ⟨its2, r2, p2, _⟩ := I.tuple hb
  by_cases hx : xs = []
  · subst hx
    cases r1
    exact cat_tup0 p1 p2 ⟨.ref b, H, I, rfl, q0 rfl⟩
  · refine HT.cat_tup p1 p2 (fun z => hx (r1.nil_iff.mp z)) (fun z => ⟨.ref a, H, I, rfl, q1 hx (r2.nil_iff.mp z)⟩) (fun z => ?_) (by rw [← r1.length, ← r2.length]; exact hz)
    exact newT_at (tk := s.toks) I (by rw [List.length_append]; exact hz) (r1.append r2) (q2 hx fun w => z (r2.nil_iff.mpr w))
def rSlF (K : PySem.W.Frag) : V → Option Int → Option Int → Hp → VK → Prop := fun x lo hi H Q => ∃ a xs, x = .ref a ∧ SqT K H a xs ∧
  (HT.sIx xs.length 0 lo = 0 ∧ HT.sIx xs.length xs.length hi = xs.length → Q (.ref a) H) ∧ (¬ (HT.sIx xs.length 0 lo = 0 ∧ HT.sIx xs.length xs.length hi = xs.length) → NewT H (cutV xs lo hi) Q)
theorem sl_tupF : SlR X (rSlF X.K) := by
  intro pins s σ H x v vl vu lo hi sl Q I rx hs pl pu h
  obtain ⟨a, xs, rfl, hx, q1, q2⟩ := h
  cases rx
  obtain ⟨its, r, ht, hz⟩ := I.tuple hx
  have hlen : its.toArray.size = xs.length := by rw [List.size_toArray]; exact r.length.symm
  refine ⟨"tuple", _, PyProof.Rows.slot_tuple_getitem.lookup, ht.typeIs, ?_⟩
  by_cases hw : HT.sIx xs.length 0 lo = 0 ∧ HT.sIx xs.length xs.length hi = xs.length
  · exact getItem_tuple_whole ht hs pl pu (by rw [hlen]; exact hw) ⟨.ref a, H, I, rfl, q1 hw⟩
  · refine HT.getItem_tuple_cut ht hs pl pu (by rw [hlen]; exact hw) ?_ (by rw [hlen]; exact hz)
    rw [hlen]
    exact newT_at (its := (its.drop (HT.sIx xs.length 0 lo)).take (HT.sIx xs.length xs.length hi - HT.sIx xs.length 0 lo)) (tk := s.toks) I (Nat.le_trans (cutV_length xs lo hi) hz) ((r.drop (HT.sIx xs.length 0 lo)).take (HT.sIx xs.length xs.length hi - HT.sIx xs.length 0 lo)) (q2 hw)
end
/-! ### t.index(x), flat items -/
section
variable {X : Cx}
def rTIndex : V → V → Hp → VK → Prop := fun x y H Q => ∃ (a : Addr) (o : Obj) (ys : List V) (j : Nat) (z : V), x = .ref a ∧ o.dict = none ∧ H a = some (.frz o (.tup ys)) ∧ flatV y = true ∧ ys.all flatV = true ∧ ys[j]? = some z ∧ eqV z y = true ∧
  (∀ (m : Nat) (z' : V), m < j → ys[m]? = some z' → eqV z' y = false) ∧ Q (.int (j : Nat)) H
def tTIdx (ta tb : TE) : TE := fun σ H Q => ta σ H fun x H1 => (∃ a o ys, x = .ref a ∧ o.dict = none ∧ H1 a = some (.frz o (.tup ys))) ∧ tb σ H1 fun y H2 => ∃ z, [y] = [z] ∧ rTIndex x z H2 Q
theorem pe_tidx {o e : Expr} {to te : TE} {apos cpos : Pos} (ho : PE X o to) (ha : PE X e te)
    (hbase : attributeBase o "index" X.env (eval o X.env) = eval o X.env := by rfl) (hfew : ((backTo cpos (starEach [e] X.env)).all (fun x => !x.1) && (backToKw cpos (keywordEach [] X.env)).all (fun x => x.1.isSome)
      && decide ([e].length + ([] : List Keyword).length + (if ([] : List Keyword).isEmpty then 0 else 1) < 30)) = true := by rfl)
    (hline : (apos.endLine == cpos.line) = true := by rfl) (hs : starEach [e] X.env = (false, eval e X.env) :: starEach [] X.env := by rfl) (hplain : (backTo cpos (starEach [] X.env)).any (·.1) = false := by rfl) :
    PE X (.Call (.Attribute o "index" apos) [e] [] cpos) (tTIdx to te) := by
  refine ⟨fun pins s σ H Q I h => ?_⟩
  refine wpAny_Call_method_late hbase hfew hline rfl (thn (ho.run pins s σ H _ I h) fun v s1 ⟨x, H1, I1, r1, ty, q1⟩ => ?_)
  obtain ⟨a, ob, ys0, ex, hd0, hf⟩ := ty
  subst ex
  cases r1
  obtain ⟨hget, hz, its, rv, hT⟩ := I1.hok a _ hf
  refine ⟨"tuple", "tuple.index", PySem.F.plainAttrs_tuple, PySem.F.slot_tuple_index, PySem.F.type_tuple_index, hT.typeIs, (fun b e => by cases e; exact ⟨ob, hget, hd0⟩), ?_⟩
  have hA := (pa_cons ha pa_nil hs).run cpos pins s1 σ H1 (fun vs H2 => ∃ y, vs = [y] ∧ rTIndex (.ref a) y H2 Q) I1 q1
  rw [hs] at hA ⊢
  refine Calls.callWith_builtin (by show (false || (backTo cpos (starEach [] X.env)).any (·.1)) = false; rw [hplain] <;> rfl) (Calls.evalArgs_plain ?_)
  refine thn hA fun us s2 ⟨vs, H2, I2, r2, y, ey, q2⟩ => ?_
  subst ey
  obtain ⟨a', o', ys, j, z, ea, hdn, hF, fy, fs, hj, hzj, hno, q⟩ := q2
  cases ea
  obtain ⟨u, rfl, ry⟩ := r2.one
  obtain ⟨hget, hz2, its2, rv2, ⟨⟨cls, dd, dt, sl⟩, ho2, hc, n, hd⟩⟩ := I2.hok a _ hF
  simp only at hc hd
  subst hc
  subst hd
  have hl : its2.toArray.size = ys.length := by rw [List.size_toArray, ← rv2.length]
  have hjl : j < its2.toArray.size := by rw [hl]; exact (List.getElem?_eq_some_iff.mp hj).1
  have at' : ∀ (m : Nat) (hm : m < its2.toArray.size) (w : V), ys[m]? = some w → eqU y its2.toArray[m] = eqV w y := fun m hm w hw => by
    obtain ⟨u', hu', ru'⟩ := rv2.get hw
    have e := (List.getElem?_eq_some_iff.mp hu').2
    have e2 : its2.toArray[m] = u' := by rw [← e]; simp
    rw [e2]
    exact eqU_of ru' (List.all_eq_true.mp fs w (List.mem_of_getElem? hw))
  refine call_meets PySem.F.slot_tuple_index ⟨_, ho2, rfl⟩ PySem.F.entry_tuple_index (PySem.F.args_tuple_index_2 _ _) (TI.tuple_indexAt a its2.toArray n dd sl u (eqU y) j hjl ?_ ?_)
    ⟨ho2, fun w hw => mem_eqAt (x := y) ry fy rv2 fs w (by simpa using hw), ⟨.int (j : Nat), H2, I2.tok _, ⟨_, rfl⟩, q⟩⟩
  · rw [at' j hjl z hj]; exact hzj
  · intro m hm hmj
    have hm' : m < ys.length := by rw [← hl]; exact hm
    rw [at' m hm ys[m] (List.getElem?_eq_getElem hm')]
    exact hno m _ hmj (List.getElem?_eq_getElem hm')
end
end Lx
set_option Elab.async false
set_option linter.all false
set_option maxRecDepth 100000
set_option maxHeartbeats 1000000
/-! zip of two iterators of any kind -/
namespace Lx
open PySem
open PySem.Sem (wp)
/-- an iterator at i over what stands at l: its state by the number of items gone, and the step -/
structure Stp (prog : Program) (w : World) (i l : Addr) (St : Nat → Heap → Prop) (n : Nat) (at_ : Nat → Option Value) : Prop where
  mv : ∀ (k : Nat) (c : Addr) (h h' : Heap), St k h → Heap.ExtBut c h h' → i ≠ c → l ≠ c → St k h'
  obj : ∀ (k : Nat) (h : Heap), St k h → ∃ o, h.get? i = some o
  go : ∀ (A : Around) (E : Value → Shared → Prop) (s : Shared) (k : Nat) (x : Value) (Q : Value → Shared → Prop), St k s.heap → at_ k = some x → (∀ h', St (k + 1) h' → Heap.SameBut i s.heap h' → Q x { s with heap := h' }) → wpAny (model prog w) A (Builtin.SmallTypes.nextOf (.ref i)) Q E s
  stop : ∀ (A : Around) (E : Value → Shared → Prop) (s : Shared) (k : Nat) (Q : Value → Shared → Prop), A.handled = none → St k s.heap → at_ k = none → (∀ h' e, Heap.ExtBut i s.heap h' → (∃ o, h'.get? e = some o ∧ o.cls = .type "StopIteration") → E (.ref e) { s with heap := h' }) → wpAny (model prog w) A (Builtin.SmallTypes.nextOf (.ref i)) Q E s
theorem stp_t {prog : Program} {w : World} {i l : Addr} {xs : Array Value} : Stp prog w i l (fun k h => h.IsTupleIter i l k ∧ h.IsTuple l xs) xs.size (fun k => xs[k]?) where
  mv := fun k c h h' ⟨a, b⟩ e n1 n2 => ⟨a.extBut e n1, b.extBut e n2⟩
  obj := fun k h ⟨⟨o, e, _⟩, _⟩ => ⟨o, e⟩
  go := fun A E s k x Q ⟨a, b⟩ hx q => RZ.nextOf_tuple_item a b hx fun h' a' sb => q h' ⟨a', b.extBut sb.extBut (fun z => by
    subst z
    obtain ⟨o, e, c, _⟩ := a
    obtain ⟨o', e', c', _⟩ := b
    rw [e] at e'; cases e'
    rw [c] at c'
    injection c' with c'
    exact absurd c' (by decide))⟩ sb
  stop := fun A E s k Q hh ⟨a, b⟩ hx q => RZ.nextOf_tuple_end hh a b hx q
theorem stp_l {prog : Program} {w : World} {i l : Addr} {xs : Array Value} : Stp prog w i l (fun k h => h.IsListIter i l k ∧ h.IsList l xs) xs.size (fun k => xs[k]?) where
  mv := fun k c h h' ⟨a, b⟩ e n1 n2 => ⟨a.extBut e n1, b.extBut e n2⟩
  obj := fun k h ⟨⟨o, e, _⟩, _⟩ => ⟨o, e⟩
  go := fun A E s k x Q ⟨a, b⟩ hx q => wpAny_nextOf_list_item a b hx fun h' a' sb => q h' ⟨a', b.extBut sb.extBut (fun z => by
    subst z
    obtain ⟨o, e, c, _⟩ := a
    obtain ⟨o', e', c', _⟩ := b
    rw [e] at e'; cases e'
    rw [c] at c'
    injection c' with c'
    exact absurd c' (by decide))⟩ sb
  stop := fun A E s k Q hh ⟨a, b⟩ hx q => wpAny_nextOf_list_end hh a b hx q
section
variable {prog : Program} {w : World} {A : Around} {E : Value → Shared → Prop} {s : Shared} {z TI TO i1 i2 l1 l2 : Addr} {S1 S2 : Nat → Heap → Prop} {n1 n2 : Nat} {f1 f2 : Nat → Option Value}
theorem zipG_item {k1 k2 : Nat} {x y a b : Value} {Q : Value → Shared → Prop} (D : ZipApart z TI TO i1 i2 l1 l2) (T1 : Stp prog w i1 l1 S1 n1 f1) (T2 : Stp prog w i2 l2 S2 n2 f2) (hz : IsZip s.heap z TI TO .none) (hTI : IsPair s.heap TI (.ref i1) (.ref i2)) (hTO : IsPair s.heap TO a b) (h1 : S1 k1 s.heap) (h2 : S2 k2 s.heap) (hx : f1 k1 = some x) (hy : f2 k2 = some y)
    (hQ : ∀ h', IsZip h' z TI TO (rawInt s.heap.objs.size) → IsPair h' TO x y → S1 (k1 + 1) h' → S2 (k2 + 1) h' → IsPair h' s.heap.objs.size x y → h'.objs.size = s.heap.objs.size + 1 → (∀ c o, c ≠ z → c ≠ TO → c ≠ i1 → c ≠ i2 → s.heap.get? c = some o → h'.get? c = some o) → Q (.ref s.heap.objs.size) { s with heap := h' }) :
    wpAny (model prog w) A (Builtin.«zip.__next__» ⟨[.ref z], []⟩) (fun fin s' => ∃ v, fin = .done (.ret v) ∧ Q v s') E s := by
  show wpAny _ _ (field (.ref z) 2 >>= _) _ _ _; refine wpAny_bind (wpAny_field hz rfl (x := .bool false) rfl ?_)
  show wpAny _ _ (field (.ref z) 3 >>= _) _ _ _; refine wpAny_bind (wpAny_field hz rfl (x := .ref TI) rfl ?_); refine wpAny_bind (wpAny_seqItems hTI rfl ?_)
  show wpAny _ _ (Builtin.SmallTypes.ownedTupleIsFree (.ref z) >>= _) _ _ _; refine wpAny_bind ?_
  unfold Builtin.SmallTypes.ownedTupleIsFree; refine wpAny_bind (wpAny_field hz rfl (x := .none) rfl (wpAny_pure ?_))
  simp only [if_true]; refine wpAny_bind (wpAny_rule ?_); refine wpAny_bind (wpAny_field hz rfl (x := .ref TO) rfl ?_); refine wpAny_bind (wpAny_setField_rec hz (by simp) fun g1 hz1 hs1 => ?_)
  replace hz1 : IsZip g1 z TI TO .ellipsis := hz1
  refine wpAny_bind ?_; simp only [List.zipIdx_cons, List.zipIdx_nil, List.forIn_cons, List.forIn_nil]; refine wpAny_bind (wpAny_bind (wpAny_onRaise ?_))
  show wpAny _ _ (Builtin.SmallTypes.nextOf (.ref i1) >>= _) _ _ _
  refine wpAny_bind (T1.go _ _ _ k1 x _ (T1.mv _ _ _ _ h1 hs1.extBut D.i1z D.l1z) hx fun g2 q1 hs2 => wpAny_pure ?_)
  have o2 : IsPair g2 TO a b := hs2.extBut _ _ D.TOi1 (hs1.extBut _ _ D.TOz hTO)
  refine wpAny_bind (wpAny_seqItems o2 rfl ?_); refine wpAny_bind (wpAny_updateSeq_pair o2 fun g3 o3 hs3 => ?_)
  replace o3 : IsPair g3 TO x b := o3
  refine wpAny_bind (wpAny_letGo (wpAny_pure ?_)); refine wpAny_bind (wpAny_bind (wpAny_onRaise ?_))
  show wpAny _ _ (Builtin.SmallTypes.nextOf (.ref i2) >>= _) _ _ _
  refine wpAny_bind (T2.go _ _ _ k2 y _ (T2.mv _ _ _ _ (T2.mv _ _ _ _ (T2.mv _ _ _ _ h2 hs1.extBut D.i2z D.l2z) hs2.extBut D.i12.symm D.l2i1) hs3.extBut D.TOi2.symm D.l2TO) hy fun g4 q2 hs4 => wpAny_pure ?_)
  have o4 : IsPair g4 TO x b := hs4.extBut _ _ D.TOi2 o3
  refine wpAny_bind (wpAny_seqItems o4 rfl ?_); refine wpAny_bind (wpAny_updateSeq_pair o4 fun g5 o5 hs5 => ?_)
  replace o5 : IsPair g5 TO x y := o5
  refine wpAny_bind (wpAny_letGo (wpAny_pure (wpAny_pure ?_))); refine wpAny_bind (wpAny_seqItems o5 rfl ?_); refine wpAny_bind (wpAny_newTuple ?_)
  have sz : g5.objs.size = s.heap.objs.size := by rw [hs5.1, hs4.1, hs3.1, hs2.1, hs1.1]
  have z5 : IsZip g5 z TI TO .ellipsis := hs5.extBut _ _ D.TOz.symm (hs4.extBut _ _ D.i2z.symm (hs3.extBut _ _ D.TOz.symm (hs2.extBut _ _ D.i1z.symm hz1)))
  have k5 : ∀ c o, c ≠ z → c ≠ TO → c ≠ i1 → c ≠ i2 → s.heap.get? c = some o → g5.get? c = some o := fun c o c1 c2 c3 c4 e => hs5.extBut _ _ c2 (hs4.extBut _ _ c4 (hs3.extBut _ _ c2 (hs2.extBut _ _ c3 (hs1.extBut _ _ c1 e))))
  have a1 : S1 (k1 + 1) g5 := T1.mv _ _ _ _ (T1.mv _ _ _ _ (T1.mv _ _ _ _ q1 hs3.extBut D.TOi1.symm D.l1TO) hs4.extBut D.i12 D.l1i2) hs5.extBut D.TOi1.symm D.l1TO
  have a2 : S2 (k2 + 1) g5 := T2.mv _ _ _ _ q2 hs5.extBut D.TOi2.symm D.l2TO
  have zlt : z < g5.objs.size := Heap.lt_size z5
  show wpAny _ _ (Builtin.SmallTypes.ownedTupleHandOut (.ref z) (.ref g5.objs.size) >>= _) _ _ _
  refine wpAny_bind ?_; unfold Builtin.SmallTypes.ownedTupleHandOut
  have pushed : Heap.ExtBut z g5 (g5.push { cls := .type "tuple", data := .seq #[x, y] }) := fun c o _ e => Heap.get?_push_of_some _ e
  have z6 : IsZip (g5.push { cls := .type "tuple", data := .seq #[x, y] }) z TI TO .ellipsis := Heap.get?_push_of_some _ z5
  refine wpAny_bind (wpAny_setField_rec z6 (by simp) fun g7 z7 hs7 => ?_)
  replace z7 : IsZip g7 z TI TO (rawInt g5.objs.size) := z7
  refine wpAny_setField_rec z7 (by simp) fun g8 z8 hs8 => ?_
  replace z8 : IsZip g8 z TI TO (rawInt g5.objs.size) := z8
  have up : ∀ c o, c ≠ z → g5.get? c = some o → g8.get? c = some o := fun c o c1 e => hs8.extBut _ _ c1 (hs7.extBut _ _ c1 (pushed _ _ c1 e))
  have b1 : S1 (k1 + 1) g8 := T1.mv _ z _ _ a1 (fun c o n e => up c o n e) D.i1z D.l1z
  have b2 : S2 (k2 + 1) g8 := T2.mv _ z _ _ a2 (fun c o n e => up c o n e) D.i2z D.l2z
  have t8 : IsPair g8 g5.objs.size x y := hs8.extBut _ _ (Nat.ne_of_gt zlt) (hs7.extBut _ _ (Nat.ne_of_gt zlt) (Heap.get?_push_size _ rfl))
  have s8 : g8.objs.size = g5.objs.size + 1 := by rw [hs8.1, hs7.1, Heap.size_push]
  rw [sz] at z8 t8 s8
  refine wpAny_pure ⟨_, rfl, ?_⟩; show Q (.ref g5.objs.size) _; rw [sz]
  exact hQ g8 z8 (up _ _ D.TOz o5) b1 b2 t8 s8 fun c o c1 c2 c3 c4 e => up c o c1 (k5 c o c1 c2 c3 c4 e)
theorem zipG_end {k1 k2 : Nat} {a b : Value} {Q : Fin → Shared → Prop} (hh : A.handled = none) (D : ZipApart z TI TO i1 i2 l1 l2) (T1 : Stp prog w i1 l1 S1 n1 f1) (T2 : Stp prog w i2 l2 S2 n2 f2) (hz : IsZip s.heap z TI TO .none) (hTI : IsPair s.heap TI (.ref i1) (.ref i2)) (hTO : IsPair s.heap TO a b) (h1 : S1 k1 s.heap) (h2 : S2 k2 s.heap) (hend : f1 k1 = none ∨ f2 k2 = none)
    (hE : ∀ h' e, (∀ c o, c ≠ z → c ≠ TO → c ≠ i1 → c ≠ i2 → s.heap.get? c = some o → h'.get? c = some o) → (∃ o, h'.get? e = some o ∧ o.cls = .type "StopIteration") → E (.ref e) { s with heap := h' }) : wpAny (model prog w) A (Builtin.«zip.__next__» ⟨[.ref z], []⟩) Q E s := by
  show wpAny _ _ (field (.ref z) 2 >>= _) _ _ _; refine wpAny_bind (wpAny_field hz rfl (x := .bool false) rfl ?_)
  show wpAny _ _ (field (.ref z) 3 >>= _) _ _ _; refine wpAny_bind (wpAny_field hz rfl (x := .ref TI) rfl ?_); refine wpAny_bind (wpAny_seqItems hTI rfl ?_)
  show wpAny _ _ (Builtin.SmallTypes.ownedTupleIsFree (.ref z) >>= _) _ _ _; refine wpAny_bind ?_
  unfold Builtin.SmallTypes.ownedTupleIsFree; refine wpAny_bind (wpAny_field hz rfl (x := .none) rfl (wpAny_pure ?_))
  simp only [if_true]; refine wpAny_bind (wpAny_rule ?_); refine wpAny_bind (wpAny_field hz rfl (x := .ref TO) rfl ?_); refine wpAny_bind (wpAny_setField_rec hz (by simp) fun g1 hz1 hs1 => ?_)
  replace hz1 : IsZip g1 z TI TO .ellipsis := hz1
  refine wpAny_bind ?_; simp only [List.zipIdx_cons, List.zipIdx_nil, List.forIn_cons, List.forIn_nil]; refine wpAny_bind (wpAny_bind (wpAny_onRaise ?_))
  show wpAny _ _ (Builtin.SmallTypes.nextOf (.ref i1) >>= _) _ _ _
  have p1 := T1.mv _ _ _ _ h1 hs1.extBut D.i1z D.l1z
  cases hx : f1 k1 with
  | none =>
    refine wpAny_bind (T1.stop _ _ _ k1 _ hh p1 hx fun g2 e hs2 ⟨oe, e1, e2⟩ => ?_)
    have z2 : IsZip g2 z TI TO .ellipsis := hs2 _ _ D.i1z.symm hz1
    have ez : e ≠ z := fun x => by subst x; rw [z2] at e1; cases e1; simp at e2
    exact wpAny_setField_rec z2 (by simp) fun g3 _ hs3 => hE g3 e (fun c o c1 _ c3 _ x => hs3.extBut _ _ c1 (hs2 _ _ c3 (hs1.extBut _ _ c1 x))) ⟨oe, hs3.extBut _ _ ez e1, e2⟩
  | some x =>
    have hy : f2 k2 = none := hend.resolve_left (by rw [hx]; exact fun z => nomatch z)
    refine wpAny_bind (T1.go _ _ _ k1 x _ p1 hx fun g2 q1 hs2 => wpAny_pure ?_)
    have o2 : IsPair g2 TO a b := hs2.extBut _ _ D.TOi1 (hs1.extBut _ _ D.TOz hTO)
    refine wpAny_bind (wpAny_seqItems o2 rfl ?_); refine wpAny_bind (wpAny_updateSeq_pair o2 fun g3 o3 hs3 => ?_); refine wpAny_bind (wpAny_letGo (wpAny_pure ?_)); refine wpAny_bind (wpAny_bind (wpAny_onRaise ?_))
    show wpAny _ _ (Builtin.SmallTypes.nextOf (.ref i2) >>= _) _ _ _
    refine wpAny_bind (T2.stop _ _ _ k2 _ hh (T2.mv _ _ _ _ (T2.mv _ _ _ _ (T2.mv _ _ _ _ h2 hs1.extBut D.i2z D.l2z) hs2.extBut D.i12.symm D.l2i1) hs3.extBut D.TOi2.symm D.l2TO) hy fun g4 e hs4 ⟨oe, e1, e2⟩ => ?_)
    have z4 : IsZip g4 z TI TO .ellipsis := hs4 _ _ D.i2z.symm (hs3.extBut _ _ D.TOz.symm (hs2.extBut _ _ D.i1z.symm hz1))
    have ez : e ≠ z := fun x => by subst x; rw [z4] at e1; cases e1; simp at e2
    exact wpAny_setField_rec z4 (by simp) fun g5 _ hs5 => hE g5 e (fun c o c1 c2 c3 c4 x => hs5.extBut _ _ c1 (hs4 _ _ c4 (hs3.extBut _ _ c2 (hs2.extBut _ _ c3 (hs1.extBut _ _ c1 x))))) ⟨oe, hs5.extBut _ _ ez e1, e2⟩
end
end Lx
namespace Lx
open PySem PySem.Spec PyProof.Rows
open PySem.Sem (wp)
abbrev zpO (T I : Addr) : Obj := { cls := .type "zip", data := .fields #[.none, .bool false, .bool false, .ref T, .ref I] }
abbrev prO (x y : Value) : Obj := { cls := .type "tuple", data := .seq #[x, y] }
abbrev zg2 (h : Heap) (o1 o2 : Obj) : Heap := (h.push o1).push o2
abbrev zg3 (h : Heap) (o1 o2 : Obj) : Heap := (zg2 h o1 o2).push (prO (.ref h.objs.size) (.ref (h.push o1).objs.size))
abbrev zg4 (h : Heap) (o1 o2 : Obj) : Heap := (zg3 h o1 o2).push (prO .none .none)
abbrev zg5 (h : Heap) (o1 o2 : Obj) : Heap := (zg4 h o1 o2).push (zpO (zg2 h o1 o2).objs.size (zg3 h o1 o2).objs.size)
theorem meets_zipG {v1 v2 : Value} {o1 o2 : Obj} {H1 H2 : Heap → Prop} (B1 : Begins v1 o1 H1) (B2 : Begins v2 o2 H2) (up : ∀ h, H2 h → H2 (h.push o1)) :
    Meets (Builtin.«zip.__new__» ⟨[.type "zip", v1, v2], []⟩) (fun _ R s => H1 s.heap ∧ H2 s.heap ∧ R (.ok (.ret (.ref (zg4 s.heap o1 o2).objs.size))) { s with heap := zg5 s.heap o1 o2 }) :=
  .of_wp fun prog w A R s h => by
    obtain ⟨hp, g, d, tk, os⟩ := s; obtain ⟨h1, h2, h⟩ := h
    have hsub := sub_zip
    have q1 : ∀ {A' : Around} {E : Value → Shared → Prop} {Q : Value → Shared → Prop}, Q (.ref hp.objs.size) ⟨hp.push o1, g, d, tk, os⟩ → wpAny (model prog w) A' (pyIter v1) Q E ⟨hp, g, d, tk, os⟩ := fun q => B1.iter prog w _ _ ⟨hp, g, d, tk, os⟩ _ h1 q
    have q2 : ∀ {A' : Around} {E : Value → Shared → Prop} {Q : Value → Shared → Prop}, Q (.ref (hp.push o1).objs.size) ⟨(hp.push o1).push o2, g, d, tk, os⟩ → wpAny (model prog w) A' (pyIter v2) Q E ⟨hp.push o1, g, d, tk, os⟩ := fun q => B2.iter prog w _ _ ⟨hp.push o1, g, d, tk, os⟩ _ (up _ h2) q
    wp_walk using q1, q2
    exact ⟨_, rfl, h⟩
theorem call_zipG {prog : Program} {w : World} {A : Around} {E : Value → Shared → Prop} {s : Shared} {v1 v2 : Value} {o1 o2 : Obj} {H1 H2 : Heap → Prop} {Q : Value → Shared → Prop} (B1 : Begins v1 o1 H1) (B2 : Begins v2 o2 H2) (up : ∀ h, H2 h → H2 (h.push o1)) (h1 : H1 s.heap) (h2 : H2 s.heap)
    (h : ∀ h', IsZip h' (s.heap.objs.size + 4) (s.heap.objs.size + 2) (s.heap.objs.size + 3) .none → IsPair h' (s.heap.objs.size + 2) (.ref s.heap.objs.size) (.ref (s.heap.objs.size + 1)) → IsPair h' (s.heap.objs.size + 3) .none .none → h'.get? s.heap.objs.size = some o1 → h'.get? (s.heap.objs.size + 1) = some o2 → (∀ c o, s.heap.get? c = some o → h'.get? c = some o) → Q (.ref (s.heap.objs.size + 4)) { s with heap := h' }) :
    wpAny (model prog w) A (call (.type "zip") [v1, v2]) Q E s := by
  refine callType_new F.called_zip (by decide) (F.typeCall_zip_2 _ _) (F.newCall_zip_2 _ _) (fun obj => F.args_object_init_3 obj _ _) F.entry_zip_new (meets_zipG B1 B2 up) ⟨h1, h2, ?_⟩
  have e1 : (s.heap.push o1).objs.size = s.heap.objs.size + 1 := Heap.size_push ..
  have e2 : (zg2 s.heap o1 o2).objs.size = s.heap.objs.size + 2 := by rw [Heap.size_push, e1]
  have e3 : (zg3 s.heap o1 o2).objs.size = s.heap.objs.size + 3 := by rw [Heap.size_push, e2]
  have e4 : (zg4 s.heap o1 o2).objs.size = s.heap.objs.size + 4 := by rw [Heap.size_push, e3]
  have u : ∀ {h : Heap} {o : Obj} {c : Addr} {p : Obj}, h.get? c = some p → (h.push o).get? c = some p := fun x => Heap.get?_push_of_some _ x
  have g5 : (zg5 s.heap o1 o2).get? (zg4 s.heap o1 o2).objs.size = some (zpO (zg2 s.heap o1 o2).objs.size (zg3 s.heap o1 o2).objs.size) := Heap.get?_push_size _ rfl
  have g4 : (zg5 s.heap o1 o2).get? (zg3 s.heap o1 o2).objs.size = some (prO .none .none) := u (Heap.get?_push_size _ rfl)
  have g3 : (zg5 s.heap o1 o2).get? (zg2 s.heap o1 o2).objs.size = some (prO (.ref s.heap.objs.size) (.ref (s.heap.push o1).objs.size)) := u (u (Heap.get?_push_size _ rfl))
  have g2 : (zg5 s.heap o1 o2).get? (s.heap.push o1).objs.size = some o2 := u (u (u (Heap.get?_push_size _ B2.free)))
  have g1 : (zg5 s.heap o1 o2).get? s.heap.objs.size = some o1 := u (u (u (u (Heap.get?_push_size _ B1.free))))
  show _ ∧ _
  rw [e2, e3, e4] at g5; rw [e1, e2] at g3; rw [e3] at g4; rw [e1] at g2; rw [e4]
  exact ⟨⟨_, g5, rfl⟩, h _ g5 g3 g4 g1 g2 fun c o x => u (u (u (u (u x))))⟩
theorem pyNext_zipG_item {prog : Program} {w : World} {A : Around} {E : Value → Shared → Prop} {s : Shared} {z TI TO i1 i2 l1 l2 : Addr} {S1 S2 : Nat → Heap → Prop} {n1 n2 : Nat} {f1 f2 : Nat → Option Value} {k1 k2 : Nat} {x y a b : Value} {Q : Option Value → Shared → Prop} (D : ZipApart z TI TO i1 i2 l1 l2) (T1 : Stp prog w i1 l1 S1 n1 f1) (T2 : Stp prog w i2 l2 S2 n2 f2) (hz : IsZip s.heap z TI TO .none) (hTI : IsPair s.heap TI (.ref i1) (.ref i2)) (hTO : IsPair s.heap TO a b) (h1 : S1 k1 s.heap) (h2 : S2 k2 s.heap) (hx : f1 k1 = some x) (hy : f2 k2 = some y)
    (hQ : ∀ h', IsZip h' z TI TO (rawInt s.heap.objs.size) → IsPair h' TO x y → S1 (k1 + 1) h' → S2 (k2 + 1) h' → IsPair h' s.heap.objs.size x y → h'.objs.size = s.heap.objs.size + 1 → (∀ c o, c ≠ z → c ≠ TO → c ≠ i1 → c ≠ i2 → s.heap.get? c = some o → h'.get? c = some o) → Q (some (.ref s.heap.objs.size)) { s with heap := h' }) : wpAny (model prog w) A (pyNext (.ref z)) Q E s := by
  have hT : s.TypeIs (.ref z) "zip" := ⟨_, hz, rfl⟩
  unfold pyNext
  exact wpAny_bind (wpAny_attempt (wpAny_callSpecial?_slot (name := Str.ofString "__next__") hT F.slot_zip_next (wpAny_call_entry F.slot_zip_next hT F.entry_zip_next (zipG_item D T1 T2 hz hTI hTO h1 h2 hx hy fun h' a1 a2 a3 a4 a5 a6 a7 => wpAny_pure (hQ h' a1 a2 a3 a4 a5 a6 a7)) (F.args_zip_next_1 _))))
theorem pyNext_zipG_end {prog : Program} {w : World} {A : Around} {E : Value → Shared → Prop} {s : Shared} {z TI TO i1 i2 l1 l2 : Addr} {S1 S2 : Nat → Heap → Prop} {n1 n2 : Nat} {f1 f2 : Nat → Option Value} {k1 k2 : Nat} {a b : Value} {Q : Option Value → Shared → Prop} (hh : A.handled = none) (D : ZipApart z TI TO i1 i2 l1 l2) (T1 : Stp prog w i1 l1 S1 n1 f1) (T2 : Stp prog w i2 l2 S2 n2 f2) (hz : IsZip s.heap z TI TO .none) (hTI : IsPair s.heap TI (.ref i1) (.ref i2)) (hTO : IsPair s.heap TO a b) (h1 : S1 k1 s.heap) (h2 : S2 k2 s.heap) (hend : f1 k1 = none ∨ f2 k2 = none)
    (hQ : ∀ h', (∀ c o, c ≠ z → c ≠ TO → c ≠ i1 → c ≠ i2 → s.heap.get? c = some o → h'.get? c = some o) → Q none { s with heap := h' }) : wpAny (model prog w) A (pyNext (.ref z)) Q E s := by
  have hT : s.TypeIs (.ref z) "zip" := ⟨_, hz, rfl⟩
  unfold pyNext
  refine wpAny_bind (wpAny_attempt (wpAny_callSpecial?_slot (name := Str.ofString "__next__") hT F.slot_zip_next (wpAny_call_entry F.slot_zip_next hT F.entry_zip_next (zipG_end hh D T1 T2 hz hTI hTO h1 h2 hend fun h' e hk ⟨o, ho, hc⟩ => ?_) (F.args_zip_next_1 _))))
  exact wpAny_bind (wpAny_isInstance (T := "StopIteration") (b := true) ⟨o, ho, hc⟩ isSubtype_stop (wpAny_pure (hQ _ hk)))
end Lx
set_option Elab.async false
set_option linter.all false
set_option maxRecDepth 100000
/-! values as data over the hand layer: cells, temporaries, the states that bear them -/
namespace Ld
open PySem PySem.Spec PyProof.Rows L2 Lx
abbrev Dat := PyData
/-- a resource at an address: what must hold of its places, which are its own -/
structure Res where
  lent : Bool
  holds : Hp → Hp → Addr → (Addr → Prop) → Prop
  dom : ∀ {B H a F x}, holds B H a F → F x → H x ≠ none
  frame : ∀ {B B' H H' a F}, holds B H a F → Same B B' → (∀ x, F x → H' x = H x) → holds B' H' a F
/-- what a name's slot is known to hold: nothing known | data that never changes | a list of this def's own | a list that a caller lent -/
inductive Cell where
  | no | dt (d : Dat) | ow (ds : List Dat) | ln (ds : List Dat) | sc (ns : List Int) | ob (p : HO) | li (R : Res)
/-- a value under way: data | a new list | what slot i holds -/
inductive Tmp where
  | dt (d : Dat) | fr (ds : List Dat) | br (i : Nat) | sc (ns : List Int) | ob (p : HO) | li (R : Res)
structure Hs where
  b : Hp
  h : Hp
structure Gr (L : Addr → Prop) (S S' : Hs) : Prop where
  b : Same S.b S'.b
  h : ∀ a o, ¬ L a → S.h a = some o → S'.h a = some o
  own : ∀ a, S.b a = none → S.h a ≠ none → S'.b a = none
  dom : ∀ a, S.h a ≠ none → S'.h a ≠ none
abbrev L0 : Addr → Prop := fun _ => False
theorem Gr.refl (L : Addr → Prop) (S : Hs) : Gr L S S := ⟨Same.refl _, fun _ _ _ h => h, fun _ h _ => h, fun _ h => h⟩
theorem Gr.trans {L L' : Addr → Prop} {A B C : Hs} (x : Gr L A B) (y : Gr L' B C) (hl : ∀ a, L' a → L a ∨ A.h a = none) : Gr L A C :=
  ⟨x.b.trans y.b, fun a o n e => y.h a o (fun z => (hl a z).elim n fun q => by rw [q] at e; cases e) (x.h a o n e), fun a e n => y.own a (x.own a e n) (x.dom a n), fun a n => y.dom a (x.dom a n)⟩
theorem Gr.trans0 {L : Addr → Prop} {A B C : Hs} (x : Gr L A B) (y : Gr L0 B C) : Gr L A C := x.trans y fun _ z => z.elim
section
variable {K : PySem.W.Frag} {H H' : Hp}
mutual
/-- data as it stands in the heap: lists and tuples that are tracked -/
inductive Dq (H : Hp) : V → Dat → Prop
  | non : Dq H .non .none
  | bl (b : Bool) : Dq H (.bl b) (.bool b)
  | int (i : Int) : Dq H (.int i) (.int i)
  | str (x : Str) : Dq H (.str x) (.str x)
  | lst {a : Addr} {xs : List V} {ds : List Dat} : H a = some (.lst xs) → DqAll H xs ds → Dq H (.ref a) (.list ds)
  | tup {a : Addr} {o : Obj} {xs : List V} {ds : List Dat} : o.dict = none → H a = some (.frz o (.tup xs)) → DqAll H xs ds → Dq H (.ref a) (.tuple ds)
inductive DqAll (H : Hp) : List V → List Dat → Prop
  | nil : DqAll H [] []
  | cons {v : V} {vs : List V} {d : Dat} {ds : List Dat} : Dq H v d → DqAll H vs ds → DqAll H (v :: vs) (d :: ds)
end
mutual
theorem dp_mono (e : Same H H') : ∀ (d : Dat) (v : V), Dq H v d → Dq H' v d
  | .none, _, h => by cases h; exact .non
  | .bool b, _, h => by cases h; exact .bl b
  | .int i, _, h => by cases h; exact .int i
  | .str x, _, h => by cases h; exact .str x
  | .list ds, _, h => by
    cases h with
    | lst h1 h2 => exact .lst (e _ _ h1) (dpa_mono e ds _ h2)
  | .tuple ds, _, h => by
    cases h with
    | tup hd h1 h2 => exact .tup hd (e _ _ h1) (dpa_mono e ds _ h2)
  | .dict _, _, h => by cases h
theorem dpa_mono (e : Same H H') : ∀ (ds : List Dat) (vs : List V), DqAll H vs ds → DqAll H' vs ds
  | [], _, h => by cases h; exact .nil
  | d :: ds, _, h => by
    cases h with
    | cons h1 h2 => exact .cons (dp_mono e d _ h1) (dpa_mono e ds _ h2)
end
mutual
theorem dq_dp : ∀ (d : Dat) (v : V), Dq H v d → Dp K H v d
  | .none, _, h => by cases h; exact .non
  | .bool b, _, h => by cases h; exact .bl b
  | .int i, _, h => by cases h; exact .int i
  | .str x, _, h => by cases h; exact .str x
  | .list ds, _, h => by
    cases h with
    | lst h1 h2 => exact .lst (.inl (.inl h1)) (dqa_dpa ds _ h2)
  | .tuple ds, _, h => by
    cases h with
    | tup hd h1 h2 => exact .tup (.inl (.inr ⟨_, h1⟩)) (dqa_dpa ds _ h2)
  | .dict _, _, h => by cases h
theorem dqa_dpa : ∀ (ds : List Dat) (vs : List V), DqAll H vs ds → DpAll K H vs ds
  | [], _, h => by cases h; exact .nil
  | d :: ds, _, h => by
    cases h with
    | cons h1 h2 => exact .cons (dq_dp d _ h1) (dqa_dpa ds _ h2)
end
end
section
variable {K : PySem.W.Frag} {H H' : Hp}
theorem DqAll.len : ∀ {vs : List V} {ds : List Dat}, DqAll H vs ds → vs.length = ds.length
  | _, _, .nil => rfl
  | _, _, .cons _ h => by rw [List.length_cons, List.length_cons, DqAll.len h]
theorem DqAll.get : ∀ {vs : List V} {ds : List Dat} {i : Nat} {d : Dat}, DqAll H vs ds → ds[i]? = some d → ∃ v, vs[i]? = some v ∧ Dq H v d
  | _, _, _, _, .nil, h => by simp at h
  | _, _, 0, _, .cons h1 _, h => by cases h; exact ⟨_, rfl, h1⟩
  | _, _, i + 1, _, .cons _ h2, h => DqAll.get (i := i) h2 h
theorem DqAll.getV : ∀ {vs : List V} {ds : List Dat} {i : Nat} {v : V}, DqAll H vs ds → vs[i]? = some v → ∃ d, ds[i]? = some d ∧ Dq H v d
  | _, _, _, _, .nil, h => by simp at h
  | _, _, 0, _, .cons h1 _, h => by cases h; exact ⟨_, rfl, h1⟩
  | _, _, i + 1, _, .cons _ h2, h => DqAll.getV (i := i) h2 h
theorem DqAll.app : ∀ {vs ws : List V} {ds es : List Dat}, DqAll H vs ds → DqAll H ws es → DqAll H (vs ++ ws) (ds ++ es)
  | _, _, _, _, .nil, h => h
  | _, _, _, _, .cons h1 h2, h => .cons h1 (DqAll.app h2 h)
theorem DqAll.take : ∀ {vs : List V} {ds : List Dat} (n : Nat), DqAll H vs ds → DqAll H (vs.take n) (ds.take n)
  | _, _, 0, _ => .nil
  | _, _, _ + 1, .nil => .nil
  | _, _, n + 1, .cons h1 h2 => .cons h1 (DqAll.take n h2)
theorem DqAll.drop : ∀ {vs : List V} {ds : List Dat} (n : Nat), DqAll H vs ds → DqAll H (vs.drop n) (ds.drop n)
  | _, _, 0, h => h
  | _, _, _ + 1, .nil => .nil
  | _, _, n + 1, .cons _ h2 => DqAll.drop n h2
theorem DqAll.set {v : V} {d : Dat} (q : Dq H v d) : ∀ {vs : List V} {ds : List Dat} (n : Nat), DqAll H vs ds → DqAll H (vs.set n v) (ds.set n d)
  | _, _, _, .nil => .nil
  | _, _, 0, .cons _ h2 => .cons q h2
  | _, _, n + 1, .cons h1 h2 => .cons h1 (DqAll.set q n h2)
theorem DqAll.one {v : V} {d : Dat} (h : Dq H v d) : DqAll H [v] [d] := .cons h .nil
theorem DqAll.rev : ∀ {vs : List V} {ds : List Dat}, DqAll H vs ds → DqAll H vs.reverse ds.reverse
  | _, _, .nil => .nil
  | _, _, .cons h1 h2 => by rw [List.reverse_cons, List.reverse_cons]; exact (DqAll.rev h2).app (.one h1)
theorem DqAll.dropLast {vs : List V} {ds : List Dat} (h : DqAll H vs ds) : DqAll H vs.dropLast ds.dropLast := by
  rw [List.dropLast_eq_take, List.dropLast_eq_take, h.len]; exact h.take _
theorem DqAll.eraseIdx : ∀ {vs : List V} {ds : List Dat} (n : Nat), DqAll H vs ds → DqAll H (vs.eraseIdx n) (ds.eraseIdx n)
  | _, _, _, .nil => .nil
  | _, _, 0, .cons _ h2 => h2
  | _, _, n + 1, .cons h1 h2 => .cons h1 (DqAll.eraseIdx n h2)
end
section
variable {K : PySem.W.Frag} {H H' : Hp}
theorem dpa_ints : ∀ {ns : List Int} {vs : List V}, DqAll H vs (ns.map PyData.int) → vs = ns.map V.int
  | [], _, h => by cases h; rfl
  | n :: ns, _, h => by
    cases h with
    | cons h1 h2 => cases h1; rw [dpa_ints h2]; rfl
theorem dpa_of_ints : ∀ (ns : List Int), DqAll H (ns.map V.int) (ns.map PyData.int)
  | [] => .nil
  | n :: ns => .cons (.int n) (dpa_of_ints ns)
theorem dpa_bools : ∀ {ns : List Bool} {vs : List V}, DqAll H vs (ns.map PyData.bool) → vs = ns.map V.bl
  | [], _, h => by cases h; rfl
  | n :: ns, _, h => by
    cases h with
    | cons h1 h2 => cases h1; rw [dpa_bools h2]; rfl
/-- scalars -/
def vd : V → Dat
  | .bl b => .bool b
  | .int i => .int i
  | .str x => .str x
  | _ => .none
def sc : V → Bool
  | .non => true
  | .bl _ => true
  | .int _ => true
  | .str _ => true
  | _ => false
theorem dp_sc {v : V} (h : sc v = true) : Dq H v (vd v) := by
  cases v with
  | non => exact .non
  | bl b => exact .bl b
  | int i => exact .int i
  | str x => exact .str x
  | byt _ => cases h
  | flt _ => cases h
  | ref _ => cases h
  | ty _ => cases h
end
/-! ### a state bears the cells -/
section
variable (K : PySem.W.Frag) (L : Addr → Prop) (S0 : Hs)
abbrev Wh := Addr → Option (Sum Nat Nat)
structure Own (w : Wh) (k : Sum Nat Nat) (S : Hs) (a : Addr) (ds : List Dat) : Prop where
  nb : S.b a = none
  at_ : w a = some k
  is : ∃ vs, S.h a = some (.lst vs) ∧ DqAll S.b vs ds
structure OwnO (w : Wh) (k : Sum Nat Nat) (S : Hs) (a : Addr) (p : HO) : Prop where
  nb : S.b a = none
  at_ : w a = some k
  is : S.h a = some p
structure OwnL (w : Wh) (k : Sum Nat Nat) (S : Hs) (a : Addr) (R : Res) (N : Addr → Prop) : Prop where
  ex : ∃ F : Addr → Prop, R.holds S.b S.h a F ∧ ∀ x, F x → S.b x = none ∧ w x = some k ∧ N x
def SlotOk (w : Wh) (S : Hs) (i : Nat) (o : Option (Option V)) : Cell → Prop
  | .no => True
  | .dt d => ∃ v, o = some (some v) ∧ Dq S.b v d
  | .ow ds => ∃ a, o = some (some (.ref a)) ∧ Own w (.inl i) S a ds ∧ S0.h a = none
  | .ln ds => ∃ a, o = some (some (.ref a)) ∧ Own w (.inl i) S a ds ∧ L a
  | .sc ns => ∃ a, o = some (some (.ref a)) ∧ SqL K S.b a (ns.map V.int)
  | .ob p => ∃ a, o = some (some (.ref a)) ∧ OwnO w (.inl i) S a p ∧ S0.h a = none
  | .li R => ∃ a, o = some (some (.ref a)) ∧ OwnL w (.inl i) S a R (fun x => S0.h x = none ∨ (R.lent = true ∧ L x))
def TmpOk (w : Wh) (S : Hs) (σ : L2.St) (k : Nat) (v : V) : Tmp → Prop
  | .dt d => Dq S.b v d
  | .fr ds => ∃ a, v = .ref a ∧ Own w (.inr k) S a ds ∧ S0.h a = none
  | .br i => σ[i]? = some (some v)
  | .sc ns => ∃ a, v = .ref a ∧ SqL K S.b a (ns.map V.int)
  | .ob p => ∃ a, v = .ref a ∧ OwnO w (.inr k) S a p ∧ S0.h a = none
  | .li R => ∃ a, v = .ref a ∧ OwnL w (.inr k) S a R (fun x => S0.h x = none)
def TmpsOk (w : Wh) (S : Hs) (σ : L2.St) : List Tmp → List V → Prop
  | [], [] => True
  | t :: ts, v :: vs => TmpOk K S0 w S σ ts.length v t ∧ TmpsOk w S σ ts vs
  | _, _ => False
structure Env (Γ : List Cell) (Θ : List Tmp) (σ : L2.St) (τ : List V) (S : Hs) : Prop where
  gr : Gr L S0 S
  sub : Same S.b S.h
  len : σ.length = Γ.length
  ok : ∃ w : Wh, (∀ i c, Γ[i]? = some c → SlotOk K L S0 w S i σ[i]? c) ∧ TmpsOk K S0 w S σ Θ τ
end
section
variable {K : PySem.W.Frag} {L : Addr → Prop} {S0 S S' : Hs} {Γ : List Cell} {Θ : List Tmp} {σ : L2.St} {τ : List V} {w : Wh}
theorem Own.grow {k : Sum Nat Nat} {a : Addr} {ds : List Dat} (h : Own w k S a ds) (g : Gr L0 S S') : Own w k S' a ds := by
  obtain ⟨n, e, vs, q, p⟩ := h
  exact ⟨g.own a n (by rw [q]; exact fun z => nomatch z), e, vs, g.h a _ (fun z => z) q, dpa_mono g.b _ _ p⟩
theorem OwnO.grow {k : Sum Nat Nat} {a : Addr} {p : HO} (h : OwnO w k S a p) (g : Gr L0 S S') : OwnO w k S' a p := by
  obtain ⟨n, e, q⟩ := h
  exact ⟨g.own a n (by rw [q]; exact fun z => nomatch z), e, g.h a _ (fun z => z) q⟩
theorem OwnL.grow {k : Sum Nat Nat} {a : Addr} {R : Res} {N : Addr → Prop} (h : OwnL w k S a R N) (g : Gr L0 S S') : OwnL w k S' a R N := by
  obtain ⟨F, q, f⟩ := h
  refine ⟨F, R.frame q g.b fun x hx => ?_, fun x hx => ⟨g.own x (f x hx).1 (R.dom q hx), (f x hx).2⟩⟩
  cases e : S.h x with
  | none => exact absurd e (R.dom q hx)
  | some o => exact g.h x o (fun z => z) e
theorem OwnL.reK {k k' : Sum Nat Nat} {a : Addr} {R : Res} {N N' : Addr → Prop} {w' : Wh} (h : OwnL w k S a R N) (f : ∀ x, w x = some k → w' x = some k') (n : ∀ x, N x → N' x) : OwnL w' k' S a R N' := by
  obtain ⟨F, q, g⟩ := h
  exact ⟨F, q, fun x hx => ⟨(g x hx).1, f x (g x hx).2.1, n x (g x hx).2.2⟩⟩
theorem OwnL.reW {k k' : Sum Nat Nat} {a p : Addr} {R : Res} {N : Addr → Prop} (h : OwnL w k S a R N) (hp : S.h p = none) : OwnL (fun b => if b = p then some k' else w b) k S a R N := by
  obtain ⟨F, q, g⟩ := h
  exact ⟨F, q, fun x hx => ⟨(g x hx).1, by rw [if_neg (fun e => R.dom q hx (by rw [e]; exact hp))]; exact (g x hx).2.1, (g x hx).2.2⟩⟩
theorem TmpsOk.imp {w' : Wh} {σ' : L2.St} : ∀ {Θ : List Tmp} {τ : List V}, TmpsOk K S0 w S σ Θ τ → (∀ (k : Nat) v t, k < Θ.length → TmpOk K S0 w S σ k v t → TmpOk K S0 w' S' σ' k v t) → TmpsOk K S0 w' S' σ' Θ τ
  | [], [], _, _ => trivial
  | t :: ts, v :: vs, h, f => ⟨f _ _ _ (by simp) h.1, TmpsOk.imp h.2 fun k v t hk => f k v t (by simp; omega)⟩
  | [], _ :: _, h, _ => h.elim
  | _ :: _, [], h, _ => h.elim
theorem TmpsOk.imp' {w' : Wh} {σ' : L2.St} : ∀ {Θ : List Tmp} {τ : List V}, TmpsOk K S0 w S σ Θ τ → (∀ (k : Nat) v t, k < Θ.length → t ∈ Θ → TmpOk K S0 w S σ k v t → TmpOk K S0 w' S' σ' k v t) → TmpsOk K S0 w' S' σ' Θ τ
  | [], [], _, _ => trivial
  | t :: ts, v :: vs, h, f => ⟨f _ _ _ (by simp) (by simp) h.1, TmpsOk.imp' h.2 fun k v t hk hm => f k v t (by simp; omega) (List.mem_cons_of_mem _ hm)⟩
  | [], _ :: _, h, _ => h.elim
  | _ :: _, [], h, _ => h.elim
theorem SlotOk.grow {i : Nat} {o : Option (Option V)} {c : Cell} (h : SlotOk K L S0 w S i o c) (g : Gr L0 S S') : SlotOk K L S0 w S' i o c := by
  cases c with
  | no => trivial
  | dt d => obtain ⟨v, e, q⟩ := h; exact ⟨v, e, dp_mono g.b _ _ q⟩
  | ow ds => obtain ⟨a, e, q, n⟩ := h; exact ⟨a, e, q.grow g, n⟩
  | ln ds => obtain ⟨a, e, q, n⟩ := h; exact ⟨a, e, q.grow g, n⟩
  | sc ns => obtain ⟨a, e, q⟩ := h; exact ⟨a, e, g.b.seq q⟩
  | ob pp => obtain ⟨a, e, q, n⟩ := h; exact ⟨a, e, q.grow g, n⟩
  | li R => obtain ⟨a, e, q⟩ := h; exact ⟨a, e, q.grow g⟩
theorem TmpOk.grow {k : Nat} {v : V} {t : Tmp} (h : TmpOk K S0 w S σ k v t) (g : Gr L0 S S') : TmpOk K S0 w S' σ k v t := by
  cases t with
  | dt d => exact dp_mono g.b _ _ h
  | fr ds => obtain ⟨a, e, q, n⟩ := h; exact ⟨a, e, q.grow g, n⟩
  | br i => exact h
  | sc ns => obtain ⟨a, e, q⟩ := h; exact ⟨a, e, g.b.seq q⟩
  | ob pp => obtain ⟨a, e, q, n⟩ := h; exact ⟨a, e, q.grow g, n⟩
  | li R => obtain ⟨a, e, q⟩ := h; exact ⟨a, e, q.grow g⟩
/-- the heap grows -/
theorem Env.grow (E : Env K L S0 Γ Θ σ τ S) (g : Gr L0 S S') (sub : Same S'.b S'.h) : Env K L S0 Γ Θ σ τ S' := by
  obtain ⟨w, h1, h2⟩ := E.ok
  exact ⟨E.gr.trans0 g, sub, E.len, w, fun i c e => (h1 i c e).grow g, h2.imp fun _ _ _ _ q => q.grow g⟩
theorem Env.pop {t : Tmp} {v : V} (E : Env K L S0 Γ (t :: Θ) σ (v :: τ) S) : Env K L S0 Γ Θ σ τ S := by
  obtain ⟨w, h1, h2⟩ := E.ok
  exact ⟨E.gr, E.sub, E.len, w, h1, h2.2⟩
theorem Env.top {t : Tmp} {v : V} (E : Env K L S0 Γ (t :: Θ) σ (v :: τ) S) : ∃ w, TmpOk K S0 w S σ Θ.length v t := let ⟨w, _, h2⟩ := E.ok; ⟨w, h2.1⟩
theorem Env.push {d : Dat} {v : V} (E : Env K L S0 Γ Θ σ τ S) (h : Dq S.b v d) : Env K L S0 Γ (.dt d :: Θ) σ (v :: τ) S := by
  obtain ⟨w, h1, h2⟩ := E.ok
  exact ⟨E.gr, E.sub, E.len, w, h1, h, h2⟩
theorem Env.pushBr {i : Nat} {v : V} (E : Env K L S0 Γ Θ σ τ S) (h : σ[i]? = some (some v)) : Env K L S0 Γ (.br i :: Θ) σ (v :: τ) S := by
  obtain ⟨w, h1, h2⟩ := E.ok
  exact ⟨E.gr, E.sub, E.len, w, h1, h, h2⟩
theorem gr_new {p : Addr} {o : HO} (h : S.h p = none) (sub : Same S.b S.h) : Gr L0 S ⟨S.b, upd S.h p o⟩ :=
  ⟨Same.refl _, fun a o' _ e => by show upd S.h p o a = some o'; rw [upd_ne (ne_of_none e h)]; exact e, fun _ e _ => e, fun a n => by
    show upd S.h p o a ≠ none
    by_cases e : a = p
    · rw [e, upd_same]; exact fun z => nomatch z
    · rw [upd_ne e]; exact n⟩
theorem sub_new {p : Addr} {o : HO} (h : S.h p = none) (sub : Same S.b S.h) : Same S.b (upd S.h p o) := fun a o' e => by
  rw [upd_ne (ne_of_none (sub a o' e) h)]; exact sub a o' e
theorem gr_newB {p : Addr} {o : HO} (h : S.h p = none) (sub : Same S.b S.h) : Gr L0 S ⟨upd S.b p o, upd S.h p o⟩ := by
  have nb : S.b p = none := by
    cases q : S.b p with
    | none => rfl
    | some u => rw [sub p u q] at h; cases h
  refine ⟨fun a o' e => ?_, (gr_new h sub).h, fun a e n => ?_, (gr_new h sub).dom⟩
  · show upd S.b p o a = some o'
    rw [upd_ne (ne_of_none e nb)]; exact e
  · show upd S.b p o a = none
    rw [upd_ne (fun z => n (by rw [z]; exact h))]; exact e
theorem sub_newB {p : Addr} {o : HO} (h : S.h p = none) (sub : Same S.b S.h) : Same (upd S.b p o) (upd S.h p o) := fun a o' e => by
  by_cases q : a = p
  · rw [q, upd_same] at e; rw [q, upd_same]; exact e
  · rw [upd_ne q] at e; rw [upd_ne q]; exact sub a o' e
/-- a new object that never changes -/
theorem Env.newB {p : Addr} {o : HO} (E : Env K L S0 Γ Θ σ τ S) (h : S.h p = none) : Env K L S0 Γ Θ σ τ ⟨upd S.b p o, upd S.h p o⟩ := E.grow (gr_newB h E.sub) (sub_newB h E.sub)
theorem Env.fresh {p : Addr} (E : Env K L S0 Γ Θ σ τ S) (h : S.h p = none) : S.b p = none := by
  cases q : S.b p with
  | none => rfl
  | some u => rw [E.sub p u q] at h; cases h
theorem Env.fresh0 {p : Addr} (E : Env K L S0 Γ Θ σ τ S) (h : S.h p = none) : S0.h p = none := by
  cases q : S0.h p with
  | none => rfl
  | some u => exact absurd h (E.gr.dom p (by rw [q]; exact fun z => nomatch z))
theorem Own.lt {k : Sum Nat Nat} {a p : Addr} {ds : List Dat} (h : Own w k S a ds) (hp : S.h p = none) : a ≠ p := by
  obtain ⟨_, _, vs, q, _⟩ := h
  exact ne_of_none q hp
theorem OwnO.lt {k : Sum Nat Nat} {a p : Addr} {o : HO} (h : OwnO w k S a o) (hp : S.h p = none) : a ≠ p := ne_of_none h.is hp
theorem OwnO.reW {k k' : Sum Nat Nat} {a p : Addr} {o : HO} (h : OwnO w k S a o) (hp : a ≠ p) : OwnO (fun b => if b = p then some k' else w b) k S a o :=
  ⟨h.nb, by show (if a = p then some k' else w a) = some k; rw [if_neg hp]; exact h.at_, h.is⟩
/-- a new tuple of data -/
theorem Env.newTup {p : Addr} {o : Obj} {vs : List V} {ds : List Dat} (E : Env K L S0 Γ Θ σ τ S) (hd : o.dict = none) (h : S.h p = none) (q : DqAll S.b vs ds) : Env K L S0 Γ (.dt (.tuple ds) :: Θ) σ (.ref p :: τ) ⟨upd S.b p (.frz o (.tup vs)), upd S.h p (.frz o (.tup vs))⟩ :=
  (E.newB h).push (.tup hd upd_same (dpa_mono (gr_newB h E.sub).b _ _ q))
theorem sqt_f {K : PySem.W.Frag} {H : Hp} {a : Addr} {o : Obj} {xs : List V} (h : H a = some (.frz o (.tup xs))) : SqT K H a xs := .inl (.inr ⟨o, h⟩)
/-- where an address is owned, by a word w that is changed at a fresh place -/
theorem Own.reW {k k' : Sum Nat Nat} {a p : Addr} {ds : List Dat} (h : Own w k S a ds) (hp : a ≠ p) : Own (fun b => if b = p then some k' else w b) k S a ds :=
  ⟨h.nb, by show (if a = p then some k' else w a) = some k; rw [if_neg hp]; exact h.at_, h.is⟩
theorem SlotOk.reW {k' : Sum Nat Nat} {p : Addr} {i : Nat} {o : Option (Option V)} {c : Cell} (h : SlotOk K L S0 w S i o c) (hp : S.h p = none) : SlotOk K L S0 (fun b => if b = p then some k' else w b) S i o c := by
  cases c with
  | no => trivial
  | dt d => exact h
  | ow ds => obtain ⟨a, e, q, n⟩ := h; exact ⟨a, e, q.reW (q.lt hp), n⟩
  | ln ds => obtain ⟨a, e, q, n⟩ := h; exact ⟨a, e, q.reW (q.lt hp), n⟩
  | sc ns => exact h
  | ob pp => obtain ⟨a, e, q, n⟩ := h; exact ⟨a, e, q.reW (q.lt hp), n⟩
  | li R => obtain ⟨a, e, q⟩ := h; exact ⟨a, e, q.reW hp⟩
theorem TmpOk.reW {k' : Sum Nat Nat} {p : Addr} {k : Nat} {v : V} {t : Tmp} (h : TmpOk K S0 w S σ k v t) (hp : S.h p = none) : TmpOk K S0 (fun b => if b = p then some k' else w b) S σ k v t := by
  cases t with
  | dt d => exact h
  | fr ds => obtain ⟨a, e, q, n⟩ := h; exact ⟨a, e, q.reW (q.lt hp), n⟩
  | br i => exact h
  | sc ns => exact h
  | ob pp => obtain ⟨a, e, q, n⟩ := h; exact ⟨a, e, q.reW (q.lt hp), n⟩
  | li R => obtain ⟨a, e, q⟩ := h; exact ⟨a, e, q.reW hp⟩
/-- a new list of one's own -/
theorem Env.newLst {p : Addr} {vs : List V} {ds : List Dat} (E : Env K L S0 Γ Θ σ τ S) (h : S.h p = none) (q : DqAll S.b vs ds) : Env K L S0 Γ (.fr ds :: Θ) σ (.ref p :: τ) ⟨S.b, upd S.h p (.lst vs)⟩ := by
  have g := gr_new (o := .lst vs) h E.sub
  have nb := E.fresh h
  have n0 := E.fresh0 h
  obtain ⟨w, h1, h2⟩ := E.ok
  refine ⟨E.gr.trans0 g, sub_new h E.sub, E.len, fun b => if b = p then some (.inr Θ.length) else w b, fun i c e => ((h1 i c e).reW h).grow g, ⟨p, rfl, ⟨nb, if_pos rfl, vs, upd_same, q⟩, n0⟩, h2.imp fun _ _ _ _ z => (z.reW h).grow g⟩
/-- a new object of one's own -/
theorem Env.newOb {p : Addr} {o : HO} (E : Env K L S0 Γ Θ σ τ S) (h : S.h p = none) : Env K L S0 Γ (.ob o :: Θ) σ (.ref p :: τ) ⟨S.b, upd S.h p o⟩ := by
  have g := gr_new (o := o) h E.sub
  have nb := E.fresh h
  have n0 := E.fresh0 h
  obtain ⟨w, h1, h2⟩ := E.ok
  refine ⟨E.gr.trans0 g, sub_new h E.sub, E.len, fun b => if b = p then some (.inr Θ.length) else w b, fun i c e => ((h1 i c e).reW h).grow g, ⟨p, rfl, ⟨nb, if_pos rfl, upd_same⟩, n0⟩, h2.imp fun _ _ _ _ z => (z.reW h).grow g⟩
/-- names are forgotten -/
theorem Env.forget {Γ' : List Cell} (E : Env K L S0 Γ Θ σ τ S) (hl : Γ'.length = Γ.length) (h : ∀ (i : Nat) (c : Cell), Γ'[i]? = some c → c = Cell.no ∨ Γ[i]? = some c) : Env K L S0 Γ' Θ σ τ S := by
  obtain ⟨w, h1, h2⟩ := E.ok
  refine ⟨E.gr, E.sub, E.len.trans hl.symm, w, fun i c e => ?_, h2⟩
  rcases h i c e with rfl | q
  · trivial
  · exact h1 i c q
/-- a slot is stored: data -/
theorem Env.setDt {d : Dat} {v : V} {i : Nat} (E : Env K L S0 Γ Θ σ τ S) (hb : ∀ t ∈ Θ, t ≠ .br i) (h : Dq S.b v d) : Env K L S0 (Γ.set i (.dt d)) Θ (σ.set i (some v)) τ S := by
  obtain ⟨w, h1, h2⟩ := E.ok
  refine ⟨E.gr, E.sub, by rw [List.length_set, List.length_set]; exact E.len, w, fun j c e => ?_, h2.imp' fun k u t hk hm q => ?_⟩
  · by_cases q : i = j
    · subst q
      have hi : i < Γ.length := by
        have := (List.getElem?_eq_some_iff.mp e).1
        rw [List.length_set] at this; exact this
      rw [List.getElem?_set_self hi] at e
      cases e
      exact ⟨v, List.getElem?_set_self (by rw [E.len]; exact hi), h⟩
    · rw [List.getElem?_set_ne q] at e
      rw [List.getElem?_set_ne q]
      exact h1 j c e
  · cases t with
    | dt d => exact q
    | fr ds => exact q
    | sc ns => exact q
    | ob pp => exact q
    | li R => exact q
    | br j =>
      show (σ.set i (some v))[j]? = some (some u)
      have q' : σ[j]? = some (some u) := q
      have hij : i ≠ j := fun z => hb _ hm (by rw [z])
      rw [List.getElem?_set_ne hij]; exact q'
end
end Ld
set_option Elab.async false
set_option linter.all false
set_option maxRecDepth 100000
namespace Ld
open PySem PySem.Spec PyProof.Rows L2 Lx
/-! ### lists of one's own: frozen, stored, changed -/
def Cell.ls : Cell → Option (List Dat)
  | .ow ds => some ds
  | .ln ds => some ds
  | _ => none
def Cell.put : Cell → List Dat → Cell
  | .ow _, ds => .ow ds
  | .ln _, ds => .ln ds
  | c, _ => c
section
variable {K : PySem.W.Frag} {L : Addr → Prop} {S0 S S' : Hs} {Γ : List Cell} {Θ : List Tmp} {σ : L2.St} {τ : List V} {w : Wh}
theorem Own.apart {k k' : Sum Nat Nat} {a a' : Addr} {ds ds' : List Dat} (h : Own w k S a ds) (h' : Own w k' S a' ds') (n : k ≠ k') : a ≠ a' := fun e => n (by
  have e1 := h.at_
  have e2 := h'.at_
  rw [e, e2] at e1
  exact (Option.some.inj e1).symm)
theorem Own.apartO {k k' : Sum Nat Nat} {a a' : Addr} {ds : List Dat} {p : HO} (h : Own w k S a ds) (h' : OwnO w k' S a' p) (n : k ≠ k') : a ≠ a' := fun e => n (by
  have e1 := h.at_
  have e2 := h'.at_
  rw [e, e2] at e1
  exact (Option.some.inj e1).symm)
theorem OwnO.apart {k k' : Sum Nat Nat} {a a' : Addr} {p q : HO} (h : OwnO w k S a p) (h' : OwnO w k' S a' q) (n : k ≠ k') : a ≠ a' := fun e => n (by
  have e1 := h.at_
  have e2 := h'.at_
  rw [e, e2] at e1
  exact (Option.some.inj e1).symm)
theorem Own.frzO {k k' : Sum Nat Nat} {a a' : Addr} {ds : List Dat} {p : HO} {vs : List V} (h : Own w k S a ds) (h' : OwnO w k' S a' p) (n : k' ≠ k) : OwnO w k' ⟨upd S.b a (.lst vs), S.h⟩ a' p := by
  have ne : a' ≠ a := (h.apartO h' n.symm).symm
  obtain ⟨nb, e, q⟩ := h'
  exact ⟨by show upd S.b a (.lst vs) a' = none; rw [upd_ne ne]; exact nb, e, q⟩
theorem Own.mutO {k k' : Sum Nat Nat} {a a' : Addr} {ds : List Dat} {p o : HO} (h : Own w k S a ds) (h' : OwnO w k' S a' p) (n : k' ≠ k) : OwnO w k' ⟨S.b, upd S.h a o⟩ a' p := by
  have ne : a' ≠ a := (h.apartO h' n.symm).symm
  obtain ⟨nb, e, q⟩ := h'
  exact ⟨nb, e, by show upd S.h a o a' = _; rw [upd_ne ne]; exact q⟩
theorem Own.frzL {k k' : Sum Nat Nat} {a a' : Addr} {ds : List Dat} {R : Res} {N : Addr → Prop} {vs : List V} (h : Own w k S a ds) (h' : OwnL w k' S a' R N) (n : k' ≠ k) : OwnL w k' ⟨upd S.b a (.lst vs), S.h⟩ a' R N := by
  obtain ⟨F, q, f⟩ := h'
  have ne : ∀ x, F x → x ≠ a := fun x hx e => n (by
    have e1 := h.at_
    rw [← e, (f x hx).2.1] at e1
    exact Option.some.inj e1)
  refine ⟨F, R.frame q (fun c o z => ?_) fun x hx => rfl, fun x hx => ⟨?_, (f x hx).2⟩⟩
  · show upd S.b a (.lst vs) c = some o
    rw [upd_ne (ne_of_none z h.nb)]; exact z
  · show upd S.b a (.lst vs) x = none
    rw [upd_ne (ne x hx)]; exact (f x hx).1
theorem OwnL.mutE {k k' : Sum Nat Nat} {a a' : Addr} {R : Res} {N : Addr → Prop} {o : HO} (ha : w a = some k) (h' : OwnL w k' S a' R N) (n : k' ≠ k) : OwnL w k' ⟨S.b, upd S.h a o⟩ a' R N := by
  obtain ⟨F, q, f⟩ := h'
  refine ⟨F, R.frame q (Same.refl _) fun x hx => ?_, f⟩
  have ne : x ≠ a := fun e => n (by
    rw [← e, (f x hx).2.1] at ha
    exact Option.some.inj ha)
  exact upd_ne ne
theorem Own.mutL {k k' : Sum Nat Nat} {a a' : Addr} {ds : List Dat} {R : Res} {N : Addr → Prop} {o : HO} (h : Own w k S a ds) (h' : OwnL w k' S a' R N) (n : k' ≠ k) : OwnL w k' ⟨S.b, upd S.h a o⟩ a' R N := h'.mutE h.at_ n
theorem OwnO.mutL {k k' : Sum Nat Nat} {a a' : Addr} {p o : HO} {R : Res} {N : Addr → Prop} (h : OwnO w k S a p) (h' : OwnL w k' S a' R N) (n : k' ≠ k) : OwnL w k' ⟨S.b, upd S.h a o⟩ a' R N := h'.mutE h.at_ n
/-- b holds one more list -/
theorem Own.frz {k k' : Sum Nat Nat} {a a' : Addr} {ds ds' : List Dat} {vs : List V} (h : Own w k S a ds) (h' : Own w k' S a' ds') (n : k' ≠ k) : Own w k' ⟨upd S.b a (.lst vs), S.h⟩ a' ds' := by
  have ne : a' ≠ a := h'.apart h n
  obtain ⟨nb, e, us, q, p⟩ := h'
  refine ⟨by show upd S.b a (.lst vs) a' = none; rw [upd_ne ne]; exact nb, e, us, q, dpa_mono (fun c o z => ?_) _ _ p⟩
  show upd S.b a (.lst vs) c = some o
  rw [upd_ne (ne_of_none z h.nb)]; exact z
theorem frz_b {k : Sum Nat Nat} {a : Addr} {ds : List Dat} {vs : List V} (h : Own w k S a ds) : Same S.b (upd S.b a (.lst vs)) := fun c o z => by
  rw [upd_ne (ne_of_none z h.nb)]; exact z
theorem gr_frz {k : Sum Nat Nat} {a : Addr} {ds : List Dat} {vs : List V} (g : Gr L S0 S) (h : Own w k S a ds) (n0 : S0.h a = none) : Gr L S0 ⟨upd S.b a (.lst vs), S.h⟩ :=
  ⟨g.b.trans (frz_b h), g.h, fun c e n => by
    show upd S.b a (.lst vs) c = none
    rw [upd_ne (fun z => n (by rw [z]; exact n0))]
    exact g.own c e n, g.dom⟩
theorem sub_frz {a : Addr} {vs : List V} (s : Same S.b S.h) (h : S.h a = some (.lst vs)) : Same (upd S.b a (.lst vs)) S.h := fun c o e => by
  by_cases q : c = a
  · rw [q, upd_same] at e; rw [q, h]; exact e
  · rw [upd_ne q] at e; exact s c o e
/-- the list under way is now data -/
theorem Env.frzTop {ds : List Dat} {v : V} (E : Env K L S0 Γ (.fr ds :: Θ) σ (v :: τ) S) : ∃ S', S'.h = S.h ∧ Env K L S0 Γ (.dt (.list ds) :: Θ) σ (v :: τ) S' := by
  obtain ⟨w, h1, ⟨a, rfl, o, n0⟩, h2⟩ := E.ok
  obtain ⟨nb, ea, vs, q, p⟩ := id o
  refine ⟨⟨upd S.b a (.lst vs), S.h⟩, rfl, gr_frz E.gr o n0, sub_frz E.sub q, E.len, w, fun i c e => ?_, .lst upd_same (dpa_mono (frz_b o) _ _ p), h2.imp fun k u t hk z => ?_⟩
  · have z := h1 i c e
    cases c with
    | no => trivial
    | dt d => obtain ⟨v, e, r⟩ := z; exact ⟨v, e, dp_mono (frz_b o) _ _ r⟩
    | ow es => obtain ⟨b, e, r, n⟩ := z; exact ⟨b, e, o.frz r (fun z => nomatch z), n⟩
    | ln es => obtain ⟨b, e, r, n⟩ := z; exact ⟨b, e, o.frz r (fun z => nomatch z), n⟩
    | sc ns => obtain ⟨b, e, r⟩ := z; exact ⟨b, e, (frz_b o).seq r⟩
    | ob pp => obtain ⟨b, e, r, n⟩ := z; exact ⟨b, e, o.frzO r (fun z => nomatch z), n⟩
    | li R => obtain ⟨b, e, r⟩ := z; exact ⟨b, e, o.frzL r (fun z => nomatch z)⟩
  · cases t with
    | dt d => exact dp_mono (frz_b o) _ _ z
    | fr es => obtain ⟨b, e, r, n⟩ := z; exact ⟨b, e, o.frz r (fun z => absurd (Sum.inr.inj z) (Nat.ne_of_lt hk)), n⟩
    | br j => exact z
    | sc ns => obtain ⟨b, e, r⟩ := z; exact ⟨b, e, (frz_b o).seq r⟩
    | ob pp => obtain ⟨b, e, r, n⟩ := z; exact ⟨b, e, o.frzO r (fun z => absurd (Sum.inr.inj z) (Nat.ne_of_lt hk)), n⟩
    | li R => obtain ⟨b, e, r⟩ := z; exact ⟨b, e, o.frzL r (fun z => absurd (Sum.inr.inj z) (Nat.ne_of_lt hk))⟩
/-- .. the list in slot i -/
theorem Env.frzSlot {ds : List Dat} {i : Nat} (E : Env K L S0 Γ Θ σ τ S) (hi : Γ[i]? = some (.ow ds)) : ∃ S', S'.h = S.h ∧ Env K L S0 (Γ.set i (.dt (.list ds))) Θ σ τ S' := by
  obtain ⟨w, h1, h2⟩ := E.ok
  obtain ⟨a, ei, o, n0⟩ := h1 i _ hi
  obtain ⟨nb, ea, vs, q, p⟩ := id o
  refine ⟨⟨upd S.b a (.lst vs), S.h⟩, rfl, gr_frz E.gr o n0, sub_frz E.sub q, by rw [List.length_set]; exact E.len, w, fun j c e => ?_, h2.imp fun k u t hk z => ?_⟩
  · by_cases hj : i = j
    · subst hj
      rw [List.getElem?_set_self (List.getElem?_eq_some_iff.mp hi).1] at e
      cases e
      exact ⟨_, ei, .lst upd_same (dpa_mono (frz_b o) _ _ p)⟩
    · rw [List.getElem?_set_ne hj] at e
      have z := h1 j c e
      cases c with
      | no => trivial
      | dt d => obtain ⟨v, e, r⟩ := z; exact ⟨v, e, dp_mono (frz_b o) _ _ r⟩
      | ow es => obtain ⟨b, e, r, n⟩ := z; exact ⟨b, e, o.frz r (fun z => hj (Sum.inl.inj z).symm), n⟩
      | ln es => obtain ⟨b, e, r, n⟩ := z; exact ⟨b, e, o.frz r (fun z => hj (Sum.inl.inj z).symm), n⟩
      | sc ns => obtain ⟨b, e, r⟩ := z; exact ⟨b, e, (frz_b o).seq r⟩
      | ob pp => obtain ⟨b, e, r, n⟩ := z; exact ⟨b, e, o.frzO r (fun z => hj (Sum.inl.inj z).symm), n⟩
      | li R => obtain ⟨b, e, r⟩ := z; exact ⟨b, e, o.frzL r (fun z => hj (Sum.inl.inj z).symm)⟩
  · cases t with
    | dt d => exact dp_mono (frz_b o) _ _ z
    | fr es => obtain ⟨b, e, r, n⟩ := z; exact ⟨b, e, o.frz r (fun z => nomatch z), n⟩
    | br j => exact z
    | sc ns => obtain ⟨b, e, r⟩ := z; exact ⟨b, e, (frz_b o).seq r⟩
    | ob pp => obtain ⟨b, e, r, n⟩ := z; exact ⟨b, e, o.frzO r (fun z => nomatch z), n⟩
    | li R => obtain ⟨b, e, r⟩ := z; exact ⟨b, e, o.frzL r (fun z => nomatch z)⟩
/-- a slot is stored: a new list -/
theorem Env.setFr {ds : List Dat} {v : V} {i : Nat} (E : Env K L S0 Γ (.fr ds :: Θ) σ (v :: τ) S) (hb : ∀ t ∈ Θ, t ≠ .br i) : Env K L S0 (Γ.set i (.ow ds)) Θ (σ.set i (some v)) τ S := by
  obtain ⟨w, h1, ⟨a, rfl, o, n0⟩, h2⟩ := E.ok
  have re : ∀ {k : Sum Nat Nat} {b : Addr} {es : List Dat}, Own w k S b es → k ≠ .inr Θ.length → Own (fun c => if c = a then some (.inl i) else w c) k S b es := fun {k b es} r n =>
    ⟨r.nb, by show (if b = a then some (Sum.inl i) else w b) = some k; rw [if_neg (r.apart o n)]; exact r.at_, r.is⟩
  have reO : ∀ {k : Sum Nat Nat} {b : Addr} {es : HO}, OwnO w k S b es → k ≠ .inr Θ.length → OwnO (fun c => if c = a then some (.inl i) else w c) k S b es := fun {k b es} r n =>
    ⟨r.nb, by show (if b = a then some (Sum.inl i) else w b) = some k; rw [if_neg (o.apartO r n.symm).symm]; exact r.at_, r.is⟩
  have reL : ∀ {k : Sum Nat Nat} {b : Addr} {R : Res} {N : Addr → Prop}, OwnL w k S b R N → k ≠ .inr Θ.length → OwnL (fun c => if c = a then some (.inl i) else w c) k S b R N := fun {k b R N} r n =>
    r.reK (fun x hx => by show (if x = a then some (Sum.inl i) else w x) = some k; rw [if_neg (fun e => n (by rw [e, o.at_] at hx; exact (Option.some.inj hx).symm))]; exact hx) fun _ h => h
  refine ⟨E.gr, E.sub, by rw [List.length_set, List.length_set]; exact E.len, fun c => if c = a then some (.inl i) else w c, fun j c e => ?_, h2.imp' fun k u t hk hm z => ?_⟩
  · by_cases hj : i = j
    · subst hj
      have hi : i < Γ.length := by
        have := (List.getElem?_eq_some_iff.mp e).1
        rw [List.length_set] at this; exact this
      rw [List.getElem?_set_self hi] at e
      cases e
      exact ⟨a, List.getElem?_set_self (by rw [E.len]; exact hi), ⟨o.nb, if_pos rfl, o.is⟩, n0⟩
    · rw [List.getElem?_set_ne hj] at e
      rw [List.getElem?_set_ne hj]
      have z := h1 j c e
      cases c with
      | no => trivial
      | dt d => exact z
      | ow es => obtain ⟨b, e, r, n⟩ := z; exact ⟨b, e, re r (fun z => nomatch z), n⟩
      | ln es => obtain ⟨b, e, r, n⟩ := z; exact ⟨b, e, re r (fun z => nomatch z), n⟩
      | sc ns => exact z
      | ob pp => obtain ⟨b, e, r, n⟩ := z; exact ⟨b, e, reO r (fun z => nomatch z), n⟩
      | li R => obtain ⟨b, e, r⟩ := z; exact ⟨b, e, reL r (fun z => nomatch z)⟩
  · cases t with
    | dt d => exact z
    | fr es => obtain ⟨b, e, r, n⟩ := z; exact ⟨b, e, re r (fun z => absurd (Sum.inr.inj z) (Nat.ne_of_lt hk)), n⟩
    | sc ns => exact z
    | ob pp => obtain ⟨b, e, r, n⟩ := z; exact ⟨b, e, reO r (fun z => absurd (Sum.inr.inj z) (Nat.ne_of_lt hk)), n⟩
    | li R => obtain ⟨b, e, r⟩ := z; exact ⟨b, e, reL r (fun z => absurd (Sum.inr.inj z) (Nat.ne_of_lt hk))⟩
    | br j =>
      show (σ.set i (some (V.ref a)))[j]? = some (some u)
      have hij : i ≠ j := fun z => hb _ hm (by rw [z])
      rw [List.getElem?_set_ne hij]; exact z
/-- .. a new object -/
theorem Env.setOb {ds : HO} {v : V} {i : Nat} (E : Env K L S0 Γ (.ob ds :: Θ) σ (v :: τ) S) (hb : ∀ t ∈ Θ, t ≠ .br i) : Env K L S0 (Γ.set i (.ob ds)) Θ (σ.set i (some v)) τ S := by
  obtain ⟨w, h1, ⟨a, rfl, o, n0⟩, h2⟩ := E.ok
  have re : ∀ {k : Sum Nat Nat} {b : Addr} {es : List Dat}, Own w k S b es → k ≠ .inr Θ.length → Own (fun c => if c = a then some (.inl i) else w c) k S b es := fun {k b es} r n =>
    ⟨r.nb, by show (if b = a then some (Sum.inl i) else w b) = some k; rw [if_neg (r.apartO o n)]; exact r.at_, r.is⟩
  have reO : ∀ {k : Sum Nat Nat} {b : Addr} {es : HO}, OwnO w k S b es → k ≠ .inr Θ.length → OwnO (fun c => if c = a then some (.inl i) else w c) k S b es := fun {k b es} r n =>
    ⟨r.nb, by show (if b = a then some (Sum.inl i) else w b) = some k; rw [if_neg (r.apart o n)]; exact r.at_, r.is⟩
  have reL : ∀ {k : Sum Nat Nat} {b : Addr} {R : Res} {N : Addr → Prop}, OwnL w k S b R N → k ≠ .inr Θ.length → OwnL (fun c => if c = a then some (.inl i) else w c) k S b R N := fun {k b R N} r n =>
    r.reK (fun x hx => by show (if x = a then some (Sum.inl i) else w x) = some k; rw [if_neg (fun e => n (by rw [e, o.at_] at hx; exact (Option.some.inj hx).symm))]; exact hx) fun _ h => h
  refine ⟨E.gr, E.sub, by rw [List.length_set, List.length_set]; exact E.len, fun c => if c = a then some (.inl i) else w c, fun j c e => ?_, h2.imp' fun k u t hk hm z => ?_⟩
  · by_cases hj : i = j
    · subst hj
      have hi : i < Γ.length := by
        have := (List.getElem?_eq_some_iff.mp e).1
        rw [List.length_set] at this; exact this
      rw [List.getElem?_set_self hi] at e
      cases e
      exact ⟨a, List.getElem?_set_self (by rw [E.len]; exact hi), ⟨o.nb, if_pos rfl, o.is⟩, n0⟩
    · rw [List.getElem?_set_ne hj] at e
      rw [List.getElem?_set_ne hj]
      have z := h1 j c e
      cases c with
      | no => trivial
      | dt d => exact z
      | ow es => obtain ⟨b, e, r, n⟩ := z; exact ⟨b, e, re r (fun z => nomatch z), n⟩
      | ln es => obtain ⟨b, e, r, n⟩ := z; exact ⟨b, e, re r (fun z => nomatch z), n⟩
      | sc ns => exact z
      | ob pp => obtain ⟨b, e, r, n⟩ := z; exact ⟨b, e, reO r (fun z => nomatch z), n⟩
      | li R => obtain ⟨b, e, r⟩ := z; exact ⟨b, e, reL r (fun z => nomatch z)⟩
  · cases t with
    | dt d => exact z
    | fr es => obtain ⟨b, e, r, n⟩ := z; exact ⟨b, e, re r (fun z => absurd (Sum.inr.inj z) (Nat.ne_of_lt hk)), n⟩
    | sc ns => exact z
    | ob pp => obtain ⟨b, e, r, n⟩ := z; exact ⟨b, e, reO r (fun z => absurd (Sum.inr.inj z) (Nat.ne_of_lt hk)), n⟩
    | li R => obtain ⟨b, e, r⟩ := z; exact ⟨b, e, reL r (fun z => absurd (Sum.inr.inj z) (Nat.ne_of_lt hk))⟩
    | br j =>
      show (σ.set i (some (V.ref a)))[j]? = some (some u)
      have hij : i ≠ j := fun z => hb _ hm (by rw [z])
      rw [List.getElem?_set_ne hij]; exact z
/-- .. a new resource -/
theorem Env.setLi {R : Res} {v : V} {i : Nat} (E : Env K L S0 Γ (.li R :: Θ) σ (v :: τ) S) (hb : ∀ t ∈ Θ, t ≠ .br i) : Env K L S0 (Γ.set i (.li R)) Θ (σ.set i (some v)) τ S := by
  classical
  obtain ⟨w, h1, ⟨a, rfl, o⟩, h2⟩ := E.ok
  let w' : Wh := fun c => if w c = some (.inr Θ.length) then some (.inl i) else w c
  have re : ∀ {k : Sum Nat Nat} {x : Addr}, w x = some k → k ≠ .inr Θ.length → w' x = some k := fun {k x} e n => by
    show (if w x = some (.inr Θ.length) then some (.inl i) else w x) = some k
    rw [if_neg (fun z => n (by rw [e] at z; exact Option.some.inj z))]; exact e
  refine ⟨E.gr, E.sub, by rw [List.length_set, List.length_set]; exact E.len, w', fun j c e => ?_, h2.imp' fun k u t hk hm z => ?_⟩
  · by_cases hj : i = j
    · subst hj
      have hi : i < Γ.length := by
        have := (List.getElem?_eq_some_iff.mp e).1
        rw [List.length_set] at this; exact this
      rw [List.getElem?_set_self hi] at e
      cases e
      exact ⟨a, List.getElem?_set_self (by rw [E.len]; exact hi), o.reK (fun x hx => if_pos hx) fun x hx => .inl hx⟩
    · rw [List.getElem?_set_ne hj] at e
      rw [List.getElem?_set_ne hj]
      have z := h1 j c e
      cases c with
      | no => trivial
      | dt d => exact z
      | ow es => obtain ⟨b, e, r, n⟩ := z; exact ⟨b, e, ⟨r.nb, re r.at_ (fun z => nomatch z), r.is⟩, n⟩
      | ln es => obtain ⟨b, e, r, n⟩ := z; exact ⟨b, e, ⟨r.nb, re r.at_ (fun z => nomatch z), r.is⟩, n⟩
      | sc ns => exact z
      | ob pp => obtain ⟨b, e, r, n⟩ := z; exact ⟨b, e, ⟨r.nb, re r.at_ (fun z => nomatch z), r.is⟩, n⟩
      | li R => obtain ⟨b, e, r⟩ := z; exact ⟨b, e, r.reK (fun x hx => re hx (fun z => nomatch z)) fun _ h => h⟩
  · have nk : ∀ {k : Nat}, k < Θ.length → (Sum.inr k : Sum Nat Nat) ≠ .inr Θ.length := fun hk z => absurd (Sum.inr.inj z) (Nat.ne_of_lt hk)
    cases t with
    | dt d => exact z
    | fr es => obtain ⟨b, e, r, n⟩ := z; exact ⟨b, e, ⟨r.nb, re r.at_ (nk hk), r.is⟩, n⟩
    | sc ns => exact z
    | ob pp => obtain ⟨b, e, r, n⟩ := z; exact ⟨b, e, ⟨r.nb, re r.at_ (nk hk), r.is⟩, n⟩
    | li R => obtain ⟨b, e, r⟩ := z; exact ⟨b, e, r.reK (fun x hx => re hx (nk hk)) fun _ h => h⟩
    | br j =>
      show (σ.set i (some (V.ref a)))[j]? = some (some u)
      have hij : i ≠ j := fun z => hb _ hm (by rw [z])
      rw [List.getElem?_set_ne hij]; exact z
theorem Own.mut {k k' : Sum Nat Nat} {a a' : Addr} {ds ds' : List Dat} {o : HO} (h : Own w k S a ds) (h' : Own w k' S a' ds') (n : k' ≠ k) : Own w k' ⟨S.b, upd S.h a o⟩ a' ds' := by
  have ne : a' ≠ a := h'.apart h n
  obtain ⟨nb, e, us, q, p⟩ := h'
  exact ⟨nb, e, us, by show upd S.h a o a' = _; rw [upd_ne ne]; exact q, p⟩
theorem sub_mut {a : Addr} {o : HO} (s : Same S.b S.h) (nb : S.b a = none) : Same S.b (upd S.h a o) := fun c u e => by
  rw [upd_ne (ne_of_none e nb)]; exact s c u e
/-- the list in slot i is changed -/
theorem Env.mutSlot {c : Cell} {ds : List Dat} {i : Nat} (E : Env K L S0 Γ Θ σ τ S) (hi : Γ[i]? = some c) (hc : c.ls = some ds) :
    ∃ a vs, σ[i]? = some (some (.ref a)) ∧ S.h a = some (.lst vs) ∧ DqAll S.b vs ds ∧ ∀ vs' ds', DqAll S.b vs' ds' → Env K L S0 (Γ.set i (c.put ds')) Θ σ τ ⟨S.b, upd S.h a (.lst vs')⟩ := by
  obtain ⟨w, h1, h2⟩ := E.ok
  have hil := (List.getElem?_eq_some_iff.mp hi).1
  obtain ⟨a, ei, o, n0⟩ : ∃ a, σ[i]? = some (some (.ref a)) ∧ Own w (.inl i) S a ds ∧ (S0.h a = none ∨ L a) := by
    have z := h1 i c hi
    cases c with
    | no => cases hc
    | dt d => cases hc
    | ow es => cases hc; obtain ⟨a, e, r, n⟩ := z; exact ⟨a, e, r, .inl n⟩
    | ln es => cases hc; obtain ⟨a, e, r, n⟩ := z; exact ⟨a, e, r, .inr n⟩
    | sc ns => cases hc
    | ob pp => cases hc
    | li R => cases hc
  obtain ⟨nb, ea, vs, q, p⟩ := id o
  refine ⟨a, vs, ei, q, p, fun vs' ds' p' => ⟨⟨E.gr.b, fun b u n e => ?_, E.gr.own, fun b n => ?_⟩, sub_mut E.sub nb, by rw [List.length_set]; exact E.len, w, fun j c' e => ?_, h2.imp fun k u t hk z => ?_⟩⟩
  · show upd S.h a (.lst vs') b = some u
    have ne : b ≠ a := fun z => by
      subst z
      rcases n0 with z | z
      · rw [z] at e; cases e
      · exact n z
    rw [upd_ne ne]; exact E.gr.h b u n e
  · show upd S.h a (.lst vs') b ≠ none
    by_cases z : b = a
    · rw [z, upd_same]; exact fun z => nomatch z
    · rw [upd_ne z]; exact E.gr.dom b n
  · by_cases hj : i = j
    · subst hj
      rw [List.getElem?_set_self hil] at e
      have ow' : Own w (.inl i) ⟨S.b, upd S.h a (.lst vs')⟩ a ds' := ⟨nb, ea, vs', upd_same, p'⟩
      have z := h1 i c hi
      cases c with
      | no => cases hc
      | dt d => cases hc
      | ow es => cases e; obtain ⟨b, e, r, n⟩ := z; rw [ei] at e; cases e; exact ⟨_, ei, ow', n⟩
      | ln es => cases e; obtain ⟨b, e, r, n⟩ := z; rw [ei] at e; cases e; exact ⟨_, ei, ow', n⟩
      | sc ns => cases hc
      | ob pp => cases hc
      | li R => cases hc
    · rw [List.getElem?_set_ne hj] at e
      have z := h1 j c' e
      cases c' with
      | no => trivial
      | dt d => exact z
      | ow es => obtain ⟨b, e, r, n⟩ := z; exact ⟨b, e, o.mut r (fun z => hj (Sum.inl.inj z).symm), n⟩
      | ln es => obtain ⟨b, e, r, n⟩ := z; exact ⟨b, e, o.mut r (fun z => hj (Sum.inl.inj z).symm), n⟩
      | sc ns => exact z
      | ob pp => obtain ⟨b, e, r, n⟩ := z; exact ⟨b, e, o.mutO r (fun z => hj (Sum.inl.inj z).symm), n⟩
      | li R => obtain ⟨b, e, r⟩ := z; exact ⟨b, e, o.mutL r (fun z => hj (Sum.inl.inj z).symm)⟩
  · cases t with
    | dt d => exact z
    | fr es => obtain ⟨b, e, r, n⟩ := z; exact ⟨b, e, o.mut r (fun z => nomatch z), n⟩
    | br j => exact z
    | sc ns => exact z
    | ob pp => obtain ⟨b, e, r, n⟩ := z; exact ⟨b, e, o.mutO r (fun z => nomatch z), n⟩
    | li R => obtain ⟨b, e, r⟩ := z; exact ⟨b, e, o.mutL r (fun z => nomatch z)⟩
theorem OwnO.mut {k k' : Sum Nat Nat} {a a' : Addr} {ds' : List Dat} {p o : HO} (h : OwnO w k S a p) (h' : Own w k' S a' ds') (n : k' ≠ k) : Own w k' ⟨S.b, upd S.h a o⟩ a' ds' := by
  have ne : a' ≠ a := h'.apartO h n
  obtain ⟨nb, e, us, q, p⟩ := h'
  exact ⟨nb, e, us, by show upd S.h a o a' = _; rw [upd_ne ne]; exact q, p⟩
theorem OwnO.mutO {k k' : Sum Nat Nat} {a a' : Addr} {p p' o : HO} (h : OwnO w k S a p) (h' : OwnO w k' S a' p') (n : k' ≠ k) : OwnO w k' ⟨S.b, upd S.h a o⟩ a' p' := by
  have ne : a' ≠ a := h'.apart h n
  obtain ⟨nb, e, q⟩ := h'
  exact ⟨nb, e, by show upd S.h a o a' = _; rw [upd_ne ne]; exact q⟩
/-- the object in slot i is changed -/
theorem Env.mutOb {p : HO} {i : Nat} (E : Env K L S0 Γ Θ σ τ S) (hi : Γ[i]? = some (.ob p)) :
    ∃ a, σ[i]? = some (some (.ref a)) ∧ S.h a = some p ∧ ∀ p', Env K L S0 (Γ.set i (.ob p')) Θ σ τ ⟨S.b, upd S.h a p'⟩ := by
  obtain ⟨w, h1, h2⟩ := E.ok
  have hil := (List.getElem?_eq_some_iff.mp hi).1
  obtain ⟨a, ei, o, n0⟩ := h1 i _ hi
  obtain ⟨nb, ea, q⟩ := id o
  refine ⟨a, ei, q, fun p' => ⟨⟨E.gr.b, fun b u n e => ?_, E.gr.own, fun b n => ?_⟩, sub_mut E.sub nb, by rw [List.length_set]; exact E.len, w, fun j c' e => ?_, h2.imp fun k u t hk z => ?_⟩⟩
  · show upd S.h a p' b = some u
    rw [upd_ne (ne_of_none e n0)]; exact E.gr.h b u n e
  · show upd S.h a p' b ≠ none
    by_cases z : b = a
    · rw [z, upd_same]; exact fun z => nomatch z
    · rw [upd_ne z]; exact E.gr.dom b n
  · by_cases hj : i = j
    · subst hj
      rw [List.getElem?_set_self hil] at e
      cases e
      exact ⟨a, ei, ⟨nb, ea, upd_same⟩, n0⟩
    · rw [List.getElem?_set_ne hj] at e
      have z := h1 j c' e
      cases c' with
      | no => trivial
      | dt d => exact z
      | ow es => obtain ⟨b, e, r, n⟩ := z; exact ⟨b, e, o.mut r (fun z => hj (Sum.inl.inj z).symm), n⟩
      | ln es => obtain ⟨b, e, r, n⟩ := z; exact ⟨b, e, o.mut r (fun z => hj (Sum.inl.inj z).symm), n⟩
      | sc ns => exact z
      | ob es => obtain ⟨b, e, r, n⟩ := z; exact ⟨b, e, o.mutO r (fun z => hj (Sum.inl.inj z).symm), n⟩
      | li R => obtain ⟨b, e, r⟩ := z; exact ⟨b, e, o.mutL r (fun z => hj (Sum.inl.inj z).symm)⟩
  · cases t with
    | dt d => exact z
    | fr es => obtain ⟨b, e, r, n⟩ := z; exact ⟨b, e, o.mut r (fun z => nomatch z), n⟩
    | br j => exact z
    | sc ns => exact z
    | ob es => obtain ⟨b, e, r, n⟩ := z; exact ⟨b, e, o.mutO r (fun z => nomatch z), n⟩
    | li R => obtain ⟨b, e, r⟩ := z; exact ⟨b, e, o.mutL r (fun z => nomatch z)⟩
theorem Env.ob_at {p : HO} {i : Nat} {v : V} (E : Env K L S0 Γ (.br i :: Θ) σ (v :: τ) S) (hi : Γ[i]? = some (.ob p)) : ∃ a, v = .ref a ∧ S.h a = some p := by
  obtain ⟨w, h1, z, h2⟩ := E.ok
  obtain ⟨a, e, o, n⟩ := h1 i _ hi
  have z' : σ[i]? = some (some v) := z
  rw [z'] at e; cases e
  exact ⟨a, rfl, o.is⟩
/-- the new list under way is changed -/
theorem Env.mutTop {ds : List Dat} {v : V} (E : Env K L S0 Γ (.fr ds :: Θ) σ (v :: τ) S) :
    ∃ a vs, v = .ref a ∧ S.h a = some (.lst vs) ∧ DqAll S.b vs ds ∧ ∀ vs' ds', DqAll S.b vs' ds' → Env K L S0 Γ (.fr ds' :: Θ) σ (v :: τ) ⟨S.b, upd S.h a (.lst vs')⟩ := by
  obtain ⟨w, h1, ⟨a, rfl, o, n0⟩, h2⟩ := E.ok
  obtain ⟨nb, ea, vs, q, p⟩ := id o
  refine ⟨a, vs, rfl, q, p, fun vs' ds' p' => ⟨⟨E.gr.b, fun b u n e => ?_, E.gr.own, fun b n => ?_⟩, sub_mut E.sub nb, E.len, w, fun j c' e => ?_, ⟨a, rfl, ⟨nb, ea, vs', upd_same, p'⟩, n0⟩, h2.imp fun k u t hk z => ?_⟩⟩
  · show upd S.h a (.lst vs') b = some u
    rw [upd_ne (ne_of_none e n0)]; exact E.gr.h b u n e
  · show upd S.h a (.lst vs') b ≠ none
    by_cases z : b = a
    · rw [z, upd_same]; exact fun z => nomatch z
    · rw [upd_ne z]; exact E.gr.dom b n
  · have z := h1 j c' e
    cases c' with
    | no => trivial
    | dt d => exact z
    | ow es => obtain ⟨b, e, r, n⟩ := z; exact ⟨b, e, o.mut r (fun z => nomatch z), n⟩
    | ln es => obtain ⟨b, e, r, n⟩ := z; exact ⟨b, e, o.mut r (fun z => nomatch z), n⟩
    | sc ns => exact z
    | ob pp => obtain ⟨b, e, r, n⟩ := z; exact ⟨b, e, o.mutO r (fun z => nomatch z), n⟩
    | li R => obtain ⟨b, e, r⟩ := z; exact ⟨b, e, o.mutL r (fun z => nomatch z)⟩
  · cases t with
    | dt d => exact z
    | fr es => obtain ⟨b, e, r, n⟩ := z; exact ⟨b, e, o.mut r (fun z => absurd (Sum.inr.inj z) (Nat.ne_of_lt hk)), n⟩
    | br j => exact z
    | sc ns => exact z
    | ob pp => obtain ⟨b, e, r, n⟩ := z; exact ⟨b, e, o.mutO r (fun z => absurd (Sum.inr.inj z) (Nat.ne_of_lt hk)), n⟩
    | li R => obtain ⟨b, e, r⟩ := z; exact ⟨b, e, o.mutL r (fun z => absurd (Sum.inr.inj z) (Nat.ne_of_lt hk))⟩
end
/-! ### a value under way, read as data -/
def rd (Γ : List Cell) : Tmp → Dat → Prop
  | .dt e, d => e = d
  | .fr ds, d => d = .list ds
  | .br i, d => Γ[i]? = some (.dt d) ∨ ∃ ds, d = .list ds ∧ (Γ[i]? = some (.ow ds) ∨ Γ[i]? = some (.ln ds))
  | .sc _, _ => False
  | .ob _, _ => False
  | .li _, _ => False
section
variable {K : PySem.W.Frag} {L : Addr → Prop} {S0 S S' : Hs} {Γ : List Cell} {Θ : List Tmp} {σ : L2.St} {τ : List V} {w : Wh}
theorem Own.dp {k : Sum Nat Nat} {a : Addr} {ds : List Dat} (h : Own w k S a ds) (sub : Same S.b S.h) : Dq S.h (.ref a) (.list ds) := by
  obtain ⟨_, _, vs, q, p⟩ := h
  exact .lst q (dpa_mono sub _ _ p)
theorem Env.rd {t : Tmp} {v : V} {d : Dat} (E : Env K L S0 Γ (t :: Θ) σ (v :: τ) S) (h : rd Γ t d) : Dq S.h v d := by
  obtain ⟨w, h1, z, h2⟩ := E.ok
  cases t with
  | dt e => cases h; exact dp_mono E.sub _ _ z
  | fr ds => cases h; obtain ⟨a, rfl, o, n⟩ := z; exact o.dp E.sub
  | sc ns => exact h.elim
  | ob pp => exact h.elim
  | li R => exact h.elim
  | br i =>
    have z' : σ[i]? = some (some v) := z
    rcases h with h | ⟨ds, rfl, h⟩
    · obtain ⟨u, e, q⟩ := h1 i _ h
      rw [z'] at e; cases e
      exact dp_mono E.sub _ _ q
    · rcases h with h | h
      · obtain ⟨a, e, o, _⟩ := h1 i _ h
        rw [z'] at e; cases e
        exact o.dp E.sub
      · obtain ⟨a, e, o, _⟩ := h1 i _ h
        rw [z'] at e; cases e
        exact o.dp E.sub
theorem Env.dt {v : V} {d : Dat} (E : Env K L S0 Γ (.dt d :: Θ) σ (v :: τ) S) : Dq S.b v d := let ⟨_, z⟩ := E.top; z
end
theorem dp_int {H : Hp} {v : V} {i : Int} (h : Dq H v (.int i)) : v = .int i := by cases h; rfl
theorem dp_bool {H : Hp} {v : V} {i : Bool} (h : Dq H v (.bool i)) : v = .bl i := by cases h; rfl
theorem dp_none {H : Hp} {v : V} (h : Dq H v .none) : v = .non := by cases h; rfl
theorem dp_list {H : Hp} {v : V} {ds : List Dat} (h : Dq H v (.list ds)) : ∃ a xs, v = .ref a ∧ H a = some (.lst xs) ∧ DqAll H xs ds := by cases h with | lst a b => exact ⟨_, _, rfl, a, b⟩
theorem dp_tup {H : Hp} {v : V} {ds : List Dat} (h : Dq H v (.tuple ds)) : ∃ a o xs, v = .ref a ∧ o.dict = none ∧ H a = some (.frz o (.tup xs)) ∧ DqAll H xs ds := by cases h with | tup d a b => exact ⟨_, _, _, rfl, d, a, b⟩
/-! ### judgements over the cells -/
section
variable (K : PySem.W.Frag) (Γ : List Cell) (Θ : List Tmp)
def VE (t : TE) (Q : List Cell → Tmp → Prop) : Prop := ∀ (L : Addr → Prop) (S0 : Hs) (σ : L2.St) (τ : List V) (S : Hs) (Qv : VK), Env K L S0 Γ Θ σ τ S →
  (∀ Γ' S' v c, Env K L S0 Γ' (c :: Θ) σ (v :: τ) S' → Q Γ' c → Qv v S'.h) → t σ S.h Qv
/-- .. with data at the end -/
def VD (t : TE) (Q : List Cell → Dat → Prop) : Prop := ∀ (L : Addr → Prop) (S0 : Hs) (σ : L2.St) (τ : List V) (S : Hs) (Qv : VK), Env K L S0 Γ Θ σ τ S →
  (∀ Γ' S' v d, Env K L S0 Γ' (.dt d :: Θ) σ (v :: τ) S' → Q Γ' d → Qv v S'.h) → t σ S.h Qv
def VT (t : TT) (Q : List Cell → Bool → Prop) : Prop := ∀ (L : Addr → Prop) (S0 : Hs) (σ : L2.St) (τ : List V) (S : Hs) (Qv : Bool → Hp → Prop), Env K L S0 Γ Θ σ τ S →
  (∀ Γ' S' b, Env K L S0 Γ' Θ σ τ S' → Q Γ' b → Qv b S'.h) → t σ S.h Qv
/-- a part of a slice -/
def VO (t : TO) (Q : List Cell → Option Int → Prop) : Prop := ∀ (L : Addr → Prop) (S0 : Hs) (σ : L2.St) (τ : List V) (S : Hs) (Qv : Option Int → Hp → Prop), Env K L S0 Γ Θ σ τ S →
  (∀ Γ' S' b, Env K L S0 Γ' Θ σ τ S' → Q Γ' b → Qv b S'.h) → t σ S.h Qv
structure DE where
  nx : List Cell → Prop
  rt : List Cell → Dat → Prop
  bk : List Cell → Prop := fun _ => False
  ct : List Cell → Prop := fun _ => False
def VS (t : TS) (R : DE) : Prop := ∀ (L : Addr → Prop) (S0 : Hs) (σ : L2.St) (τ : List V) (S : Hs) (D : Ends), Env K L S0 Γ Θ σ τ S →
  (∀ Γ' σ' S', Env K L S0 Γ' Θ σ' τ S' → R.nx Γ' → D.nx σ' S'.h) → (∀ Γ' σ' S' v d, Env K L S0 Γ' Θ σ' τ S' → Dq S'.b v d → R.rt Γ' d → D.rt v S'.h) →
  (∀ Γ' σ' S', Env K L S0 Γ' Θ σ' τ S' → R.bk Γ' → D.bk σ' S'.h) → (∀ Γ' σ' S', Env K L S0 Γ' Θ σ' τ S' → R.ct Γ' → D.ct σ' S'.h) → t D σ S.h
end
/-- what is under way becomes data -/
def Fz (Γ : List Cell) (Q : List Cell → Dat → Prop) : Tmp → Prop
  | .dt d => Q Γ d
  | .fr ds => Q Γ (.list ds)
  | .br i => ∃ ds, Γ[i]? = some (.ow ds) ∧ Q (Γ.set i (.dt (.list ds))) (.list ds)
  | .sc _ => False
  | .ob _ => False
  | .li _ => False
section
variable {K : PySem.W.Frag} {Γ : List Cell} {Θ : List Tmp}
theorem vd_of {t : TE} {Q : List Cell → Dat → Prop} (h : VE K Γ Θ t fun Γ1 c => Fz Γ1 Q c) : VD K Γ Θ t Q := fun L S0 σ τ S Qv E q => h L S0 σ τ S Qv E fun Γ' S' v c E' z => by
  cases c with
  | dt d => exact q Γ' S' v d E' z
  | fr ds =>
    obtain ⟨S2, e, E2⟩ := E'.frzTop
    rw [← e]
    exact q Γ' S2 v _ E2 z
  | br i =>
    obtain ⟨ds, hi, z⟩ := z
    obtain ⟨S2, e, E2⟩ := E'.frzSlot hi
    rw [← e]
    obtain ⟨w, h1, z2, h2⟩ := id E2.ok
    have hl := (List.getElem?_eq_some_iff.mp hi).1
    obtain ⟨u, eu, qu⟩ := h1 i _ (List.getElem?_set_self hl)
    have z2' : σ[i]? = some (some v) := z2
    rw [z2'] at eu; cases eu
    exact q _ S2 v _ (E2.pop.push qu) z
  | sc ns => exact z.elim
  | ob pp => exact z.elim
  | li R => exact z.elim
theorem ve_mono {t : TE} {Q Q' : List Cell → Tmp → Prop} (h : VE K Γ Θ t Q) (f : ∀ Γ c, Q Γ c → Q' Γ c) : VE K Γ Θ t Q' := fun L S0 σ τ S Qv E q => h L S0 σ τ S Qv E fun Γ' S' v c E' z => q Γ' S' v c E' (f _ _ z)
/-! names, constants -/
theorem ve_var {i : Nat} {d : Dat} {Q : List Cell → Tmp → Prop} (h : Γ[i]? = some (.dt d)) (q : Q Γ (.dt d)) : VE K Γ Θ (tVar i) Q := fun L S0 σ τ S Qv E k => by
  obtain ⟨w, h1, h2⟩ := id E.ok
  obtain ⟨v, e, p⟩ := h1 i _ h
  exact ⟨v, e, k Γ S v _ (E.push p) q⟩
theorem ve_own {i : Nat} {c : Cell} {ds : List Dat} {Q : List Cell → Tmp → Prop} (h : Γ[i]? = some c) (hc : c.ls = some ds) (q : Q Γ (.br i)) : VE K Γ Θ (tVar i) Q := fun L S0 σ τ S Qv E k => by
  obtain ⟨a, vs, e, _⟩ := E.mutSlot h hc
  exact ⟨_, e, k Γ S _ _ (E.pushBr e) q⟩
theorem ve_c {v : V} {Q : List Cell → Tmp → Prop} (hs : sc v = true) (q : Q Γ (.dt (vd v))) : VE K Γ Θ (tC v) Q := fun L S0 σ τ S Qv E k => k Γ S v _ (E.push (dp_sc hs)) q
theorem ve_int {i : Int} {Q : List Cell → Tmp → Prop} (q : Q Γ (.dt (.int i))) : VE K Γ Θ (tC (.int i)) Q := ve_c rfl q
theorem ve_bl {i : Bool} {Q : List Cell → Tmp → Prop} (q : Q Γ (.dt (.bool i))) : VE K Γ Θ (tC (.bl i)) Q := ve_c rfl q
theorem ve_non {Q : List Cell → Tmp → Prop} (q : Q Γ (.dt .none)) : VE K Γ Θ (tC .non) Q := ve_c rfl q
theorem ve_str {x : Str} {Q : List Cell → Tmp → Prop} (q : Q Γ (.dt (.str x))) : VE K Γ Θ (tC (.str x)) Q := ve_c rfl q
/-! operators by two values -/
def R2V (K : PySem.W.Frag) (r : R2) (Γ : List Cell) (Θ : List Tmp) (x y : Tmp) (Q : List Cell → Tmp → Prop) : Prop := ∀ (L : Addr → Prop) (S0 : Hs) (σ : L2.St) (τ : List V) (S : Hs) (vx vy : V) (Qv : VK), Env K L S0 Γ (y :: x :: Θ) σ (vy :: vx :: τ) S →
  (∀ Γ' S' v c, Env K L S0 Γ' (c :: Θ) σ (v :: τ) S' → Q Γ' c → Qv v S'.h) → r vx vy S.h Qv
theorem ve_op {r : R2} {ta tb : TE} {Q : List Cell → Tmp → Prop} (h : VE K Γ Θ ta fun Γ1 x => VE K Γ1 (x :: Θ) tb fun Γ2 y => R2V K r Γ2 Θ x y Q) : VE K Γ Θ (tOp r ta tb) Q := fun L S0 σ τ S Qv E k =>
  h L S0 σ τ S _ E fun Γ1 S1 vx x E1 h1 => h1 L S0 σ _ S1 _ E1 fun Γ2 S2 vy y E2 h2 => h2 L S0 σ τ S2 vx vy Qv E2 k
theorem r2_ii {f : Int → Int → Int} {i j : Int} {Q : List Cell → Tmp → Prop} (q : Q Γ (.dt (.int (f i j)))) : R2V K (rI0 fun i j => .int (f i j)) Γ Θ (.dt (.int i)) (.dt (.int j)) Q := fun L S0 σ τ S vx vy Qv E k =>
  ⟨i, j, dp_int E.pop.dt, dp_int E.dt, k Γ S _ _ (E.pop.pop.push (.int _)) q⟩
theorem r2_ib {f : Int → Int → Bool} {i j : Int} {Q : List Cell → Tmp → Prop} (q : Q Γ (.dt (.bool (f i j)))) : R2V K (rI0 fun i j => .bl (f i j)) Γ Θ (.dt (.int i)) (.dt (.int j)) Q := fun L S0 σ τ S vx vy Qv E k =>
  ⟨i, j, dp_int E.pop.dt, dp_int E.dt, k Γ S _ _ (E.pop.pop.push (.bl _)) q⟩
theorem r2_ic {C : Int → Int → Prop} {f : Int → Int → Int} {i j : Int} {Q : List Cell → Tmp → Prop} (hc : C i j) (q : Q Γ (.dt (.int (f i j)))) : R2V K (rI C fun i j => .int (f i j)) Γ Θ (.dt (.int i)) (.dt (.int j)) Q := fun L S0 σ τ S vx vy Qv E k =>
  ⟨i, j, dp_int E.pop.dt, dp_int E.dt, hc, k Γ S _ _ (E.pop.pop.push (.int _)) q⟩
theorem r2_eqD {x y : Tmp} {d e : Dat} {Q : List Cell → Tmp → Prop} (hx : rd Γ x d) (hy : rd Γ y e) (sd : SeqAt.shaped d = true) (se : SeqAt.shaped e = true) (q : Q Γ (.dt (.bool (PyData.eqv d e)))) : R2V K (rEqD K) Γ Θ x y Q := fun L S0 σ τ S vx vy Qv E k =>
  ⟨d, e, dq_dp _ _ (E.pop.rd hx), dq_dp _ _ (E.rd hy), sd, se, k Γ S _ _ (E.pop.pop.push (.bl _)) q⟩
theorem r2_neD {x y : Tmp} {d e : Dat} {Q : List Cell → Tmp → Prop} (hx : rd Γ x d) (hy : rd Γ y e) (sd : SeqAt.shaped d = true) (se : SeqAt.shaped e = true) (q : Q Γ (.dt (.bool (!PyData.eqv d e)))) : R2V K (rNeD K) Γ Θ x y Q := fun L S0 σ τ S vx vy Qv E k =>
  ⟨d, e, dq_dp _ _ (E.pop.rd hx), dq_dp _ _ (E.rd hy), sd, se, k Γ S _ _ (E.pop.pop.push (.bl _)) q⟩
end
end Ld
set_option Elab.async false
set_option linter.all false
set_option maxRecDepth 100000
namespace Ld
open PySem PySem.Spec PyProof.Rows L2 Lx
section
variable {K : PySem.W.Frag} {Γ : List Cell} {Θ : List Tmp}
/-! ### tests -/
theorem vt_mono {t : TT} {Q Q' : List Cell → Bool → Prop} (h : VT K Γ Θ t Q) (f : ∀ Γ b, Q Γ b → Q' Γ b) : VT K Γ Θ t Q' := fun L S0 σ τ S Qv E k => h L S0 σ τ S Qv E fun Γ' S' b E' q => k Γ' S' b E' (f _ _ q)
def AsB (Γ : List Cell) (Q : List Cell → Bool → Prop) : Tmp → Prop
  | .dt (.bool b) => Q Γ b
  | _ => False
theorem asB_ok {L : Addr → Prop} {S0 S : Hs} {σ : L2.St} {τ : List V} {v : V} {c : Tmp} {Q : List Cell → Bool → Prop} (E : Env K L S0 Γ (c :: Θ) σ (v :: τ) S) (h : AsB Γ Q c) : ∃ b, v = .bl b ∧ Q Γ b := by
  cases c with
  | dt d =>
    cases d with
    | bool b => exact ⟨b, dp_bool E.dt, h⟩
    | _ => exact h.elim
  | _ => exact h.elim
theorem vt_B {te : TE} {Q : List Cell → Bool → Prop} (h : VE K Γ Θ te fun Γ1 c => AsB Γ1 Q c) : VT K Γ Θ (tB te) Q := fun L S0 σ τ S Qv E k => h L S0 σ τ S _ E fun Γ' S' v c E' q => by
  obtain ⟨b, e, q⟩ := asB_ok E' q
  exact ⟨b, e, k _ _ _ E'.pop q⟩
theorem vt_test {te : TE} {Q : List Cell → Bool → Prop} (h : VE K Γ Θ te fun Γ1 c => AsB Γ1 Q c) : VT K Γ Θ (tTest te) Q := fun L S0 σ τ S Qv E k => h L S0 σ τ S _ E fun Γ' S' v c E' q => by
  obtain ⟨b, e, q⟩ := asB_ok E' q
  exact ⟨b, e, k _ _ _ E'.pop q⟩
theorem vt_and {t u : TT} {Q : List Cell → Bool → Prop} (h : VT K Γ Θ t fun Γ1 b => (b = true → VT K Γ1 Θ u Q) ∧ (b = false → Q Γ1 false)) : VT K Γ Θ (tAnd t u) Q := fun L S0 σ τ S Qv E k => h L S0 σ τ S _ E fun Γ' S' b E' q => by
  cases b with
  | true => rw [if_pos rfl]; exact q.1 rfl L S0 σ τ S' Qv E' k
  | false => rw [if_neg Bool.false_ne_true]; exact k _ _ _ E' (q.2 rfl)
theorem vt_or {t u : TT} {Q : List Cell → Bool → Prop} (h : VT K Γ Θ t fun Γ1 b => (b = true → Q Γ1 true) ∧ (b = false → VT K Γ1 Θ u Q)) : VT K Γ Θ (tOr t u) Q := fun L S0 σ τ S Qv E k => h L S0 σ τ S _ E fun Γ' S' b E' q => by
  cases b with
  | true => rw [if_pos rfl]; exact k _ _ _ E' (q.1 rfl)
  | false => rw [if_neg Bool.false_ne_true]; exact q.2 rfl L S0 σ τ S' Qv E' k
theorem vt_not {t : TT} {Q : List Cell → Bool → Prop} (h : VT K Γ Θ t fun Γ1 b => Q Γ1 (!b)) : VT K Γ Θ (tNot t) Q := fun L S0 σ τ S Qv E k => h L S0 σ τ S _ E fun Γ' S' b E' q => k _ _ _ E' q
theorem vt_yes {Q : List Cell → Bool → Prop} (h : Q Γ true) : VT K Γ Θ tYes Q := fun L S0 σ τ S Qv E k => k Γ S true E h
theorem ve_ifE {t : TT} {ta tb : TE} {Q : List Cell → Tmp → Prop} (h : VT K Γ Θ t fun Γ1 b => (b = true → VE K Γ1 Θ ta Q) ∧ (b = false → VE K Γ1 Θ tb Q)) : VE K Γ Θ (tIf t ta tb) Q := fun L S0 σ τ S Qv E k => h L S0 σ τ S _ E fun Γ' S' b E' q => by
  cases b with
  | true => rw [if_pos rfl]; exact q.1 rfl L S0 σ τ S' Qv E' k
  | false => rw [if_neg Bool.false_ne_true]; exact q.2 rfl L S0 σ τ S' Qv E' k
theorem ve_andV {ta tb : TE} {Q : List Cell → Tmp → Prop} (h : VE K Γ Θ ta fun Γ1 c => AsB Γ1 (fun Γ1 b => (b = true → VE K Γ1 Θ tb Q) ∧ (b = false → Q Γ1 (.dt (.bool false)))) c) : VE K Γ Θ (tAndV ta tb) Q := fun L S0 σ τ S Qv E k => h L S0 σ τ S _ E fun Γ' S' v c E' q => by
  obtain ⟨b, e, q⟩ := asB_ok E' q
  refine ⟨b, e, ?_⟩
  cases b with
  | true => rw [if_pos rfl]; exact q.1 rfl L S0 σ τ S' Qv E'.pop k
  | false => rw [if_neg Bool.false_ne_true]; exact k _ _ _ _ (E'.pop.push (.bl _)) (q.2 rfl)
theorem ve_orV {ta tb : TE} {Q : List Cell → Tmp → Prop} (h : VE K Γ Θ ta fun Γ1 c => AsB Γ1 (fun Γ1 b => (b = true → Q Γ1 (.dt (.bool true))) ∧ (b = false → VE K Γ1 Θ tb Q)) c) : VE K Γ Θ (tOrV ta tb) Q := fun L S0 σ τ S Qv E k => h L S0 σ τ S _ E fun Γ' S' v c E' q => by
  obtain ⟨b, e, q⟩ := asB_ok E' q
  refine ⟨b, e, ?_⟩
  cases b with
  | true => rw [if_pos rfl]; exact k _ _ _ _ (E'.pop.push (.bl _)) (q.1 rfl)
  | false => rw [if_neg Bool.false_ne_true]; exact q.2 rfl L S0 σ τ S' Qv E'.pop k
theorem ve_notV {ta : TE} {Q : List Cell → Tmp → Prop} (h : VE K Γ Θ ta fun Γ1 c => AsB Γ1 (fun Γ1 b => Q Γ1 (.dt (.bool (!b)))) c) : VE K Γ Θ (tNotV ta) Q := fun L S0 σ τ S Qv E k => h L S0 σ τ S _ E fun Γ' S' v c E' q => by
  obtain ⟨b, e, q⟩ := asB_ok E' q
  exact ⟨b, e, k _ _ _ _ (E'.pop.push (.bl _)) q⟩
theorem ve_chain {r r' : R2} {ta tb tc : TE} {Q : List Cell → Tmp → Prop}
    (h : VE K Γ Θ ta fun Γ1 x => VE K Γ1 (x :: Θ) tb fun Γ2 y => (∃ d, y = .dt d) ∧ R2V K r Γ2 (y :: Θ) x y fun Γ3 z => AsB Γ3 (fun Γ3 b => (b = true → VE K Γ3 (y :: Θ) tc fun Γ4 w => R2V K r' Γ4 Θ y w Q) ∧ (b = false → Q Γ3 (.dt (.bool false)))) z) : VE K Γ Θ (tChain r r' ta tb tc) Q := fun L S0 σ τ S Qv E k =>
  h L S0 σ τ S _ E fun Γ1 S1 vx x E1 h1 => h1 L S0 σ _ S1 _ E1 fun Γ2 S2 vy y E2 ⟨⟨d, ed⟩, h2⟩ => by
    subst ed
    have E3 : Env K L S0 Γ2 (.dt d :: x :: .dt d :: Θ) σ (vy :: vx :: vy :: τ) S2 := by
      obtain ⟨w, g1, g2, g3, g4⟩ := E2.ok
      refine ⟨E2.gr, E2.sub, E2.len, fun a => match w a with
        | some (.inr n) => if n = Θ.length then some (.inr (n + 1)) else some (.inr n)
        | o => o, fun i c e => ?_, g2, ?_, g2, g4.imp fun n u t hn q => ?_⟩
      · have q := g1 i c e
        cases c with
        | no => trivial
        | dt d => exact q
        | ow ds => obtain ⟨a, e, o, n⟩ := q; exact ⟨a, e, ⟨o.nb, by simp only [o.at_], o.is⟩, n⟩
        | ln ds => obtain ⟨a, e, o, n⟩ := q; exact ⟨a, e, ⟨o.nb, by simp only [o.at_], o.is⟩, n⟩
        | sc ns => exact q
        | ob pp => obtain ⟨a, e, o, n⟩ := q; exact ⟨a, e, ⟨o.nb, by simp only [o.at_], o.is⟩, n⟩
        | li R => obtain ⟨a, e, o⟩ := q; exact ⟨a, e, o.reK (fun x ho => by simp only [ho]) fun _ h => h⟩
      · cases x with
        | dt d => exact g3
        | fr ds => obtain ⟨a, e, o, n⟩ := g3; exact ⟨a, e, ⟨o.nb, by simp only [o.at_, if_pos, List.length_cons], o.is⟩, n⟩
        | br i => exact g3
        | sc ns => exact g3
        | ob pp => obtain ⟨a, e, o, n⟩ := g3; exact ⟨a, e, ⟨o.nb, by simp only [o.at_, if_pos, List.length_cons], o.is⟩, n⟩
        | li R => obtain ⟨a, e, o⟩ := g3; exact ⟨a, e, o.reK (fun x ho => by simp only [ho, if_pos, List.length_cons]) fun _ h => h⟩
      · cases t with
        | dt d => exact q
        | fr ds => obtain ⟨a, e, o, m⟩ := q; exact ⟨a, e, ⟨o.nb, by simp only [o.at_, if_neg (Nat.ne_of_lt hn)], o.is⟩, m⟩
        | br i => exact q
        | sc ns => exact q
        | ob pp => obtain ⟨a, e, o, m⟩ := q; exact ⟨a, e, ⟨o.nb, by simp only [o.at_, if_neg (Nat.ne_of_lt hn)], o.is⟩, m⟩
        | li R => obtain ⟨a, e, o⟩ := q; exact ⟨a, e, o.reK (fun x ho => by simp only [ho, if_neg (Nat.ne_of_lt hn)]) fun _ h => h⟩
    refine h2 L S0 σ (vy :: τ) S2 vx vy _ E3 fun Γ3 S3 z c E4 h3 => ?_
    obtain ⟨b, e, q⟩ := asB_ok E4 h3
    refine ⟨b, e, ?_⟩
    cases b with
    | true => rw [if_pos rfl]; exact q.1 rfl L S0 σ (vy :: τ) S3 _ E4.pop fun Γ4 S4 vw w E5 h5 => h5 L S0 σ τ S4 vy vw Qv E5 k
    | false => rw [if_neg Bool.false_ne_true]; exact k _ _ _ _ (E4.pop.pop.push (.bl _)) (q.2 rfl)
/-! ### more operators by values -/
def isNo : Dat → Bool
  | .none => true
  | _ => false
theorem dp_isNo {H : Hp} {v : V} {d : Dat} (h : Dq H v d) : decide (v = .non) = isNo d := by cases h <;> rfl
def rIsN : R2 := fun x y H Q => y = .non ∧ Q (.bl (decide (x = .non))) H
def rNotN : R2 := fun x y H Q => y = .non ∧ Q (.bl (!decide (x = .non))) H
theorem oi_isN {X : Cx} : OpR X (compareOp .Is) rIsN := op_isN
theorem oi_notN {X : Cx} : OpR X (compareOp .IsNot) rNotN := op_notN
theorem r2_isN {x : Tmp} {d : Dat} {Q : List Cell → Tmp → Prop} (hx : rd Γ x d) (q : Q Γ (.dt (.bool (isNo d)))) : R2V K rIsN Γ Θ x (.dt .none) Q := fun L S0 σ τ S vx vy Qv E k =>
  ⟨dp_none E.dt, by rw [dp_isNo (E.pop.rd hx)]; exact k Γ S _ _ (E.pop.pop.push (.bl _)) q⟩
theorem r2_notN {x : Tmp} {d : Dat} {Q : List Cell → Tmp → Prop} (hx : rd Γ x d) (q : Q Γ (.dt (.bool (!isNo d)))) : R2V K rNotN Γ Θ x (.dt .none) Q := fun L S0 σ τ S vx vy Qv E k =>
  ⟨dp_none E.dt, by rw [dp_isNo (E.pop.rd hx)]; exact k Γ S _ _ (E.pop.pop.push (.bl _)) q⟩
def rIsBl : R2 := fun x y H Q => ∃ a b : Bool, x = .bl a ∧ y = .bl b ∧ Q (.bl (decide (a = b))) H
def rNotBl : R2 := fun x y H Q => ∃ a b : Bool, x = .bl a ∧ y = .bl b ∧ Q (.bl (!decide (a = b))) H
theorem r2_isB {a b : Bool} {Q : List Cell → Tmp → Prop} (q : Q Γ (.dt (.bool (decide (a = b))))) : R2V K rIsBl Γ Θ (.dt (.bool a)) (.dt (.bool b)) Q := fun L S0 σ τ S vx vy Qv E k =>
  ⟨a, b, dp_bool E.pop.dt, dp_bool E.dt, k Γ S _ _ (E.pop.pop.push (.bl _)) q⟩
theorem r2_notB {a b : Bool} {Q : List Cell → Tmp → Prop} (q : Q Γ (.dt (.bool (!decide (a = b))))) : R2V K rNotBl Γ Θ (.dt (.bool a)) (.dt (.bool b)) Q := fun L S0 σ τ S vx vy Qv E k =>
  ⟨a, b, dp_bool E.pop.dt, dp_bool E.dt, k Γ S _ _ (E.pop.pop.push (.bl _)) q⟩
/-- x in a flat list or tuple -/
def flD : Dat → Bool
  | .none => true
  | .bool _ => true
  | .int _ => true
  | .str _ => true
  | _ => false
def eqF : Dat → Dat → Bool
  | .none, .none => true
  | .bool a, .bool b => a == b
  | .bool a, .int b => (if a then 1 else 0) == b
  | .int a, .bool b => a == (if b then 1 else 0)
  | .int a, .int b => a == b
  | .str a, .str b => a == b
  | _, _ => false
theorem dq_flat {H : Hp} {v : V} {d : Dat} (h : Dq H v d) (f : flD d = true) : flatV v = true := by
  cases h <;> first | rfl | cases f
theorem dq_eqF {H : Hp} {u v : V} {d e : Dat} (h : Dq H u d) (g : Dq H v e) (f1 : flD d = true) (f2 : flD e = true) : eqV u v = eqF d e := by
  cases h <;> first | (cases g <;> first | rfl | cases f2) | cases f1
theorem dqa_flat {H : Hp} : ∀ {vs : List V} {ds : List Dat}, DqAll H vs ds → ds.all flD = true → vs.all flatV = true
  | _, _, .nil, _ => rfl
  | _, _, .cons h t, f => by
    rw [List.all_cons, Bool.and_eq_true] at f
    rw [List.all_cons, dq_flat h f.1, dqa_flat t f.2, Bool.and_true]
theorem dqa_in {H : Hp} {v : V} {e : Dat} (g : Dq H v e) (f2 : flD e = true) : ∀ {vs : List V} {ds : List Dat}, DqAll H vs ds → ds.all flD = true → inV v vs = ds.any fun d => eqF d e
  | _, _, .nil, _ => rfl
  | _, _, .cons h t, f => by
    rw [List.all_cons, Bool.and_eq_true] at f
    show (eqV _ v || inV v _) = _
    rw [List.any_cons, dq_eqF h g f.1 f2, dqa_in g f2 t f.2]
def SeqD (Γ : List Cell) (x : Tmp) (ds : List Dat) : Prop := rd Γ x (.list ds) ∨ rd Γ x (.tuple ds)
theorem seqD_ok {L : Addr → Prop} {S0 S : Hs} {σ : L2.St} {τ : List V} {v : V} {c : Tmp} {ds : List Dat} (E : Env K L S0 Γ (c :: Θ) σ (v :: τ) S) (h : SeqD Γ c ds) : ∃ a xs, v = .ref a ∧ (SqL K S.h a xs ∨ SqT K S.h a xs) ∧ DqAll S.h xs ds := by
  rcases h with h | h
  · obtain ⟨a, xs, e, q, p⟩ := dp_list (E.rd h)
    exact ⟨a, xs, e, .inl (.of q), p⟩
  · obtain ⟨a, o, xs, e, _, q, p⟩ := dp_tup (E.rd h)
    exact ⟨a, xs, e, .inr (sqt_f q), p⟩
theorem r2_in {x y : Tmp} {e : Dat} {ds : List Dat} {Q : List Cell → Tmp → Prop} (hx : rd Γ x e) (hy : SeqD Γ y ds) (f1 : flD e = true) (f2 : ds.all flD = true) (q : Q Γ (.dt (.bool (ds.any fun d => eqF d e)))) : R2V K (rIn K false) Γ Θ x y Q := fun L S0 σ τ S vx vy Qv E k => by
  obtain ⟨a, xs, ev, h, p⟩ := seqD_ok E hy
  have g := E.pop.rd hx
  refine ⟨a, xs, ev, h, dq_flat g f1, dqa_flat p f2, ?_⟩
  rw [if_neg Bool.false_ne_true, dqa_in g f1 p f2]
  exact k Γ S _ _ (E.pop.pop.push (.bl _)) q
/-- subscripts -/
theorem atI_dq {H : Hp} {vs : List V} {ds : List Dat} {i : Int} {d : Dat} (p : DqAll H vs ds) (h : atI ds i = some d) : ∃ v, atI vs i = some v ∧ Dq H v d := by
  unfold atI at h ⊢
  rw [p.len]
  cases e : ixN ds.length i with
  | none => rw [e] at h; cases h
  | some j =>
    rw [e] at h
    exact p.get h
theorem r2_ixL {x : Tmp} {i : Int} {ds : List Dat} {d : Dat} {Q : List Cell → Tmp → Prop} (hx : ∃ (B : List Dat), x = .dt (.list B) ∧ B = ds ∨ (∃ j, x = .br j ∧ (Γ[j]? = some (.ow ds) ∨ Γ[j]? = some (.ln ds))) ∨ x = .fr ds) (h : atI ds i = some d) (q : Q Γ (.dt d)) : R2V K (rIxL K) Γ Θ x (.dt (.int i)) Q := fun L S0 σ τ S vx vy Qv E k => by
  have ei := dp_int E.dt
  have E1 := E.pop
  obtain ⟨a, xs, ea, hs, p⟩ : ∃ a xs, vx = .ref a ∧ SqL K S.h a xs ∧ DqAll S.b xs ds := by
    obtain ⟨w, g1, z, g2⟩ := E1.ok
    obtain ⟨B, ⟨rfl, rfl⟩ | ⟨j, rfl, hj⟩ | rfl⟩ := hx
    · obtain ⟨a, xs, e, q, p⟩ := dp_list (show Dq S.b vx (.list B) from z)
      exact ⟨a, xs, e, .of (E.sub _ _ q), p⟩
    · have z' : σ[j]? = some (some vx) := z
      rcases hj with hj | hj
      · obtain ⟨a, e, o, _⟩ := g1 j _ hj
        rw [z'] at e; cases e
        obtain ⟨_, _, us, q, p⟩ := o
        exact ⟨a, us, rfl, .of q, p⟩
      · obtain ⟨a, e, o, _⟩ := g1 j _ hj
        rw [z'] at e; cases e
        obtain ⟨_, _, us, q, p⟩ := o
        exact ⟨a, us, rfl, .of q, p⟩
    · obtain ⟨a, e, o, _⟩ := z
      obtain ⟨_, _, us, q, p⟩ := o
      exact ⟨a, us, e, .of q, p⟩
  obtain ⟨v, e, g⟩ := atI_dq p h
  exact ⟨a, xs, i, v, ea, ei, hs, e, k Γ S v _ (E1.pop.push g) q⟩
theorem r2_ixT {i : Int} {ds : List Dat} {d : Dat} {Q : List Cell → Tmp → Prop} (h : atI ds i = some d) (q : Q Γ (.dt d)) : R2V K (rIxT K) Γ Θ (.dt (.tuple ds)) (.dt (.int i)) Q := fun L S0 σ τ S vx vy Qv E k => by
  obtain ⟨a, o, xs, ea, _, hs, p⟩ := dp_tup E.pop.dt
  obtain ⟨v, e, g⟩ := atI_dq p h
  exact ⟨a, xs, i, v, ea, dp_int E.dt, sqt_f (E.sub _ _ hs), e, k Γ S v _ (E.pop.pop.push g) q⟩
/-- the script's items -/
theorem r2_ixS {i : Int} {ns : List Int} {n : Int} {Q : List Cell → Tmp → Prop} (h : atI ns i = some n) (q : Q Γ (.dt (.int n))) : R2V K (rIxL K) Γ Θ (.sc ns) (.dt (.int i)) Q := fun L S0 σ τ S vx vy Qv E k => by
  obtain ⟨w, a, ea, hs⟩ := E.pop.top
  refine ⟨a, ns.map V.int, i, .int n, ea, dp_int E.dt, E.sub.seq hs, ?_, k Γ S _ _ (E.pop.pop.push (.int _)) q⟩
  unfold atI at h ⊢
  rw [List.length_map]
  cases e : ixN ns.length i with
  | none => rw [e] at h; cases h
  | some j =>
    rw [e] at h
    show (ns.map V.int)[j]? = _
    rw [List.getElem?_map, show ns[j]? = some n from h] <;> rfl
end
end Ld
set_option Elab.async false
set_option linter.all false
set_option maxRecDepth 100000
namespace Ld
open PySem PySem.Spec PyProof.Rows L2 Lx
section
variable {K : PySem.W.Frag} {Γ : List Cell} {Θ : List Tmp}
/-! ### tuples put together -/
theorem r2_catT {ds es : List Dat} {Q : List Cell → Tmp → Prop} (hz : ds.length + es.length ≤ sizeLine) (q : Q Γ (.dt (.tuple (ds ++ es)))) : R2V K (rCatF K) Γ Θ (.dt (.tuple ds)) (.dt (.tuple es)) Q := fun L S0 σ τ S vx vy Qv E k => by
  obtain ⟨b, o2, zs, eb, d2, qb, pb⟩ := dp_tup E.dt
  obtain ⟨a, o1, xs, ea, d1, qa, pa⟩ := dp_tup E.pop.dt
  refine ⟨a, b, xs, zs, ea, eb, sqt_f (E.sub _ _ qa), sqt_f (E.sub _ _ qb), by rw [pa.len, pb.len]; exact hz, fun e => ?_, fun _ e => ?_, fun _ _ p o hd hp => ?_⟩
  · subst e
    cases pa
    exact k Γ _ _ _ (E.pop.pop.push (.tup d2 qb pb)) q
  · subst e
    cases pb
    rw [List.append_nil] at q
    exact k Γ _ _ _ (E.pop.pop.push (.tup d1 qa pa)) q
  · exact k Γ _ _ _ (E.pop.pop.newTup hd hp (pa.app pb)) q
theorem dqa_rep {H : Hp} {vs : List V} {ds : List Dat} (h : DqAll H vs ds) : ∀ n : Nat, DqAll H (List.replicate n vs).flatten (List.replicate n ds).flatten
  | 0 => .nil
  | n + 1 => by
    rw [List.replicate_succ, List.replicate_succ, List.flatten_cons, List.flatten_cons]
    exact h.app (dqa_rep h n)
theorem r2_rep {x : Tmp} {ds : List Dat} {j : Int} {Q : List Cell → Tmp → Prop} (hx : x = .dt (.list ds) ∨ x = .fr ds) (h1 : -(2 ^ 63) ≤ j) (h2 : j < 2 ^ 63) (hz : ds.length * j.toNat ≤ sizeLine) (q : Q Γ (.fr (List.replicate j.toNat ds).flatten)) :
    R2V K rRep Γ Θ x (.dt (.int j)) Q := fun L S0 σ τ S vx vy Qv E k => by
  obtain ⟨a, xs, ea, qa, pa⟩ : ∃ a xs, vx = .ref a ∧ S.h a = some (.lst xs) ∧ DqAll S.b xs ds := by
    have E1 := E.pop
    rcases hx with rfl | rfl
    · obtain ⟨a, xs, e, q, p⟩ := dp_list E1.dt
      exact ⟨a, xs, e, E.sub _ _ q, p⟩
    · obtain ⟨w, a, e, o, _⟩ := E1.top
      obtain ⟨_, _, us, q, p⟩ := o
      exact ⟨a, us, e, q, p⟩
  exact ⟨a, j, xs, ea, dp_int E.dt, qa, h1, h2, by rw [pa.len]; exact hz, fun p hp => k Γ _ _ _ (E.pop.pop.newLst hp (dqa_rep pa _)) q⟩
/-! ### a sign -/
theorem ve_un {r : V → Hp → VK → Prop} {f : Int → Int} {ta : TE} {Q : List Cell → Tmp → Prop} (hr : r = rU fun i => .int (f i)) (h : VE K Γ Θ ta fun Γ1 x => ∃ i, x = .dt (.int i) ∧ Q Γ1 (.dt (.int (f i)))) : VE K Γ Θ (tUn r ta) Q := fun L S0 σ τ S Qv E k => h L S0 σ τ S _ E fun Γ1 S1 v x E1 ⟨i, ex, q⟩ => by
  subst ex hr
  exact ⟨i, dp_int E1.dt, k Γ1 S1 _ _ (E1.pop.push (.int _)) q⟩
/-! ### argument lists -/
inductive Arg where
  | dt (d : Dat) | sc (ns : List Int)
def Arg.tmp : Arg → Tmp
  | .dt d => .dt d
  | .sc ns => .sc ns
def Arg.cell : Arg → Cell
  | .dt d => .dt d
  | .sc ns => .sc ns
def ArgOk (K : PySem.W.Frag) (B : Hp) (v : V) : Arg → Prop
  | .dt d => Dq B v d
  | .sc ns => ∃ a, v = .ref a ∧ SqL K B a (ns.map V.int)
inductive ArgsOk (K : PySem.W.Frag) (B : Hp) : List V → List Arg → Prop
  | nil : ArgsOk K B [] []
  | cons {v : V} {vs : List V} {a : Arg} {as : List Arg} : ArgOk K B v a → ArgsOk K B vs as → ArgsOk K B (v :: vs) (a :: as)
theorem ArgsOk.len {B : Hp} : ∀ {vs : List V} {as : List Arg}, ArgsOk K B vs as → vs.length = as.length
  | _, _, .nil => rfl
  | _, _, .cons _ t => by rw [List.length_cons, List.length_cons, t.len]
def VX (K : PySem.W.Frag) (Γ : List Cell) (Θ : List Tmp) (t : TE) (Q : List Cell → Arg → Prop) : Prop := ∀ (L : Addr → Prop) (S0 : Hs) (σ : L2.St) (τ : List V) (S : Hs) (Qv : VK), Env K L S0 Γ Θ σ τ S →
  (∀ Γ' S' v a, Env K L S0 Γ' (a.tmp :: Θ) σ (v :: τ) S' → Q Γ' a → Qv v S'.h) → t σ S.h Qv
def VAX (K : PySem.W.Frag) (Γ : List Cell) (Θ : List Tmp) (t : TA) (Q : List Cell → List Arg → Prop) : Prop := ∀ (L : Addr → Prop) (S0 : Hs) (σ : L2.St) (τ : List V) (S : Hs) (Qv : List V → Hp → Prop), Env K L S0 Γ Θ σ τ S →
  (∀ Γ' S' vs as, Env K L S0 Γ' Θ σ τ S' → ArgsOk K S'.b vs as → Q Γ' as → Qv vs S'.h) → t σ S.h Qv
/-- what is under way becomes an argument -/
def Az (Γ : List Cell) (Q : List Cell → Arg → Prop) : Tmp → Prop
  | .dt d => Q Γ (.dt d)
  | .fr ds => Q Γ (.dt (.list ds))
  | .br i => ∃ ds, Γ[i]? = some (.ow ds) ∧ Q (Γ.set i (.dt (.list ds))) (.dt (.list ds))
  | .sc ns => Q Γ (.sc ns)
  | .ob _ => False
  | .li _ => False
theorem vx_of {t : TE} {Q : List Cell → Arg → Prop} (h : VE K Γ Θ t fun Γ1 c => Az Γ1 Q c) : VX K Γ Θ t Q := fun L S0 σ τ S Qv E q => h L S0 σ τ S Qv E fun Γ' S' v c E' z => by
  cases c with
  | dt d => exact q Γ' S' v (.dt d) E' z
  | fr ds =>
    obtain ⟨S2, e, E2⟩ := E'.frzTop
    rw [← e]
    exact q Γ' S2 v (.dt _) E2 z
  | sc ns => exact q Γ' S' v (.sc ns) E' z
  | ob pp => exact z.elim
  | li R => exact z.elim
  | br i =>
    obtain ⟨ds, hi, z⟩ := z
    obtain ⟨S2, e, E2⟩ := E'.frzSlot hi
    rw [← e]
    obtain ⟨w, h1, z2, h2⟩ := id E2.ok
    have hl := (List.getElem?_eq_some_iff.mp hi).1
    obtain ⟨u, eu, qu⟩ := h1 i _ (List.getElem?_set_self hl)
    have z2' : σ[i]? = some (some v) := z2
    rw [z2'] at eu; cases eu
    exact q _ S2 v (.dt _) (E2.pop.push qu) z
theorem argOk_top {L : Addr → Prop} {S0 S : Hs} {σ : L2.St} {τ : List V} {v : V} {a : Arg} (E : Env K L S0 Γ (a.tmp :: Θ) σ (v :: τ) S) : ArgOk K S.b v a := by
  obtain ⟨w, z⟩ := E.top
  cases a with
  | dt d => exact z
  | sc ns => exact z
theorem vax_nil {Q : List Cell → List Arg → Prop} (q : Q Γ []) : VAX K Γ Θ tNil Q := fun L S0 σ τ S Qv E k => k Γ S [] [] E .nil q
theorem vax_cons {te : TE} {t : TA} {Q : List Cell → List Arg → Prop} (h : VX K Γ Θ te fun Γ1 a => VAX K Γ1 (a.tmp :: Θ) t fun Γ2 as => Q Γ2 (a :: as)) : VAX K Γ Θ (tCons te t) Q := fun L S0 σ τ S Qv E k =>
  h L S0 σ τ S _ E fun Γ1 S1 v a E1 h1 => h1 L S0 σ (v :: τ) S1 _ E1 fun Γ2 S2 vs as E2 p q => k Γ2 S2 (v :: vs) (a :: as) E2.pop (.cons (argOk_top E2) p) q
/-- arguments that are data -/
def dts : List Arg → Option (List Dat)
  | [] => some []
  | .dt d :: as => (dts as).map (d :: ·)
  | .sc _ :: _ => none
theorem dts_ok {B : Hp} : ∀ {vs : List V} {as : List Arg} {ds : List Dat}, ArgsOk K B vs as → dts as = some ds → DqAll B vs ds
  | _, _, _, .nil, h => by cases h; exact .nil
  | _, _, ds, .cons (a := .dt d) (as := as) h t, e => by
    unfold dts at e
    cases q : dts as with
    | none => rw [q] at e; cases e
    | some es =>
      rw [q] at e
      cases e
      exact .cons h (dts_ok t q)
  | _, _, _, .cons (a := .sc _) _ _, e => by cases e
/-! ### displays -/
theorem ve_tup {t : TA} {Q : List Cell → Tmp → Prop} (h : VAX K Γ Θ t fun Γ1 as => ∃ ds, dts as = some ds ∧ ds.length ≤ sizeLine ∧ Q Γ1 (.dt (.tuple ds))) : VE K Γ Θ (tTupF t) Q := fun L S0 σ τ S Qv E k => h L S0 σ τ S _ E fun Γ1 S1 vs as E1 p ⟨ds, e, z, q⟩ => by
  have g := dts_ok p e
  exact ⟨by rw [g.len]; exact z, fun l o hd hl => k Γ1 _ _ _ (E1.newTup hd hl g) q⟩
theorem ve_lst {t : TA} {Q : List Cell → Tmp → Prop} (h : VAX K Γ Θ t fun Γ1 as => ∃ ds, dts as = some ds ∧ ds.length ≤ sizeLine ∧ Q Γ1 (.fr ds)) : VE K Γ Θ (tLst t) Q := fun L S0 σ τ S Qv E k => h L S0 σ τ S _ E fun Γ1 S1 vs as E1 p ⟨ds, e, z, q⟩ => by
  have g := dts_ok p e
  exact ⟨by rw [g.len]; exact z, fun l hl => k Γ1 _ _ _ (E1.newLst hl g) q⟩
/-! ### calls of defs -/
theorem Env.lent {L : Addr → Prop} {S0 S S' : Hs} {σ : L2.St} {τ : List V} {a : Addr} {i : Nat} {c : Cell} {ds zs : List Dat} (E : Env K L S0 Γ Θ σ τ S) (hi : Γ[i]? = some c) (hc : c.ls = some ds) (ha : σ[i]? = some (some (.ref a)))
    (g : Gr (fun b => b = a) S S') (sub : Same S'.b S'.h) (nb : S'.b a = none) (h : ∃ us, S'.h a = some (.lst us) ∧ DqAll S'.b us zs) : Env K L S0 (Γ.set i (c.put zs)) Θ σ τ S' := by
  obtain ⟨w, h1, h2⟩ := E.ok
  have hil := (List.getElem?_eq_some_iff.mp hi).1
  obtain ⟨o, n0⟩ : Own w (.inl i) S a ds ∧ (S0.h a = none ∨ L a) := by
    have z := h1 i c hi
    cases c with
    | no => cases hc
    | dt d => cases hc
    | sc ns => cases hc
    | ob pp => cases hc
    | li R => cases hc
    | ow es => cases hc; obtain ⟨b, e, r, n⟩ := z; rw [ha] at e; cases e; exact ⟨r, .inl n⟩
    | ln es => cases hc; obtain ⟨b, e, r, n⟩ := z; rw [ha] at e; cases e; exact ⟨r, .inr n⟩
  have keep : ∀ {k : Sum Nat Nat} {b : Addr} {es : List Dat}, Own w k S b es → k ≠ .inl i → Own w k S' b es := fun {k b es} r n => by
    have ne : b ≠ a := r.apart o n
    obtain ⟨nb', e, us, q, p⟩ := r
    exact ⟨g.own b nb' (by rw [q]; exact fun z => nomatch z), e, us, g.h b _ ne q, dpa_mono g.b _ _ p⟩
  have keepO : ∀ {k : Sum Nat Nat} {b : Addr} {es : HO}, OwnO w k S b es → k ≠ .inl i → OwnO w k S' b es := fun {k b es} r n => by
    have ne : b ≠ a := (o.apartO r n.symm).symm
    obtain ⟨nb', e, q⟩ := r
    exact ⟨g.own b nb' (by rw [q]; exact fun z => nomatch z), e, g.h b _ ne q⟩
  have keepL : ∀ {k : Sum Nat Nat} {b : Addr} {R : Res} {N : Addr → Prop}, OwnL w k S b R N → k ≠ .inl i → OwnL w k S' b R N := fun {k b R N} r n => by
    obtain ⟨F, q, f⟩ := r
    have ne : ∀ x, F x → x ≠ a := fun x hx e => n (by
      have e1 := o.at_
      rw [← e, (f x hx).2.1] at e1
      exact Option.some.inj e1)
    refine ⟨F, R.frame q g.b fun x hx => ?_, fun x hx => ⟨g.own x (f x hx).1 (R.dom q hx), (f x hx).2⟩⟩
    cases e : S.h x with
    | none => exact absurd e (R.dom q hx)
    | some u => exact g.h x u (ne x hx) e
  refine ⟨E.gr.trans g fun b e => ?_, sub, by rw [List.length_set]; exact E.len, w, fun j c' e => ?_, h2.imp fun k u t hk z => ?_⟩
  · rw [e]; exact n0.symm
  · by_cases hj : i = j
    · subst hj
      rw [List.getElem?_set_self hil] at e
      have z := h1 i c hi
      cases c with
      | no => cases hc
      | dt d => cases hc
      | sc ns => cases hc
      | ob pp => cases hc
      | li R => cases hc
      | ow es => cases e; obtain ⟨b, e, r, n⟩ := z; rw [ha] at e; cases e; exact ⟨_, ha, ⟨nb, o.at_, h⟩, n⟩
      | ln es => cases e; obtain ⟨b, e, r, n⟩ := z; rw [ha] at e; cases e; exact ⟨_, ha, ⟨nb, o.at_, h⟩, n⟩
    · rw [List.getElem?_set_ne hj] at e
      have z := h1 j c' e
      cases c' with
      | no => trivial
      | dt d => obtain ⟨v, e, r⟩ := z; exact ⟨v, e, dp_mono g.b _ _ r⟩
      | ow es => obtain ⟨b, e, r, n⟩ := z; exact ⟨b, e, keep r (fun z => hj (Sum.inl.inj z).symm), n⟩
      | ln es => obtain ⟨b, e, r, n⟩ := z; exact ⟨b, e, keep r (fun z => hj (Sum.inl.inj z).symm), n⟩
      | sc ns => obtain ⟨b, e, r⟩ := z; exact ⟨b, e, g.b.seq r⟩
      | ob pp => obtain ⟨b, e, r, n⟩ := z; exact ⟨b, e, keepO r (fun z => hj (Sum.inl.inj z).symm), n⟩
      | li R => obtain ⟨b, e, r⟩ := z; exact ⟨b, e, keepL r (fun z => hj (Sum.inl.inj z).symm)⟩
  · cases t with
    | dt d => exact dp_mono g.b _ _ z
    | fr es => obtain ⟨b, e, r, n⟩ := z; exact ⟨b, e, keep r (fun z => nomatch z), n⟩
    | br j => exact z
    | sc ns => obtain ⟨b, e, r⟩ := z; exact ⟨b, e, g.b.seq r⟩
    | ob pp => obtain ⟨b, e, r, n⟩ := z; exact ⟨b, e, keepO r (fun z => nomatch z), n⟩
    | li R => obtain ⟨b, e, r⟩ := z; exact ⟨b, e, keepL r (fun z => nomatch z)⟩
theorem Env.own {L : Addr → Prop} {S0 S : Hs} {σ : L2.St} {τ : List V} {i : Nat} {c : Cell} {ds : List Dat} (E : Env K L S0 Γ Θ σ τ S) (hi : Γ[i]? = some c) (hc : c.ls = some ds) : ∃ a, σ[i]? = some (some (.ref a)) ∧ S.b a = none ∧ ∃ us, S.h a = some (.lst us) ∧ DqAll S.b us ds := by
  obtain ⟨w, h1, h2⟩ := E.ok
  have z := h1 i c hi
  cases c with
  | no => cases hc
  | dt d => cases hc
  | sc ns => cases hc
  | ob pp => cases hc
  | li R => cases hc
  | ow es => cases hc; obtain ⟨b, e, r, n⟩ := z; exact ⟨b, e, r.nb, r.is⟩
  | ln es => cases hc; obtain ⟨b, e, r, n⟩ := z; exact ⟨b, e, r.nb, r.is⟩
/-- slot i holds a list of one's own or a lent one -/
def IsLs (Γ : List Cell) (i : Nat) (ds : List Dat) : Prop := ∃ c, Γ[i]? = some c ∧ c.ls = some ds
/-- .. what it holds is changed -/
def putC (Γ : List Cell) (i : Nat) (ds : List Dat) : List Cell := match Γ[i]? with
  | some c => Γ.set i (c.put ds)
  | none => Γ
theorem putC_eq {i : Nat} {c : Cell} {ds : List Dat} (h : Γ[i]? = some c) : putC Γ i ds = Γ.set i (c.put ds) := by unfold putC; rw [h]
/-! ### built-ins by one value, two values -/
def C1V (K : PySem.W.Frag) (r : List V → Hp → VK → Prop) (Γ : List Cell) (Θ : List Tmp) (x : Tmp) (Q : List Cell → Tmp → Prop) : Prop := ∀ (L : Addr → Prop) (S0 : Hs) (σ : L2.St) (τ : List V) (S : Hs) (vx : V) (Qv : VK), Env K L S0 Γ (x :: Θ) σ (vx :: τ) S →
  (∀ Γ' S' v c, Env K L S0 Γ' (c :: Θ) σ (v :: τ) S' → Q Γ' c → Qv v S'.h) → r [vx] S.h Qv
def C2V (K : PySem.W.Frag) (r : List V → Hp → VK → Prop) (Γ : List Cell) (Θ : List Tmp) (x y : Tmp) (Q : List Cell → Tmp → Prop) : Prop := ∀ (L : Addr → Prop) (S0 : Hs) (σ : L2.St) (τ : List V) (S : Hs) (vx vy : V) (Qv : VK), Env K L S0 Γ (y :: x :: Θ) σ (vy :: vx :: τ) S →
  (∀ Γ' S' v c, Env K L S0 Γ' (c :: Θ) σ (v :: τ) S' → Q Γ' c → Qv v S'.h) → r [vx, vy] S.h Qv
theorem ve_c1 {r : List V → Hp → VK → Prop} {ta : TE} {Q : List Cell → Tmp → Prop} (h : VE K Γ Θ ta fun Γ1 x => C1V K r Γ1 Θ x Q) : VE K Γ Θ (tCB r (tCons ta tNil)) Q := fun L S0 σ τ S Qv E k =>
  h L S0 σ τ S _ E fun Γ1 S1 vx x E1 h1 => h1 L S0 σ τ S1 vx Qv E1 k
theorem ve_c2 {r : List V → Hp → VK → Prop} {ta tb : TE} {Q : List Cell → Tmp → Prop} (h : VE K Γ Θ ta fun Γ1 x => VE K Γ1 (x :: Θ) tb fun Γ2 y => C2V K r Γ2 Θ x y Q) : VE K Γ Θ (tCB r (tCons ta (tCons tb tNil))) Q := fun L S0 σ τ S Qv E k =>
  h L S0 σ τ S _ E fun Γ1 S1 vx x E1 h1 => h1 L S0 σ _ S1 _ E1 fun Γ2 S2 vy y E2 h2 => h2 L S0 σ τ S2 vx vy Qv E2 k
def rLenSeq (K : PySem.W.Frag) : List V → Hp → VK → Prop := fun xs H Q => ∃ p ys, xs = [.ref p] ∧ (SqL K H p ys ∨ SqT K H p ys) ∧ Q (.int ys.length) H
theorem cl_len {X : Cx} : CallR X (.builtin "len") (rLenSeq X.K) := call_len_seq
theorem c1_len {x : Tmp} {ds : List Dat} {Q : List Cell → Tmp → Prop} (hx : SeqD Γ x ds) (q : Q Γ (.dt (.int ds.length))) : C1V K (rLenSeq K) Γ Θ x Q := fun L S0 σ τ S vx Qv E k => by
  obtain ⟨a, xs, e, h, p⟩ := seqD_ok E hx
  exact ⟨a, xs, by rw [e], h, by rw [p.len]; exact k Γ S _ _ (E.pop.push (.int _)) q⟩
theorem c1_lenS {ns : List Int} {Q : List Cell → Tmp → Prop} (q : Q Γ (.dt (.int ns.length))) : C1V K (rLenSeq K) Γ Θ (.sc ns) Q := fun L S0 σ τ S vx Qv E k => by
  obtain ⟨w, a, ea, hs⟩ := E.top
  exact ⟨a, _, by rw [ea], .inl (E.sub.seq hs), by rw [List.length_map]; exact k Γ S _ _ (E.pop.push (.int _)) q⟩
def rMx2 : List V → Hp → VK → Prop := fun xs H Q => ∃ i j, xs = [.int i, .int j] ∧ Q (.int (if j > i then j else i)) H
def rMn2 : List V → Hp → VK → Prop := fun xs H Q => ∃ i j, xs = [.int i, .int j] ∧ Q (.int (if j < i then j else i)) H
theorem cl_min2 {X : Cx} (hc : X.calm = true) : CallR X (.builtin "min") rMn2 := call_min2 hc
theorem c2_max {i j : Int} {Q : List Cell → Tmp → Prop} (q : Q Γ (.dt (.int (max i j)))) : C2V K rMx2 Γ Θ (.dt (.int i)) (.dt (.int j)) Q := fun L S0 σ τ S vx vy Qv E k =>
  ⟨i, j, by rw [dp_int E.dt, dp_int E.pop.dt], by
    rw [show (if j > i then j else i) = max i j by split <;> omega]
    exact k Γ S _ _ (E.pop.pop.push (.int _)) q⟩
theorem c2_min {i j : Int} {Q : List Cell → Tmp → Prop} (q : Q Γ (.dt (.int (min i j)))) : C2V K rMn2 Γ Θ (.dt (.int i)) (.dt (.int j)) Q := fun L S0 σ τ S vx vy Qv E k =>
  ⟨i, j, by rw [dp_int E.dt, dp_int E.pop.dt], by
    rw [show (if j < i then j else i) = min i j by split <;> omega]
    exact k Γ S _ _ (E.pop.pop.push (.int _)) q⟩
theorem intsL {L : Addr → Prop} {S0 S : Hs} {σ : L2.St} {τ : List V} {v : V} {c : Tmp} {ns : List Int} (E : Env K L S0 Γ (c :: Θ) σ (v :: τ) S) (h : rd Γ c (.list (ns.map .int))) : ∃ a, v = .ref a ∧ SqL K S.h a (ns.map V.int) := by
  obtain ⟨a, xs, e, q, p⟩ := dp_list (E.rd h)
  rw [dpa_ints p] at q
  exact ⟨a, e, .of q⟩
theorem c1_sum {x : Tmp} {ns : List Int} {Q : List Cell → Tmp → Prop} (hx : rd Γ x (.list (ns.map .int))) (q : Q Γ (.dt (.int ns.sum))) : C1V K (L2.rSum K) Γ Θ x Q := fun L S0 σ τ S vx Qv E k => by
  obtain ⟨a, e, h⟩ := intsL E hx
  exact ⟨a, ns, by rw [e], h, k Γ S _ _ (E.pop.push (.int _)) q⟩
theorem c1_max {x : Tmp} {ns : List Int} {Q : List Cell → Tmp → Prop} (hx : rd Γ x (.list (ns.map .int))) (h0 : 0 < ns.length) (q : ∀ m, m ∈ ns → (∀ y, y ∈ ns → y ≤ m) → Q Γ (.dt (.int m))) : C1V K (L2.rMax K) Γ Θ x Q := fun L S0 σ τ S vx Qv E k => by
  obtain ⟨a, e, h⟩ := intsL E hx
  exact ⟨a, ns, by rw [e], h, h0, fun m h1 h2 => k Γ S _ _ (E.pop.push (.int _)) (q m h1 h2)⟩
theorem c1_min {x : Tmp} {ns : List Int} {Q : List Cell → Tmp → Prop} (hx : rd Γ x (.list (ns.map .int))) (h0 : 0 < ns.length) (q : ∀ m, m ∈ ns → (∀ y, y ∈ ns → m ≤ y) → Q Γ (.dt (.int m))) : C1V K (L2.rMin K) Γ Θ x Q := fun L S0 σ τ S vx Qv E k => by
  obtain ⟨a, e, h⟩ := intsL E hx
  exact ⟨a, ns, by rw [e], h, h0, fun m h1 h2 => k Γ S _ _ (E.pop.push (.int _)) (q m h1 h2)⟩
theorem boolsL {L : Addr → Prop} {S0 S : Hs} {σ : L2.St} {τ : List V} {v : V} {c : Tmp} {ns : List Bool} (E : Env K L S0 Γ (c :: Θ) σ (v :: τ) S) (h : rd Γ c (.list (ns.map .bool))) : ∃ a, v = .ref a ∧ SqL K S.h a (ns.map V.bl) := by
  obtain ⟨a, xs, e, q, p⟩ := dp_list (E.rd h)
  rw [dpa_bools p] at q
  exact ⟨a, e, .of q⟩
theorem c1_all {x : Tmp} {ns : List Bool} {Q : List Cell → Tmp → Prop} (hx : rd Γ x (.list (ns.map .bool))) (q : Q Γ (.dt (.bool (ns.all id)))) : C1V K (L2.rAll K) Γ Θ x Q := fun L S0 σ τ S vx Qv E k => by
  obtain ⟨a, e, h⟩ := boolsL E hx
  exact ⟨a, ns, by rw [e], h, k Γ S _ _ (E.pop.push (.bl _)) q⟩
def rInt1 : List V → Hp → VK → Prop := fun xs H Q => (∃ i, xs = [.int i] ∧ Q (.int i) H) ∨ ∃ k, xs = [.bl k] ∧ Q (.int (if k then 1 else 0)) H
theorem cl_int {X : Cx} : CallR X (.type "int") rInt1 := call_int1
theorem c1_intB {b : Bool} {Q : List Cell → Tmp → Prop} (q : Q Γ (.dt (.int (if b then 1 else 0)))) : C1V K rInt1 Γ Θ (.dt (.bool b)) Q := fun L S0 σ τ S vx Qv E k =>
  .inr ⟨b, by rw [dp_bool E.dt], k Γ S _ _ (E.pop.push (.int _)) q⟩
theorem c1_intI {b : Int} {Q : List Cell → Tmp → Prop} (q : Q Γ (.dt (.int b))) : C1V K rInt1 Γ Θ (.dt (.int b)) Q := fun L S0 σ τ S vx Qv E k =>
  .inl ⟨b, by rw [dp_int E.dt], k Γ S _ _ (E.pop.push (.int _)) q⟩
def rListOf (K : PySem.W.Frag) : List V → Hp → VK → Prop := fun xs H Q => ∃ p ys, xs = [.ref p] ∧ (SqL K H p ys ∨ SqT K H p ys) ∧ ∀ l, H l = none → Q (.ref l) (upd H l (.lst ys))
theorem cl_list {X : Cx} : CallR X (.type "list") (rListOf X.K) := call_list_of
theorem rdB_l {L : Addr → Prop} {S0 S : Hs} {σ : L2.St} {τ : List V} {v : V} {c : Tmp} {ds : List Dat} (E : Env K L S0 Γ (c :: Θ) σ (v :: τ) S) (h : rd Γ c (.list ds)) : ∃ a us, v = .ref a ∧ S.h a = some (.lst us) ∧ DqAll S.b us ds := by
  obtain ⟨w, h1, z, h2⟩ := E.ok
  cases c with
  | dt e => cases h; obtain ⟨a, xs, e, q, p⟩ := dp_list (show Dq S.b v (.list ds) from z); exact ⟨a, xs, e, E.sub _ _ q, p⟩
  | fr es => cases h; obtain ⟨a, e, o, _⟩ := z; obtain ⟨_, _, us, q, p⟩ := o; exact ⟨a, us, e, q, p⟩
  | sc ns => exact h.elim
  | ob pp => exact h.elim
  | li R => exact h.elim
  | br i =>
    have z' : σ[i]? = some (some v) := z
    rcases h with h | ⟨es, e, h⟩
    · obtain ⟨u, e, q⟩ := h1 i _ h
      rw [z'] at e; cases e
      obtain ⟨a, xs, e, q, p⟩ := dp_list q
      exact ⟨a, xs, e, E.sub _ _ q, p⟩
    · cases e
      rcases h with h | h
      · obtain ⟨a, e, o, _⟩ := h1 i _ h
        rw [z'] at e; cases e
        obtain ⟨_, _, us, q, p⟩ := o
        exact ⟨a, us, rfl, q, p⟩
      · obtain ⟨a, e, o, _⟩ := h1 i _ h
        rw [z'] at e; cases e
        obtain ⟨_, _, us, q, p⟩ := o
        exact ⟨a, us, rfl, q, p⟩
theorem c1_listL {x : Tmp} {ds : List Dat} {Q : List Cell → Tmp → Prop} (hx : rd Γ x (.list ds)) (q : Q Γ (.fr ds)) : C1V K (rListOf K) Γ Θ x Q := fun L S0 σ τ S vx Qv E k => by
  obtain ⟨a, us, e, h, p⟩ := rdB_l E hx
  exact ⟨a, us, by rw [e], .inl (.of h), fun l hl => k Γ _ _ _ (E.pop.newLst hl p) q⟩
theorem c1_listT {ds : List Dat} {Q : List Cell → Tmp → Prop} (q : Q Γ (.fr ds)) : C1V K (rListOf K) Γ Θ (.dt (.tuple ds)) Q := fun L S0 σ τ S vx Qv E k => by
  obtain ⟨a, o, us, e, _, h, p⟩ := dp_tup E.dt
  exact ⟨a, us, by rw [e], .inr (sqt_f (E.sub _ _ h)), fun l hl => k Γ _ _ _ (E.pop.newLst hl p) q⟩
theorem c1_tupL {x : Tmp} {ds : List Dat} {Q : List Cell → Tmp → Prop} (hx : rd Γ x (.list ds)) (q : Q Γ (.dt (.tuple ds))) : C1V K (rTupOfF K) Γ Θ x Q := fun L S0 σ τ S vx Qv E k => by
  obtain ⟨a, us, e, h, p⟩ := rdB_l E hx
  exact ⟨a, us, by rw [e], .inl ⟨.of h, fun l o hd hl => k Γ _ _ _ (E.pop.newTup hd hl p) q⟩⟩
theorem c1_tupT {ds : List Dat} {Q : List Cell → Tmp → Prop} (q : Q Γ (.dt (.tuple ds))) : C1V K (rTupOfF K) Γ Θ (.dt (.tuple ds)) Q := fun L S0 σ τ S vx Qv E k => by
  obtain ⟨a, o, us, e, hd, h, p⟩ := dp_tup E.dt
  exact ⟨a, us, by rw [e], .inr ⟨sqt_f (E.sub _ _ h), k Γ S _ _ (E.pop.push (.tup hd h p)) q⟩⟩
/-! ### len(set(..)), reversed copies, slices -/
theorem ve_lenSet {ta : TE} {Q : List Cell → Tmp → Prop} (h : VE K Γ Θ ta fun Γ1 x => ∃ ns : List Int, rd Γ1 x (.list (ns.map .int)) ∧ ns.Nodup ∧ ns.length ≤ 4000 ∧ Q Γ1 (.dt (.int ns.length))) : VE K Γ Θ (RZ.tLenSetI K ta) Q := fun L S0 σ τ S Qv E k => h L S0 σ τ S _ E fun Γ1 S1 v x E1 ⟨ns, hx, h1, h2, q⟩ => by
  obtain ⟨a, e, h⟩ := intsL E1 hx
  exact ⟨a, ns, e, h, h1, h2, k Γ1 S1 _ _ (E1.pop.push (.int _)) q⟩
theorem ve_revL {ta : TE} {Q : List Cell → Tmp → Prop} (h : VE K Γ Θ ta fun Γ1 x => ∃ ds, rd Γ1 x (.list ds) ∧ Q Γ1 (.fr ds.reverse)) : VE K Γ Θ (tRevL K ta) Q := fun L S0 σ τ S Qv E k => h L S0 σ τ S _ E fun Γ1 S1 v x E1 ⟨ds, hx, q⟩ => by
  obtain ⟨a, us, e, h, p⟩ := rdB_l E1 hx
  exact ⟨a, us, e, .of h, fun l hl => k Γ1 _ _ _ (E1.pop.newLst hl p.rev) q⟩
theorem vo_none {Q : List Cell → Option Int → Prop} (q : Q Γ none) : VO K Γ Θ tNoPart Q := fun L S0 σ τ S Qv E k => k Γ S none E q
theorem vo_some {te : TE} {Q : List Cell → Option Int → Prop} (h : VE K Γ Θ te fun Γ1 x => ∃ i, x = .dt (.int i) ∧ Q Γ1 (some i)) : VO K Γ Θ (tPart te) Q := fun L S0 σ τ S Qv E k => h L S0 σ τ S _ E fun Γ1 S1 v x E1 ⟨i, ex, q⟩ => by
  subst ex
  exact ⟨i, dp_int E1.dt, k Γ1 S1 (some i) E1.pop q⟩
def cutD (xs : List Dat) (lo hi : Option Int) : List Dat := (xs.drop (HT.sIx xs.length 0 lo)).take (HT.sIx xs.length xs.length hi - HT.sIx xs.length 0 lo)
theorem dqa_cut {H : Hp} {vs : List V} {ds : List Dat} (h : DqAll H vs ds) (lo hi : Option Int) : DqAll H (cutV vs lo hi) (cutD ds lo hi) := by
  unfold cutV cutD
  rw [h.len]
  exact (h.drop _).take _
theorem ve_slL {te : TE} {tl th : TO} {Q : List Cell → Tmp → Prop} (h : VE K Γ Θ te fun Γ1 x => VO K Γ1 (x :: Θ) tl fun Γ2 lo => VO K Γ2 (x :: Θ) th fun Γ3 hi => ∃ ds, rd Γ3 x (.list ds) ∧ Q Γ3 (.fr (cutD ds lo hi))) : VE K Γ Θ (tSl (rSlL K) te tl th) Q := fun L S0 σ τ S Qv E k =>
  h L S0 σ τ S _ E fun Γ1 S1 v x E1 h1 => h1 L S0 σ _ S1 _ E1 fun Γ2 S2 lo E2 h2 => h2 L S0 σ _ S2 _ E2 fun Γ3 S3 hi E3 ⟨ds, hx, q⟩ => by
    obtain ⟨a, us, e, h, p⟩ := rdB_l E3 hx
    exact ⟨a, us, e, .of h, fun l hl => k Γ3 _ _ _ (E3.pop.newLst hl (dqa_cut p lo hi)) q⟩
theorem cutD_whole {ds : List Dat} {lo hi : Option Int} (h : HT.sIx ds.length 0 lo = 0 ∧ HT.sIx ds.length ds.length hi = ds.length) : cutD ds lo hi = ds := by
  unfold cutD
  rw [h.1, h.2, List.drop_zero, Nat.sub_zero, List.take_length]
theorem ve_slT {te : TE} {tl th : TO} {Q : List Cell → Tmp → Prop} (h : VE K Γ Θ te fun Γ1 x => VO K Γ1 (x :: Θ) tl fun Γ2 lo => VO K Γ2 (x :: Θ) th fun Γ3 hi => ∃ ds, x = .dt (.tuple ds) ∧ Q Γ3 (.dt (.tuple (cutD ds lo hi)))) : VE K Γ Θ (tSl (rSlF K) te tl th) Q := fun L S0 σ τ S Qv E k =>
  h L S0 σ τ S _ E fun Γ1 S1 v x E1 h1 => h1 L S0 σ _ S1 _ E1 fun Γ2 S2 lo E2 h2 => h2 L S0 σ _ S2 _ E2 fun Γ3 S3 hi E3 ⟨ds, hx, q⟩ => by
    subst hx
    obtain ⟨a, o, us, e, hd, h, p⟩ := dp_tup E3.dt
    refine ⟨a, us, e, sqt_f (E3.sub _ _ h), fun w => ?_, fun _ l o hd hl => k Γ3 _ _ _ (E3.pop.newTup hd hl (dqa_cut p lo hi)) q⟩
    rw [p.len] at w
    rw [cutD_whole w] at q
    exact k Γ3 S3 _ _ (E3.pop.push (.tup hd h p)) q
/-- t.index(x) -/
theorem ve_tidx {ta te : TE} {Q : List Cell → Tmp → Prop}
    (h : VE K Γ Θ ta fun Γ1 x => ∃ ds, x = .dt (.tuple ds) ∧ VE K Γ1 (x :: Θ) te fun Γ2 y => ∃ d j z, rd Γ2 y d ∧ flD d = true ∧ ds.all flD = true ∧ ds[j]? = some z ∧ eqF z d = true ∧ (∀ (m : Nat) z', m < j → ds[m]? = some z' → eqF z' d = false) ∧ Q Γ2 (.dt (.int (j : Nat)))) :
    VE K Γ Θ (tTIdx ta te) Q := fun L S0 σ τ S Qv E k => h L S0 σ τ S _ E fun Γ1 S1 vx x E1 ⟨ds, ex, h1⟩ => by
  subst ex
  obtain ⟨a, o, us, ea, hd, hu, pu⟩ := dp_tup E1.dt
  subst ea
  refine ⟨⟨a, o, us, rfl, hd, E1.sub _ _ hu⟩, h1 L S0 σ _ S1 _ E1 fun Γ2 S2 vy y E2 ⟨d, j, z, hy, f1, f2, hj, hz, hno, q⟩ => ?_⟩
  obtain ⟨a', o', zs, ea, hd', hs, p⟩ := dp_tup E2.pop.dt
  cases ea
  have p' := dpa_mono E2.sub _ _ p
  have gy := E2.rd hy
  obtain ⟨v, hv, gv⟩ := p'.get hj
  have fz : flD z = true := List.all_eq_true.mp f2 z (List.mem_of_getElem? hj)
  refine ⟨vy, rfl, a, o', zs, j, v, rfl, hd', E2.sub _ _ hs, dq_flat gy f1, dqa_flat p' f2, hv, (dq_eqF gv gy fz f1).trans hz, fun m z' hm hm' => ?_, k Γ2 S2 _ _ (E2.pop.pop.push (.int _)) q⟩
  obtain ⟨d', hd', gd'⟩ := p'.getV hm'
  rw [dq_eqF gd' gy (List.all_eq_true.mp f2 d' (List.mem_of_getElem? hd')) f1]
  exact hno m d' hm hd'
/-! ### methods of a list in a slot -/
theorem ve_append {i : Nat} {te : TE} {Q : List Cell → Tmp → Prop} (h0 : ∃ ds, IsLs Γ i ds) (h : VX K Γ Θ te fun Γ1 a => ∃ d ds, a = .dt d ∧ IsLs Γ1 i ds ∧ ds.length < sizeLine ∧ Q (putC Γ1 i (ds ++ [d])) (.dt .none)) : VE K Γ Θ (tBM K "list" rAppend (tVar i) (tCons te tNil)) Q := fun L S0 σ τ S Qv E k => by
  obtain ⟨ds0, c0, hc0, hl0⟩ := h0
  obtain ⟨a, ea, _, us, hu, _⟩ := E.own hc0 hl0
  refine ⟨_, ea, .inl ⟨rfl, us, .of hu⟩, h L S0 σ τ S _ E fun Γ1 S1 v x E1 ⟨d, ds, ex, ⟨c, hc, hl⟩, hz, q⟩ => ?_⟩
  subst ex
  obtain ⟨a', vs, ea', hv, p, mk⟩ := E1.pop.mutSlot hc hl
  rw [ea] at ea'; cases ea'
  have hd : Dq S1.b v d := E1.dt
  rw [putC_eq hc] at q
  exact ⟨a, vs, v, rfl, rfl, hv, by rw [p.len]; exact hz, k _ _ _ _ ((mk _ _ (p.app (.one hd))).push .non) q⟩
def rInsert : V → List V → Hp → VK → Prop := fun x vs H Q => ∃ (l : Addr) (xs : List V) (i : Int) (y : V), x = .ref l ∧ vs = [.int i, y] ∧ H l = some (.lst xs) ∧ xs.length < sizeLine ∧ 0 ≤ i ∧ i < 2 ^ 63 ∧ Q .non (upd H l (.lst (xs.take i.toNat ++ [y] ++ xs.drop i.toNat)))
theorem cm_insert {X : Cx} : MtR X "list.insert" rInsert := mt_insert
theorem ve_insert {i : Nat} {ti te : TE} {Q : List Cell → Tmp → Prop} (h0 : ∃ ds, IsLs Γ i ds)
    (h : VX K Γ Θ ti fun Γ1 b => VX K Γ1 (b.tmp :: Θ) te fun Γ2 a => ∃ j d ds, b = .dt (.int j) ∧ a = .dt d ∧ IsLs Γ2 i ds ∧ ds.length < sizeLine ∧ 0 ≤ j ∧ j < 2 ^ 63 ∧ Q (putC Γ2 i (ds.take j.toNat ++ [d] ++ ds.drop j.toNat)) (.dt .none)) :
    VE K Γ Θ (tBM K "list" rInsert (tVar i) (tCons ti (tCons te tNil))) Q := fun L S0 σ τ S Qv E k => by
  obtain ⟨ds0, c0, hc0, hl0⟩ := h0
  obtain ⟨a, ea, _, us, hu, _⟩ := E.own hc0 hl0
  refine ⟨_, ea, .inl ⟨rfl, us, .of hu⟩, h L S0 σ τ S _ E fun Γ1 S1 vj b E1 h1 => h1 L S0 σ _ S1 _ E1 fun Γ2 S2 v x E2 ⟨j, d, ds, eb, ex, ⟨c, hc, hl⟩, hz, hj0, hj1, q⟩ => ?_⟩
  subst ex eb
  obtain ⟨a', vs, ea', hv, p, mk⟩ := E2.pop.pop.mutSlot hc hl
  rw [ea] at ea'; cases ea'
  have hd : Dq S2.b v d := E2.dt
  have ej : vj = .int j := dp_int (show Dq S2.b vj (.int j) from E2.pop.dt)
  rw [putC_eq hc] at q
  exact ⟨a, vs, j, v, rfl, by rw [ej], hv, by rw [p.len]; exact hz, hj0, hj1, k _ _ _ _ ((mk _ _ (((p.take _).app (.one hd)).app (p.drop _))).push .non) q⟩
theorem ve_extend {i : Nat} {te : TE} {Q : List Cell → Tmp → Prop} (h0 : ∃ ds, IsLs Γ i ds) (h : VX K Γ Θ te fun Γ1 a => ∃ es ds, a = .dt (.list es) ∧ IsLs Γ1 i ds ∧ ds.length + es.length ≤ sizeLine ∧ Q (putC Γ1 i (ds ++ es)) (.dt .none)) : VE K Γ Θ (tBM K "list" rExtend (tVar i) (tCons te tNil)) Q := fun L S0 σ τ S Qv E k => by
  obtain ⟨ds0, c0, hc0, hl0⟩ := h0
  obtain ⟨a, ea, _, us, hu, _⟩ := E.own hc0 hl0
  refine ⟨_, ea, .inl ⟨rfl, us, .of hu⟩, h L S0 σ τ S _ E fun Γ1 S1 v x E1 ⟨es, ds, ex, ⟨c, hc, hl⟩, hz, q⟩ => ?_⟩
  subst ex
  obtain ⟨a', vs, ea', hv, p, mk⟩ := E1.pop.mutSlot hc hl
  rw [ea] at ea'; cases ea'
  obtain ⟨b, zs, eb, hb, pb⟩ := dp_list (show Dq S1.b v (.list es) from E1.dt)
  rw [putC_eq hc] at q
  exact ⟨a, b, vs, zs, rfl, by rw [eb], hv, E1.sub _ _ hb, by rw [p.len, pb.len]; exact hz, k _ _ _ _ ((mk _ _ (p.app pb)).push .non) q⟩
/-- l.index(x), flat -/
theorem ve_indexL {ta te : TE} {Q : List Cell → Tmp → Prop}
    (h : VE K Γ Θ ta fun Γ1 x => (∃ ds, rd Γ1 x (.list ds)) ∧ VE K Γ1 (x :: Θ) te fun Γ2 y => ∃ ds d j z, rd Γ2 x (.list ds) ∧ rd Γ2 y d ∧ flD d = true ∧ ds.all flD = true ∧ ds[j]? = some z ∧ eqF z d = true ∧ (∀ (m : Nat) z', m < j → ds[m]? = some z' → eqF z' d = false) ∧ Q Γ2 (.dt (.int (j : Nat)))) :
    VE K Γ Θ (tBM K "list" (rIndex K) ta (tCons te tNil)) Q := fun L S0 σ τ S Qv E k => h L S0 σ τ S _ E fun Γ1 S1 vx x E1 ⟨⟨ds0, hx0⟩, h1⟩ => by
  obtain ⟨a, us, ea, hu, _⟩ := rdB_l E1 hx0
  subst ea
  refine ⟨.inl ⟨rfl, us, .of hu⟩, h1 L S0 σ _ S1 _ E1 fun Γ2 S2 vy y E2 ⟨ds, d, j, z, hx, hy, f1, f2, hj, hz, hno, q⟩ => ?_⟩
  obtain ⟨a', zs, ea, hs, p⟩ := dp_list (E2.pop.rd hx)
  cases ea
  have gy := E2.rd hy
  obtain ⟨v, hv, gv⟩ := p.get hj
  have fz : flD z = true := List.all_eq_true.mp f2 z (List.mem_of_getElem? hj)
  refine ⟨a, zs, vy, j, v, rfl, rfl, .of hs, dq_flat gy f1, dqa_flat p f2, hv, (dq_eqF gv gy fz f1).trans hz, fun m z' hm hm' => ?_, k Γ2 S2 _ _ (E2.pop.pop.push (.int _)) q⟩
  obtain ⟨d', hd', gd'⟩ := p.getV hm'
  rw [dq_eqF gd' gy (List.all_eq_true.mp f2 d' (List.mem_of_getElem? hd')) f1]
  exact hno m d' hm hd'
end
end Ld
set_option Elab.async false
set_option linter.all false
set_option maxRecDepth 100000
namespace Ld
open PySem PySem.Spec PyProof.Rows L2 Lx
/-! ### statements: what is under way are the sources of the loops around -/
def srcT (ss : List Dat) : List Tmp := ss.map .dt
theorem nb_src {i : Nat} {ss : List Dat} : ∀ t ∈ srcT ss, t ≠ Tmp.br i := fun t ht e => by
  obtain ⟨d, _, rfl⟩ := List.mem_map.mp ht
  cases e
def VSs (K : PySem.W.Frag) (Γ : List Cell) (t : TS) (R : DE) : Prop := ∀ ss : List Dat, VS K Γ (srcT ss) t R
section
variable {K : PySem.W.Frag} {Γ : List Cell} {Θ : List Tmp}
abbrev DE.wn (R : DE) (n : List Cell → Prop) : DE := { R with nx := n }
theorem ss_seq {t u : TS} {R : DE} (h : VSs K Γ t (R.wn fun Γ' => VSs K Γ' u R)) : VSs K Γ (tSeq t u) R := fun ss L S0 σ τ S D E kn kr kb kc =>
  h ss L S0 σ τ S { D with nx := u D } E (fun Γ' σ' S' E' q => q ss L S0 σ' τ S' D E' kn kr kb kc) kr kb kc
theorem ss_next {R : DE} (h : R.nx Γ) : VSs K Γ tNext R := fun ss L S0 σ τ S D E kn kr kb kc => kn Γ σ S E h
theorem ss_cont {R : DE} (h : R.ct Γ) : VSs K Γ tCont R := fun ss L S0 σ τ S D E kn kr kb kc => kc Γ σ S E h
theorem ss_ret {te : TE} {R : DE} (h : ∀ ss, VD K Γ (srcT ss) te R.rt) : VSs K Γ (tRet te) R := fun ss L S0 σ τ S D E kn kr kb kc =>
  h ss L S0 σ τ S D.rt E fun Γ' S' v d E' q => kr Γ' σ S' v d E'.pop E'.dt q
theorem ss_retN {R : DE} (h : R.rt Γ .none) : VSs K Γ tRetN R := fun ss L S0 σ τ S D E kn kr kb kc => kr Γ σ S .non .none E .non h
theorem ss_drop {te : TE} {R : DE} (h : ∀ ss, VE K Γ (srcT ss) te fun Γ1 _ => R.nx Γ1) : VSs K Γ (tDrop te) R := fun ss L S0 σ τ S D E kn kr kb kc =>
  h ss L S0 σ τ S _ E fun Γ' S' v c E' q => kn Γ' σ S' E'.pop q
theorem ss_if {c : TT} {t u : TS} {R : DE} (h : ∀ ss, VT K Γ (srcT ss) c fun Γ1 b => (b = true → VSs K Γ1 t R) ∧ (b = false → VSs K Γ1 u R)) : VSs K Γ (tIfS c t u) R := fun ss L S0 σ τ S D E kn kr kb kc =>
  h ss L S0 σ τ S _ E fun Γ' S' b E' q => by
    cases b with
    | true => rw [if_pos rfl]; exact q.1 rfl ss L S0 σ τ S' D E' kn kr kb kc
    | false => rw [if_neg Bool.false_ne_true]; exact q.2 rfl ss L S0 σ τ S' D E' kn kr kb kc
/-- a stored value's cell -/
def Sto (Γ : List Cell) (i : Nat) (Q : List Cell → Prop) : Tmp → Prop
  | .dt d => Q (Γ.set i (.dt d))
  | .fr ds => Q (Γ.set i (.ow ds))
  | .br j => ∃ ds, Γ[j]? = some (.ow ds) ∧ Q ((Γ.set j (.dt (.list ds))).set i (.dt (.list ds)))
  | .sc _ => False
  | .ob p => Q (Γ.set i (.ob p))
  | .li R => Q (Γ.set i (.li R))
theorem ss_set {i : Nat} {te : TE} {R : DE} (h : ∀ ss, VE K Γ (srcT ss) te fun Γ1 c => Sto Γ1 i R.nx c) : VSs K Γ (tAsg te (gName i)) R := fun ss L S0 σ τ S D E kn kr kb kc =>
  h ss L S0 σ τ S _ E fun Γ' S' v c E' q => by
    cases c with
    | dt d => exact kn _ _ S' (E'.pop.setDt nb_src E'.dt) q
    | fr ds => exact kn _ _ S' (E'.setFr nb_src) q
    | sc ns => exact q.elim
    | ob pp => exact kn _ _ S' (E'.setOb nb_src) q
    | li R => exact kn _ _ S' (E'.setLi nb_src) q
    | br j =>
      obtain ⟨ds, hj, q⟩ := q
      obtain ⟨S2, e, E2⟩ := E'.frzSlot hj
      obtain ⟨w, h1, z2, h2⟩ := id E2.ok
      obtain ⟨u, eu, qu⟩ := h1 j _ (List.getElem?_set_self (List.getElem?_eq_some_iff.mp hj).1)
      have z2' : σ[j]? = some (some v) := z2
      rw [z2'] at eu; cases eu
      show D.nx _ S'.h
      rw [← e]
      exact kn _ _ S2 (E2.pop.setDt nb_src qu) q
end
section
variable {K : PySem.W.Frag} {Γ : List Cell} {Θ : List Tmp} {L : Addr → Prop} {S0 S : Hs} {σ : L2.St} {τ : List V}
/-- what is second is taken out -/
theorem Env.swap {x y : Tmp} {u v : V} (E : Env K L S0 Γ (y :: x :: Θ) σ (v :: u :: τ) S) : Env K L S0 Γ (x :: y :: Θ) σ (u :: v :: τ) S := by
  obtain ⟨w, g1, g3, g2, g4⟩ := E.ok
  refine ⟨E.gr, E.sub, E.len, fun a => match w a with
    | some (.inr n) => if n = Θ.length then some (.inr (n + 1)) else if n = Θ.length + 1 then some (.inr Θ.length) else some (.inr n)
    | o => o, fun i c e => ?_, ?_, ?_, g4.imp fun n t q hn z => ?_⟩
  · have q := g1 i c e
    cases c with
    | no => trivial
    | dt d => exact q
    | ow ds => obtain ⟨a, e, o, n⟩ := q; exact ⟨a, e, ⟨o.nb, by simp only [o.at_], o.is⟩, n⟩
    | ln ds => obtain ⟨a, e, o, n⟩ := q; exact ⟨a, e, ⟨o.nb, by simp only [o.at_], o.is⟩, n⟩
    | sc ns => exact q
    | ob pp => obtain ⟨a, e, o, n⟩ := q; exact ⟨a, e, ⟨o.nb, by simp only [o.at_], o.is⟩, n⟩
    | li R => obtain ⟨a, e, o⟩ := q; exact ⟨a, e, o.reK (fun x ho => by simp only [ho]) fun _ h => h⟩
  · cases x with
    | dt d => exact g2
    | fr ds => obtain ⟨a, e, o, n⟩ := g2; exact ⟨a, e, ⟨o.nb, by simp only [o.at_, if_pos, List.length_cons], o.is⟩, n⟩
    | br i => exact g2
    | sc ns => exact g2
    | ob pp => obtain ⟨a, e, o, n⟩ := g2; exact ⟨a, e, ⟨o.nb, by simp only [o.at_, if_pos, List.length_cons], o.is⟩, n⟩
    | li R => obtain ⟨a, e, o⟩ := g2; exact ⟨a, e, o.reK (fun x ho => by simp only [ho, if_pos, List.length_cons]) fun _ h => h⟩
  · cases y with
    | dt d => exact g3
    | fr ds => obtain ⟨a, e, o, n⟩ := g3; exact ⟨a, e, ⟨o.nb, by simp only [o.at_, List.length_cons, if_neg (Nat.succ_ne_self _), if_pos], o.is⟩, n⟩
    | br i => exact g3
    | sc ns => exact g3
    | ob pp => obtain ⟨a, e, o, n⟩ := g3; exact ⟨a, e, ⟨o.nb, by simp only [o.at_, List.length_cons, if_neg (Nat.succ_ne_self _), if_pos], o.is⟩, n⟩
    | li R => obtain ⟨a, e, o⟩ := g3; exact ⟨a, e, o.reK (fun x ho => by simp only [ho, List.length_cons, if_neg (Nat.succ_ne_self _), if_pos]) fun _ h => h⟩
  · cases q with
    | dt d => exact z
    | fr ds => obtain ⟨a, e, o, m⟩ := z; exact ⟨a, e, ⟨o.nb, by simp only [o.at_, if_neg (Nat.ne_of_lt hn), if_neg (Nat.ne_of_lt (Nat.lt_succ_of_lt hn))], o.is⟩, m⟩
    | br i => exact z
    | sc ns => exact z
    | ob pp => obtain ⟨a, e, o, m⟩ := z; exact ⟨a, e, ⟨o.nb, by simp only [o.at_, if_neg (Nat.ne_of_lt hn), if_neg (Nat.ne_of_lt (Nat.lt_succ_of_lt hn))], o.is⟩, m⟩
    | li R => obtain ⟨a, e, o⟩ := z; exact ⟨a, e, o.reK (fun x ho => by simp only [ho, if_neg (Nat.ne_of_lt hn), if_neg (Nat.ne_of_lt (Nat.lt_succ_of_lt hn))]) fun _ h => h⟩
/-- data or a new list, stored -/
def St1 (Γ : List Cell) (i : Nat) : Tmp → Option (List Cell)
  | .dt d => some (Γ.set i (.dt d))
  | .fr ds => some (Γ.set i (.ow ds))
  | .ob p => some (Γ.set i (.ob p))
  | .li R => some (Γ.set i (.li R))
  | _ => none
theorem Env.st1 {i : Nat} {c : Tmp} {v : V} {Γ' : List Cell} (E : Env K L S0 Γ (c :: Θ) σ (v :: τ) S) (hb : ∀ t ∈ Θ, t ≠ .br i) (h : St1 Γ i c = some Γ') : Env K L S0 Γ' Θ (σ.set i (some v)) τ S := by
  cases c with
  | dt d => cases h; exact E.pop.setDt hb E.dt
  | fr ds => cases h; exact E.setFr hb
  | br j => cases h
  | sc ns => cases h
  | ob pp => cases h; exact E.setOb hb
  | li R => cases h; exact E.setLi hb
end
section
variable {K : PySem.W.Frag} {Γ : List Cell} {Θ : List Tmp}
/-- a, b = x, y -/
theorem ss_par {i j : Nat} {ta tb : TE} {R : DE} (h : ∀ ss, VE K Γ (srcT ss) ta fun Γ1 x => VE K Γ1 (x :: srcT ss) tb fun Γ2 y => (∀ k, x ≠ .br k) ∧ ∃ Γ3 Γ4, St1 Γ2 i x = some Γ3 ∧ St1 Γ3 j y = some Γ4 ∧ R.nx Γ4) : VSs K Γ (tPar i j (tCons ta (tCons tb tNil))) R := fun ss L S0 σ τ S D E kn kr kb kc =>
  h ss L S0 σ τ S _ E fun Γ1 S1 u x E1 h1 => h1 L S0 σ _ S1 _ E1 fun Γ2 S2 v y E2 ⟨nx, Γ3, Γ4, e3, e4, q⟩ => by
    refine ⟨u, v, rfl, ?_⟩
    have ny : y ≠ .br i := fun z => by subst z; cases e4
    exact kn Γ4 _ S2 (((E2.swap).st1 (fun t ht => by
      rcases List.mem_cons.mp ht with rfl | ht
      · exact ny
      · exact nb_src t ht) e3).st1 nb_src e4) q
theorem ss_par3 {i j l : Nat} {ta tb tc : TE} {R : DE} (h : ∀ ss, VE K Γ (srcT ss) ta fun Γ1 x => VE K Γ1 (x :: srcT ss) tb fun Γ2 y => VE K Γ2 (y :: x :: srcT ss) tc fun Γ3 z => ∃ Γ4 Γ5 Γ6, St1 Γ3 i x = some Γ4 ∧ St1 Γ4 j y = some Γ5 ∧ St1 Γ5 l z = some Γ6 ∧ R.nx Γ6) :
    VSs K Γ (tPar3 i j l (tCons ta (tCons tb (tCons tc tNil)))) R := fun ss L S0 σ τ S D E kn kr kb kc =>
  h ss L S0 σ τ S _ E fun Γ1 S1 u x E1 h1 => h1 L S0 σ _ S1 _ E1 fun Γ2 S2 v y E2 h2 => h2 L S0 σ _ S2 _ E2 fun Γ3 S3 w z E3 ⟨Γ4, Γ5, Γ6, e4, e5, e6, q⟩ => by
    refine ⟨u, v, w, rfl, ?_⟩
    have ny : ∀ k, y ≠ .br k := fun k z => by subst z; cases e5
    have nz : ∀ k, z ≠ .br k := fun k q => by subst q; cases e6
    -- z :: y :: x  ->  x first
    obtain ⟨wd, g1, gz, gy, gx, g4⟩ := id E3.ok
    have E4 : Env K L S0 Γ3 (y :: x :: srcT ss) σ (v :: u :: τ) S3 := E3.pop
    -- store z last: keep it by storing x, y under it
    have a1 : Env K L S0 Γ3 (y :: z :: x :: srcT ss) σ (v :: w :: u :: τ) S3 := E3.swap
    have a2 : ∃ E' : True, Env K L S0 Γ3 (x :: z :: y :: srcT ss) σ (u :: w :: v :: τ) S3 := by
      -- rotate by hand: the word w over the three places
      refine ⟨trivial, E3.gr, E3.sub, E3.len, fun a => match wd a with
        | some (.inr n) => if n = ss.length then some (.inr (n + 2)) else if n = ss.length + 1 then some (.inr ss.length) else if n = ss.length + 2 then some (.inr (ss.length + 1)) else some (.inr n)
        | o => o, fun i c e => ?_, ?_, ?_, ?_, g4.imp fun n t q hn z => ?_⟩
      · have q := g1 i c e
        cases c with
        | no => trivial
        | dt d => exact q
        | ow ds => obtain ⟨a, e, o, n⟩ := q; exact ⟨a, e, ⟨o.nb, by simp only [o.at_], o.is⟩, n⟩
        | ln ds => obtain ⟨a, e, o, n⟩ := q; exact ⟨a, e, ⟨o.nb, by simp only [o.at_], o.is⟩, n⟩
        | sc ns => exact q
        | ob pp => obtain ⟨a, e, o, n⟩ := q; exact ⟨a, e, ⟨o.nb, by simp only [o.at_], o.is⟩, n⟩
        | li R => obtain ⟨a, e, o⟩ := q; exact ⟨a, e, o.reK (fun x ho => by simp only [ho]) fun _ h => h⟩
      · cases x with
        | dt d => exact gx
        | fr ds => obtain ⟨a, e, o, n⟩ := gx; exact ⟨a, e, ⟨o.nb, by simp [o.at_, srcT] <;> omega, o.is⟩, n⟩
        | br i => exact gx
        | sc ns => exact gx
        | ob pp => obtain ⟨a, e, o, n⟩ := gx; exact ⟨a, e, ⟨o.nb, by simp [o.at_, srcT] <;> omega, o.is⟩, n⟩
        | li R => obtain ⟨a, e, o⟩ := gx; exact ⟨a, e, o.reK (fun x ho => by simp [ho, srcT] <;> omega) fun _ h => h⟩
      · cases z with
        | dt d => exact gz
        | fr ds => obtain ⟨a, e, o, n⟩ := gz; exact ⟨a, e, ⟨o.nb, by simp [o.at_, srcT] <;> omega, o.is⟩, n⟩
        | br i => exact gz
        | sc ns => exact gz
        | ob pp => obtain ⟨a, e, o, n⟩ := gz; exact ⟨a, e, ⟨o.nb, by simp [o.at_, srcT] <;> omega, o.is⟩, n⟩
        | li R => obtain ⟨a, e, o⟩ := gz; exact ⟨a, e, o.reK (fun x ho => by simp [ho, srcT] <;> omega) fun _ h => h⟩
      · cases y with
        | dt d => exact gy
        | fr ds => obtain ⟨a, e, o, n⟩ := gy; exact ⟨a, e, ⟨o.nb, by simp [o.at_, srcT] <;> omega, o.is⟩, n⟩
        | br i => exact gy
        | sc ns => exact gy
        | ob pp => obtain ⟨a, e, o, n⟩ := gy; exact ⟨a, e, ⟨o.nb, by simp [o.at_, srcT] <;> omega, o.is⟩, n⟩
        | li R => obtain ⟨a, e, o⟩ := gy; exact ⟨a, e, o.reK (fun x ho => by simp [ho, srcT] <;> omega) fun _ h => h⟩
      · have hn' : n < ss.length := by simpa [srcT] using hn
        cases q with
        | dt d => exact z
        | fr ds => obtain ⟨a, e, o, m⟩ := z; exact ⟨a, e, ⟨o.nb, by simp only [o.at_, if_neg (Nat.ne_of_lt hn'), if_neg (show n ≠ ss.length + 1 by omega), if_neg (show n ≠ ss.length + 2 by omega)], o.is⟩, m⟩
        | br i => exact z
        | sc ns => exact z
        | ob pp => obtain ⟨a, e, o, m⟩ := z; exact ⟨a, e, ⟨o.nb, by simp only [o.at_, if_neg (Nat.ne_of_lt hn'), if_neg (show n ≠ ss.length + 1 by omega), if_neg (show n ≠ ss.length + 2 by omega)], o.is⟩, m⟩
        | li R => obtain ⟨a, e, o⟩ := z; exact ⟨a, e, o.reK (fun x ho => by simp only [ho, if_neg (Nat.ne_of_lt hn'), if_neg (show n ≠ ss.length + 1 by omega), if_neg (show n ≠ ss.length + 2 by omega)]) fun _ h => h⟩
    obtain ⟨_, a2⟩ := a2
    have a3 := a2.st1 (Γ' := Γ4) (fun t ht => by
      rcases List.mem_cons.mp ht with rfl | ht
      · exact nz i
      · rcases List.mem_cons.mp ht with rfl | ht
        · exact ny i
        · exact nb_src t ht) e4
    have a4 := (a3.swap).st1 (Γ' := Γ5) (fun t ht => by
      rcases List.mem_cons.mp ht with rfl | ht
      · exact nz j
      · exact nb_src t ht) e5
    exact kn Γ6 _ S3 (a4.st1 nb_src e6) q
/-- xs[i] = e, a list of one's own -/
theorem ss_setL {j : Nat} {te ti : TE} {R : DE} (h : ∀ ss, VX K Γ (srcT ss) te fun Γ1 a => (∃ ds, IsLs Γ1 j ds) ∧ VE K Γ1 (a.tmp :: srcT ss) ti fun Γ2 y => ∃ d i ds k, a = .dt d ∧ y = .dt (.int i) ∧ IsLs Γ2 j ds ∧ ixN ds.length i = some k ∧ R.nx (putC Γ2 j (ds.set k d))) :
    VSs K Γ (tAsg te (gSub (tVar j) ti rSetL)) R := fun ss L S0 σ τ S D E kn kr kb kc => h ss L S0 σ τ S _ E fun Γ1 S1 v a E1 ⟨⟨ds0, c0, hc0, hl0⟩, h1⟩ => by
  obtain ⟨l, el, _⟩ := E1.own hc0 hl0
  refine ⟨_, el, h1 L S0 σ _ S1 _ E1 fun Γ2 S2 vi y E2 ⟨d, i, ds, k, ea, ey, ⟨c, hc, hl⟩, hk, q⟩ => ?_⟩
  subst ea ey
  obtain ⟨l', vs, el', hv, p, mk⟩ := E2.pop.pop.mutSlot hc hl
  rw [el] at el'; cases el'
  have hd : Dq S2.b v d := E2.pop.dt
  rw [putC_eq hc] at q
  exact ⟨l, vs, i, k, rfl, dp_int E2.dt, hv, by rw [p.len]; exact hk, kn _ _ _ (mk _ _ (p.set hd k)) q⟩
theorem dqa_one {H : Hp} {v : V} {d : Dat} (h : DqAll H [v] [d]) : Dq H v d := by cases h with | cons a _ => exact a
theorem dqa_two {H : Hp} {u v : V} {d e : Dat} (h : DqAll H [u, v] [d, e]) : Dq H u d ∧ Dq H v e := by cases h with | cons a b => exact ⟨a, dqa_one b⟩
theorem src_l {K : PySem.W.Frag} {S : Hs} {a : Addr} {ds : List Dat} (sub : Same S.b S.h) (h : Dq S.b (.ref a) (.list ds)) : ∃ ys, SqL K S.h a ys ∧ DqAll S.b ys ds := by
  obtain ⟨b, ys, eb, hy, py⟩ := dp_list h
  cases eb
  exact ⟨ys, SqL.of (sub _ _ hy), py⟩
theorem src_t {K : PySem.W.Frag} {S : Hs} {a : Addr} {ds : List Dat} (sub : Same S.b S.h) (h : Dq S.b (.ref a) (.tuple ds)) : ∃ ys, SqT K S.h a ys ∧ DqAll S.b ys ds := by
  obtain ⟨b, o, ys, eb, _, hy, py⟩ := dp_tup h
  cases eb
  exact ⟨ys, sqt_f (sub _ _ hy), py⟩
/-- an item that a loop gives: data, or a pair that was just made -/
def Itm (H : Hp) (v : V) (d : Dat) : Bool → Prop
  | false => Dq H v d
  | true => ∃ a xs ds, v = .ref a ∧ d = .tuple ds ∧ H a = some (.tup xs) ∧ DqAll H xs ds
/-! ### what a loop walks -/
structure Dw (K : PySem.W.Frag) (J : It) (srcs : List Dat) (τ1 : List V) (pr : Bool) (ds : List Dat) : Prop where
  go : ∀ (S : Hs) i, Same S.b S.h → DqAll S.b τ1 srcs → i < ds.length → J.go i S.h
  stop : ∀ (S : Hs), Same S.b S.h → DqAll S.b τ1 srcs → J.stop ds.length S.h
  yld : ∀ (S : Hs) i x H', Same S.b S.h → DqAll S.b τ1 srcs → i < ds.length → J.yld i S.h x H' → ∃ S' d, S'.h = H' ∧ Gr L0 S S' ∧ Same S'.b S'.h ∧ ds[i]? = some d ∧ Itm S'.b x d pr
def VI (K : PySem.W.Frag) (Γ : List Cell) (Θ : List Tmp) (wi : TI) (Q : List Cell → Bool → List Dat → Prop) : Prop := ∀ (L : Addr → Prop) (S0 : Hs) (σ : L2.St) (τ : List V) (S : Hs) (R : It → Hp → Prop), Env K L S0 Γ Θ σ τ S →
  (∀ Γ' srcs τ1 S' J pr ds, Env K L S0 Γ' (srcT srcs ++ Θ) σ (τ1 ++ τ) S' → τ1.length = srcs.length → Dw K J srcs τ1 pr ds → Q Γ' pr ds → R J S'.h) → wi σ S.h R
theorem srcs_ok {L : Addr → Prop} {S0 S : Hs} {σ : L2.St} {τ : List V} {w : Wh} : ∀ {srcs : List Dat} {τ1 : List V}, TmpsOk K S0 w S σ (srcT srcs ++ Θ) (τ1 ++ τ) → τ1.length = srcs.length → DqAll S.b τ1 srcs
  | [], [], _, _ => .nil
  | d :: ds, v :: vs, h, e => .cons h.1 (srcs_ok (L := L) h.2 (by simpa using e))
  | [], _ :: _, _, e => by cases e
  | _ :: _, [], _, e => by cases e
theorem Env.srcs {L : Addr → Prop} {S0 S : Hs} {σ : L2.St} {τ τ1 : List V} {srcs : List Dat} (E : Env K L S0 Γ (srcT srcs ++ Θ) σ (τ1 ++ τ) S) (e : τ1.length = srcs.length) : DqAll S.b τ1 srcs := by
  obtain ⟨w, _, h⟩ := E.ok
  exact srcs_ok (L := L) h e
theorem Env.unsrc {L : Addr → Prop} {S0 S : Hs} {σ : L2.St} {τ : List V} : ∀ {srcs : List Dat} {τ1 : List V}, Env K L S0 Γ (srcT srcs ++ Θ) σ (τ1 ++ τ) S → τ1.length = srcs.length → Env K L S0 Γ Θ σ τ S
  | [], [], E, _ => E
  | d :: ds, v :: vs, E, e => Env.unsrc (srcs := ds) (τ1 := vs) E.pop (by simpa using e)
  | [], _ :: _, _, e => by cases e
  | _ :: _, [], _, e => by cases e
/-- a list -/
theorem vi_list {te : TE} {Q : List Cell → Bool → List Dat → Prop} (h : VD K Γ Θ te fun Γ1 d => ∃ ds, d = .list ds ∧ Q Γ1 false ds) : VI K Γ Θ (iList K te) Q := fun L S0 σ τ S R E k => h L S0 σ τ S _ E fun Γ1 S1 v d E1 ⟨ds, ed, q⟩ => by
  subst ed
  obtain ⟨a, xs, ev, hx, p⟩ := dp_list E1.dt
  subst ev
  refine ⟨a, rfl, ⟨xs, .of (E1.sub _ _ hx)⟩, k Γ1 [.list ds] [.ref a] S1 _ false ds E1 rfl ⟨fun S i sub hs hi => ?_, fun S sub hs => ?_, fun S i x H' sub hs hi y => ?_⟩ q⟩
  · obtain ⟨ys, hy', py⟩ := src_l (K := K) sub (dqa_one hs)
    obtain ⟨z, hz, _⟩ := py.get (List.getElem?_eq_getElem hi)
    exact ⟨ys, z, hy', hz⟩
  · obtain ⟨ys, hy', py⟩ := src_l (K := K) sub (dqa_one hs)
    exact ⟨ys, hy', Nat.le_of_eq py.len⟩
  · obtain ⟨ys, hy', py⟩ := src_l (K := K) sub (dqa_one hs)
    obtain ⟨rfl, y⟩ := y
    obtain ⟨d, hd, gd⟩ := py.getV (y ys hy')
    exact ⟨S, d, rfl, Gr.refl _ _, sub, hd, gd⟩
theorem vi_tup {te : TE} {Q : List Cell → Bool → List Dat → Prop} (h : VD K Γ Θ te fun Γ1 d => ∃ ds, d = .tuple ds ∧ Q Γ1 false ds) : VI K Γ Θ (iTup K te) Q := fun L S0 σ τ S R E k => h L S0 σ τ S _ E fun Γ1 S1 v d E1 ⟨ds, ed, q⟩ => by
  subst ed
  obtain ⟨a, o, xs, ev, _, hx, p⟩ := dp_tup E1.dt
  subst ev
  refine ⟨a, rfl, ⟨xs, sqt_f (E1.sub _ _ hx)⟩, k Γ1 [.tuple ds] [.ref a] S1 _ false ds E1 rfl ⟨fun S i sub hs hi => ?_, fun S sub hs => ?_, fun S i x H' sub hs hi y => ?_⟩ q⟩
  · obtain ⟨ys, hy', py⟩ := src_t (K := K) sub (dqa_one hs)
    obtain ⟨z, hz, _⟩ := py.get (List.getElem?_eq_getElem hi)
    exact ⟨ys, z, hy', hz⟩
  · obtain ⟨ys, hy', py⟩ := src_t (K := K) sub (dqa_one hs)
    exact ⟨ys, hy', Nat.le_of_eq py.len⟩
  · obtain ⟨ys, hy', py⟩ := src_t (K := K) sub (dqa_one hs)
    obtain ⟨rfl, y⟩ := y
    obtain ⟨d, hd, gd⟩ := py.getV (y ys hy')
    exact ⟨S, d, rfl, Gr.refl _ _, sub, hd, gd⟩
def rngD (lo hi : Int) : List Dat := (List.range (hi - lo).toNat).map fun i => .int (lo + (i : Nat))
theorem rngD_len {lo hi : Int} : (rngD lo hi).length = (hi - lo).toNat := by unfold rngD; rw [List.length_map, List.length_range]
theorem rngD_at {lo hi : Int} {i : Nat} (h : i < (hi - lo).toNat) : (rngD lo hi)[i]? = some (.int (lo + (i : Nat))) := by
  unfold rngD
  rw [List.getElem?_map, List.getElem?_eq_getElem (by rw [List.length_range]; exact h), List.getElem_range] <;> rfl
theorem dw_rng {lo : Int} {hi : Int} : Dw K (Itr lo (hi - lo).toNat) [] [] false (rngD lo hi) :=
  ⟨fun S i _ _ h => by rw [rngD_len] at h; exact h, fun S _ _ => by rw [rngD_len]; exact Nat.le_refl _, fun S i x H' sub _ hi y => by
    obtain ⟨rfl, rfl⟩ := y
    rw [rngD_len] at hi
    exact ⟨S, _, rfl, Gr.refl _ _, sub, rngD_at hi, .int _⟩⟩
theorem vi_rng1 {te : TE} {Q : List Cell → Bool → List Dat → Prop} (h : VE K Γ Θ te fun Γ1 x => ∃ n, x = .dt (.int n) ∧ -(2 ^ 62) ≤ n ∧ n < 2 ^ 62 ∧ Q Γ1 false (rngD 0 n)) : VI K Γ Θ (iRng1 (tCons te tNil)) Q := fun L S0 σ τ S R E k => h L S0 σ τ S _ E fun Γ1 S1 v x E1 ⟨n, ex, h1, h2, q⟩ => by
  subst ex
  refine ⟨n, by rw [dp_int E1.dt], h1, h2, ?_⟩
  have w := dw_rng (K := K) (lo := 0) (hi := n)
  rw [Int.sub_zero] at w
  exact k Γ1 [] [] S1 _ false _ E1.pop rfl w q
theorem vi_rng2 {ta tb : TE} {Q : List Cell → Bool → List Dat → Prop} (h : VE K Γ Θ ta fun Γ1 x => VE K Γ1 (x :: Θ) tb fun Γ2 y => ∃ m n, x = .dt (.int m) ∧ y = .dt (.int n) ∧ (-(2 ^ 62) ≤ m ∧ m < 2 ^ 62 ∧ -(2 ^ 62) ≤ n ∧ n < 2 ^ 62) ∧ Q Γ2 false (rngD m n)) :
    VI K Γ Θ (iRng2 (tCons ta (tCons tb tNil))) Q := fun L S0 σ τ S R E k => h L S0 σ τ S _ E fun Γ1 S1 u x E1 h1 => h1 L S0 σ _ S1 _ E1 fun Γ2 S2 v y E2 ⟨m, n, ex, ey, hb, q⟩ => by
  subst ex ey
  exact ⟨m, n, by rw [dp_int E2.dt, dp_int E2.pop.dt], hb, k Γ2 [] [] S2 _ false _ E2.pop.pop rfl dw_rng q⟩
def enumD (xs : List Dat) : List Dat := xs.zipIdx.map fun p => .tuple [.int (p.2 : Nat), p.1]
theorem enumD_len {xs : List Dat} : (enumD xs).length = xs.length := by unfold enumD; rw [List.length_map, List.length_zipIdx]
theorem enumD_at {xs : List Dat} {i : Nat} {d : Dat} (h : xs[i]? = some d) : (enumD xs)[i]? = some (.tuple [.int (i : Nat), d]) := by
  unfold enumD
  rw [List.getElem?_map, List.getElem?_zipIdx, h]
  show some (PyData.tuple [.int ((0 + i : Nat) : Int), d]) = _
  rw [Nat.zero_add]
/-- a new pair -/
theorem gr_pair {S : Hs} {T : Addr} {x y : V} {d e : Dat} (sub : Same S.b S.h) (hT : S.h T = none) (hx : Dq S.b x d) (hy : Dq S.b y e) :
    ∃ S' : Hs, S'.h = upd S.h T (.tup [x, y]) ∧ Gr L0 S S' ∧ Same S'.b S'.h ∧ Itm S'.b (.ref T) (.tuple [d, e]) true := by
  have g := gr_newB (o := .tup [x, y]) hT sub
  exact ⟨⟨upd S.b T (.tup [x, y]), upd S.h T (.tup [x, y])⟩, rfl, g, sub_newB hT sub, T, _, _, rfl, rfl, upd_same, .cons (dp_mono g.b _ _ hx) (.cons (dp_mono g.b _ _ hy) .nil)⟩
theorem vi_enum {te : TE} {Q : List Cell → Bool → List Dat → Prop} (h : VD K Γ Θ te fun Γ1 d => ∃ ds, d = .list ds ∧ Q Γ1 true (enumD ds)) : VI K Γ Θ (iEnum K (tCons te tNil)) Q := fun L S0 σ τ S R E k => h L S0 σ τ S _ E fun Γ1 S1 v d E1 ⟨ds, ed, q⟩ => by
  subst ed
  obtain ⟨a, xs, ev, hx, p⟩ := dp_list E1.dt
  subst ev
  refine ⟨a, xs, rfl, .of (E1.sub _ _ hx), k Γ1 [.list ds] [.ref a] S1 _ true (enumD ds) E1 rfl ⟨fun S i sub hs hi => ?_, fun S sub hs => ?_, fun S i x H' sub hs hi y => ?_⟩ q⟩
  · obtain ⟨ys, hy', py⟩ := src_l (K := K) sub (dqa_one hs)
    rw [enumD_len] at hi
    obtain ⟨z, hz, _⟩ := py.get (List.getElem?_eq_getElem hi)
    exact ⟨ys, z, hy', hz⟩
  · obtain ⟨ys, hy', py⟩ := src_l (K := K) sub (dqa_one hs)
    exact ⟨ys, hy', by rw [enumD_len]; exact Nat.le_of_eq py.len⟩
  · obtain ⟨ys, hy', py⟩ := src_l (K := K) sub (dqa_one hs)
    rw [enumD_len] at hi
    obtain ⟨T, z, rfl, hT, rfl, y⟩ := y
    obtain ⟨d, hd, gd⟩ := py.getV (y ys hy')
    obtain ⟨S', e1, g1, s1, q1⟩ := gr_pair sub hT (.int (i : Nat)) gd
    exact ⟨S', _, e1, g1, s1, enumD_at hd, q1⟩
def zipD (xs ys : List Dat) : List Dat := (xs.zip ys).map fun p => .tuple [p.1, p.2]
theorem zipD_len {xs ys : List Dat} : (zipD xs ys).length = min xs.length ys.length := by unfold zipD; rw [List.length_map, List.length_zip]
theorem zipD_at {xs ys : List Dat} {i : Nat} {d e : Dat} (h : xs[i]? = some d) (h' : ys[i]? = some e) : (zipD xs ys)[i]? = some (.tuple [d, e]) := by
  unfold zipD
  rw [List.getElem?_map, List.zip_eq_zipWith, List.getElem?_zipWith, h, h'] <;> rfl
theorem vi_zip {ta tb : TE} {Q : List Cell → Bool → List Dat → Prop} (h : VD K Γ Θ ta fun Γ1 d => VD K Γ1 (.dt d :: Θ) tb fun Γ2 e => ∃ ds es, d = .list ds ∧ e = .list es ∧ Q Γ2 true (zipD ds es)) : VI K Γ Θ (iZip K (tCons ta (tCons tb tNil))) Q := fun L S0 σ τ S R E k =>
  h L S0 σ τ S _ E fun Γ1 S1 u d E1 h1 => h1 L S0 σ _ S1 _ E1 fun Γ2 S2 v e E2 ⟨ds, es, ed, ee, q⟩ => by
  subst ed ee
  obtain ⟨b, zs, eb, hb, pb⟩ := dp_list E2.dt
  obtain ⟨a, xs, ea, hx, p⟩ := dp_list E2.pop.dt
  subst ea eb
  refine ⟨a, b, xs, zs, rfl, .of (E2.sub _ _ hx), .of (E2.sub _ _ hb), k Γ2 [.list es, .list ds] [.ref b, .ref a] S2 _ true (zipD ds es) E2 rfl ⟨fun S i sub hs hi => ?_, fun S sub hs => ?_, fun S i x H' sub hs hi y => ?_⟩ q⟩
  · obtain ⟨ws, hw', pw⟩ := src_l (K := K) sub (dqa_two hs).1
    obtain ⟨ys, hy', py⟩ := src_l (K := K) sub (dqa_two hs).2
    rw [zipD_len] at hi
    have i1 : i < ds.length := by omega
    have i2 : i < es.length := by omega
    obtain ⟨z, hz, _⟩ := py.get (List.getElem?_eq_getElem i1)
    obtain ⟨z', hz', _⟩ := pw.get (List.getElem?_eq_getElem i2)
    exact ⟨ys, ws, z, z', hy', hw', hz, hz'⟩
  · obtain ⟨ws, hw', pw⟩ := src_l (K := K) sub (dqa_two hs).1
    obtain ⟨ys, hy', py⟩ := src_l (K := K) sub (dqa_two hs).2
    refine ⟨ys, ws, hy', hw', ?_⟩
    rw [zipD_len, py.len, pw.len]
    omega
  · obtain ⟨ws, hw', pw⟩ := src_l (K := K) sub (dqa_two hs).1
    obtain ⟨ys, hy', py⟩ := src_l (K := K) sub (dqa_two hs).2
    obtain ⟨T, z, z', rfl, hT, rfl, y1, y2⟩ := y
    obtain ⟨d, hd, gd⟩ := py.getV (y1 ys hy')
    obtain ⟨e, he, ge⟩ := pw.getV (y2 ws hw')
    obtain ⟨S', e1, g1, s1, q1⟩ := gr_pair sub hT gd ge
    exact ⟨S', _, e1, g1, s1, zipD_at hd he, q1⟩
/-! ### targets -/
def VG (K : PySem.W.Frag) (pr : Bool) (Γ : List Cell) (g : TG) (d : Dat) (Q : List Cell → Prop) : Prop := ∀ (L : Addr → Prop) (S0 : Hs) (Θ : List Tmp) (σ : L2.St) (τ : List V) (S : Hs) (v : V) (R : L2.St → Hp → Prop), (∀ i, ∀ t ∈ Θ, t ≠ Tmp.br i) → Env K L S0 Γ Θ σ τ S → Itm S.b v d pr →
  (∀ Γ' σ', Env K L S0 Γ' Θ σ' τ S → Q Γ' → R σ' S.h) → g v σ S.h R
theorem vg_name {i : Nat} {d : Dat} {Q : List Cell → Prop} (q : Q (Γ.set i (.dt d))) : VG K false Γ (gName i) d Q := fun L S0 Θ σ τ S v R nb E hd k => k _ _ (E.setDt (nb i) hd) q
theorem vg_pair {pr : Bool} {i j : Nat} {x y : Dat} {Q : List Cell → Prop} (q : Q ((Γ.set i (.dt x)).set j (.dt y))) : VG K pr Γ (gTup K 2 (gCons (gName i) (gCons (gName j) gNil))) (.tuple [x, y]) Q := fun L S0 Θ σ τ S v R nb E hd k => by
  obtain ⟨a, xs, e, h, p⟩ : ∃ a xs, v = .ref a ∧ SqT K S.h a xs ∧ DqAll S.b xs [x, y] := by
    cases pr with
    | false =>
      obtain ⟨a, o, xs, e, _, h, p⟩ := dp_tup (show Dq S.b v (.tuple [x, y]) from hd)
      exact ⟨a, xs, e, sqt_f (E.sub _ _ h), p⟩
    | true =>
      obtain ⟨a, xs, ds, e, e2, h, p⟩ := hd
      cases e2
      exact ⟨a, xs, e, .of (E.sub _ _ h), p⟩
  cases p with
  | cons p1 p =>
    cases p with
    | cons p2 p =>
      cases p
      exact ⟨a, _, e, h, rfl, _, _, rfl, _, _, rfl, rfl, k _ _ ((E.setDt (nb i) p1).setDt (nb j) p2) q⟩
/-- a, b = e -/
theorem ss_asgG {te : TE} {g : TG} {R : DE} (h : ∀ ss, VD K Γ (srcT ss) te fun Γ1 d => VG K false Γ1 g d R.nx) : VSs K Γ (tAsg te g) R := fun ss L S0 σ τ S D E kn kr kb kc =>
  h ss L S0 σ τ S _ E fun Γ' S' v d E' q => q L S0 (srcT ss) σ τ S' v _ (fun i => nb_src) E'.pop E'.dt fun Γ2 σ2 E2 z => kn Γ2 σ2 S' E2 z
/-! ### for, while -/
theorem ss_for {wi : TI} {g : TG} {tb : TS} {R : DE} (P : Nat → List Cell → Prop)
    (h : ∀ ss, VI K Γ (srcT ss) wi fun Γ1 pr ds => P 0 Γ1 ∧ (∀ i d Γ2, ds[i]? = some d → P i Γ2 → VG K pr Γ2 g d fun Γ3 => VSs K Γ3 tb ⟨P (i + 1), R.rt, R.nx, P (i + 1)⟩) ∧ ∀ Γ2, P ds.length Γ2 → R.nx Γ2) : VSs K Γ (tFor wi g tb) R := fun ss L S0 σ τ S D E kn kr kb kc =>
  h ss L S0 σ τ S _ E fun Γ1 srcs τ1 S1 J pr ds E1 hl w ⟨h0, hs, hd⟩ => by
    have nbr : ∀ i, ∀ t ∈ srcT srcs ++ srcT ss, t ≠ Tmp.br i := fun i t ht => (List.mem_append.mp ht).elim (nb_src t) (nb_src t)
    refine ⟨fun i m σ H => m = ds.length - i ∧ i ≤ ds.length ∧ ∃ Γ2 S2, S2.h = H ∧ Env K L S0 Γ2 (srcT srcs ++ srcT ss) σ (τ1 ++ τ) S2 ∧ P i Γ2, ⟨_, rfl, Nat.zero_le _, Γ1, S1, rfl, E1, h0⟩, ?_⟩
    rintro i m σ2 H ⟨rfl, hi, Γ2, S2, rfl, E2, p⟩
    have dq := E2.srcs hl
    by_cases hlt : i < ds.length
    · refine .inr ⟨w.go S2 i E2.sub dq hlt, fun σ3 H3 => ∃ Γ3 S3, S3.h = H3 ∧ Env K L S0 Γ3 (srcT srcs ++ srcT ss) σ3 (τ1 ++ τ) S3 ∧ P (i + 1) Γ3, fun σ' H' ⟨Γ3, S3, e, E3, p3⟩ => ⟨_, by omega, rfl, hlt, Γ3, S3, e, E3, p3⟩, fun x H' y => ?_⟩
      obtain ⟨S3, d, e3, g3, s3, hd3, q3⟩ := w.yld S2 i x H' E2.sub dq hlt y
      subst e3
      refine hs i d Γ2 hd3 p L S0 _ σ2 _ S3 x _ nbr (E2.grow g3 s3) q3 fun Γ4 σ4 E4 q4 => ?_
      have es : srcT srcs ++ srcT ss = srcT (srcs ++ ss) := by unfold srcT; rw [List.map_append]
      rw [es] at E4
      refine q4 (srcs ++ ss) L S0 σ4 _ S3 _ E4 (fun Γ' σ' S' E' q => ?_) (fun Γ' σ' S' v d E' hv q => ?_) (fun Γ' σ' S' E' q => ?_) (fun Γ' σ' S' E' q => ?_)
      · rw [← es] at E'; exact ⟨Γ', S', rfl, E', q⟩
      · rw [← es] at E'; exact kr Γ' σ' S' v d (E'.unsrc hl) hv q
      · rw [← es] at E'; exact kn Γ' σ' S' (E'.unsrc hl) q
      · rw [← es] at E'; exact ⟨Γ', S', rfl, E', q⟩
    · have e : i = ds.length := by omega
      subst e
      exact .inl ⟨w.stop S2 E2.sub dq, kn Γ2 σ2 S2 (E2.unsrc hl) (hd Γ2 p)⟩
theorem ss_while {c : TT} {tb : TS} {R : DE} (P : Nat → List Cell → Prop) (m0 : Nat) (h0 : P m0 Γ)
    (hs : ∀ m Γ1, P m Γ1 → ∀ ss, VT K Γ1 (srcT ss) c fun Γ2 b => (b = true → VSs K Γ2 tb ⟨fun Γ3 => ∃ m', m' < m ∧ P m' Γ3, R.rt, R.nx, fun Γ3 => ∃ m', m' < m ∧ P m' Γ3⟩) ∧ (b = false → R.nx Γ2)) : VSs K Γ (tWhile c tb) R := fun ss L S0 σ τ S D E kn kr kb kc => by
  refine ⟨fun m σ H => ∃ Γ2 S2, S2.h = H ∧ Env K L S0 Γ2 (srcT ss) σ τ S2 ∧ P m Γ2, ⟨m0, Γ, S, rfl, E, h0⟩, ?_⟩
  rintro m σ2 H ⟨Γ2, S2, rfl, E2, p⟩
  refine hs m Γ2 p ss L S0 σ2 τ S2 _ E2 fun Γ3 S3 b E3 q => ?_
  cases b with
  | true =>
    rw [if_pos rfl]
    refine ⟨fun σ' H' => ∃ m' Γ' S', m' < m ∧ S'.h = H' ∧ Env K L S0 Γ' (srcT ss) σ' τ S' ∧ P m' Γ', fun σ' H' ⟨m', Γ', S', hm, e, E', p'⟩ => ⟨m', hm, Γ', S', e, E', p'⟩, ?_⟩
    refine q.1 rfl ss L S0 σ2 τ S3 _ E3 (fun Γ' σ' S' E' q => ?_) kr (fun Γ' σ' S' E' q => kn Γ' σ' S' E' q) (fun Γ' σ' S' E' q => ?_)
    · obtain ⟨m', hm, p'⟩ := q; exact ⟨m', Γ', S', hm, rfl, E', p'⟩
    · obtain ⟨m', hm, p'⟩ := q; exact ⟨m', Γ', S', hm, rfl, E', p'⟩
  | false => rw [if_neg Bool.false_ne_true]; exact kn Γ3 σ2 S3 E3 (q.2 rfl)
end
end Ld
set_option Elab.async false
set_option linter.all false
set_option maxRecDepth 100000
namespace Ld
open PySem PySem.Spec PyProof.Rows L2 Lx
/-! ### comprehensions -/
def clr : List Nat → List Cell → List Cell
  | [], Γ => Γ
  | v :: vs, Γ => (clr vs Γ).set v .no
theorem clr_len {Γ : List Cell} : ∀ vs : List Nat, (clr vs Γ).length = Γ.length
  | [] => rfl
  | v :: vs => by unfold clr; rw [List.length_set, clr_len vs]
theorem clr_at {Γ : List Cell} {i : Nat} {c : Cell} : ∀ {vs : List Nat}, (clr vs Γ)[i]? = some c → c = Cell.no ∨ Γ[i]? = some c
  | [], h => .inr h
  | v :: vs, h => by
    unfold clr at h
    by_cases e : v = i
    · subst e
      rw [List.getElem?_set_self (by
        have := (List.getElem?_eq_some_iff.mp h).1
        rw [List.length_set] at this; exact this)] at h
      cases h
      exact .inl rfl
    · rw [List.getElem?_set_ne e] at h
      exact clr_at h
theorem wipe_ne {σ : L2.St} {i : Nat} : ∀ {vs : List Nat}, i ∉ vs → (wipe σ vs)[i]? = σ[i]?
  | [], _ => rfl
  | v :: vs, h => by
    unfold wipe
    rw [List.getElem?_set_ne (fun e => h (by rw [e]; exact List.mem_cons_self))]
    exact wipe_ne fun z => h (List.mem_cons_of_mem _ z)
theorem wipe_at {σ : L2.St} {i : Nat} : ∀ {vs : List Nat}, i ∈ vs → i < σ.length → (wipe σ vs)[i]? = some none
  | [], h, _ => by cases h
  | v :: vs, h, hl => by
    unfold wipe
    by_cases e : v = i
    · subst e
      exact List.getElem?_set_self (by rw [wipe_length]; exact hl)
    · rw [List.getElem?_set_ne e]
      exact wipe_at ((List.mem_cons.mp h).resolve_left (fun z => e z.symm)) hl
theorem wipe_eq {σ σ' : L2.St} {vs : List Nat} (hl : σ'.length = σ.length) (h : ∀ i, i ∉ vs → σ'[i]? = σ[i]?) : wipe σ' vs = wipe σ vs := by
  refine List.ext_getElem? fun i => ?_
  by_cases hi : i ∈ vs
  · by_cases hlt : i < σ.length
    · rw [wipe_at hi hlt, wipe_at hi (by rw [hl]; exact hlt)]
    · rw [List.getElem?_eq_none (by rw [wipe_length]; omega), List.getElem?_eq_none (by rw [wipe_length]; omega)]
  · rw [wipe_ne hi, wipe_ne hi]; exact h i hi
theorem wipe_set {σ : L2.St} {vs : List Nat} {j : Nat} {x : Option V} (hj : j ∈ vs) : wipe ((wipe σ vs).set j x) vs = wipe σ vs := by
  refine (wipe_eq (σ' := (wipe σ vs).set j x) (σ := σ) (by rw [List.length_set, wipe_length]) fun i hi => ?_)
  rw [List.getElem?_set_ne (fun e => hi (by rw [← e]; exact hj)), wipe_ne hi]
theorem wipe_set2 {σ : L2.St} {vs : List Nat} {i j : Nat} {x y : Option V} (hi : i ∈ vs) (hj : j ∈ vs) : wipe (((wipe σ vs).set i x).set j y) vs = wipe σ vs := by
  refine (wipe_eq (σ := σ) (by rw [List.length_set, List.length_set, wipe_length]) fun k hk => ?_)
  rw [List.getElem?_set_ne (fun e => hk (by rw [← e]; exact hj)), List.getElem?_set_ne (fun e => hk (by rw [← e]; exact hi)), wipe_ne hk]
def NB (vs : List Nat) (Θ : List Tmp) : Prop := ∀ t ∈ Θ, ∀ v ∈ vs, t ≠ Tmp.br v
theorem nb_nil {vs : List Nat} : NB vs [] := fun t h => by cases h
theorem nb_srcT {vs : List Nat} {ss : List Dat} : NB vs (srcT ss) := fun t h v _ => nb_src t h
theorem nb_dt {vs : List Nat} {d : Dat} {Θ : List Tmp} (h : NB vs Θ) : NB vs (.dt d :: Θ) := fun t ht v hv => by
  rcases List.mem_cons.mp ht with rfl | ht
  · exact fun z => nomatch z
  · exact h t ht v hv
theorem nb_fr {vs : List Nat} {d : List Dat} {Θ : List Tmp} (h : NB vs Θ) : NB vs (.fr d :: Θ) := fun t ht v hv => by
  rcases List.mem_cons.mp ht with rfl | ht
  · exact fun z => nomatch z
  · exact h t ht v hv
theorem nb_sc {vs : List Nat} {d : List Int} {Θ : List Tmp} (h : NB vs Θ) : NB vs (.sc d :: Θ) := fun t ht v hv => by
  rcases List.mem_cons.mp ht with rfl | ht
  · exact fun z => nomatch z
  · exact h t ht v hv
theorem nb_br {vs : List Nat} {i : Nat} {Θ : List Tmp} (hi : i ∉ vs) (h : NB vs Θ) : NB vs (.br i :: Θ) := fun t ht v hv => by
  rcases List.mem_cons.mp ht with rfl | ht
  · intro z; cases z; exact hi hv
  · exact h t ht v hv
theorem nb_arg {vs : List Nat} {a : Arg} {Θ : List Tmp} (h : NB vs Θ) : NB vs (a.tmp :: Θ) := by
  cases a with
  | dt d => exact nb_dt h
  | sc ns => exact nb_sc h
theorem nb_app {vs : List Nat} {Θ Θ' : List Tmp} (h : NB vs Θ) (h' : NB vs Θ') : NB vs (Θ ++ Θ') := fun t ht v hv => (List.mem_append.mp ht).elim (fun z => h t z v hv) fun z => h' t z v hv
section
variable {K : PySem.W.Frag} {Γ : List Cell} {Θ : List Tmp} {L : Addr → Prop} {S0 S : Hs} {σ σ' : L2.St} {τ : List V}
/-- slots that nothing is known of may hold anything -/
theorem Env.reslot {vs : List Nat} (E : Env K L S0 Γ Θ σ τ S) (hl : σ'.length = σ.length) (h : ∀ i, i ∉ vs → σ'[i]? = σ[i]?) (hn : ∀ v ∈ vs, Γ[v]? = some .no) (nb : NB vs Θ) : Env K L S0 Γ Θ σ' τ S := by
  obtain ⟨w, h1, h2⟩ := E.ok
  refine ⟨E.gr, E.sub, hl.trans E.len, w, fun i c e => ?_, h2.imp' fun k v t hk hm q => ?_⟩
  · by_cases hi : i ∈ vs
    · rw [hn i hi] at e; cases e; trivial
    · rw [h i hi]; exact h1 i c e
  · cases t with
    | dt d => exact q
    | fr ds => exact q
    | sc ns => exact q
    | ob pp => exact q
    | li R => exact q
    | br i =>
      show σ'[i]? = some (some v)
      rw [h i (fun hi => nb _ hm i hi rfl)]; exact q
theorem Env.wiped {vs : List Nat} (E : Env K L S0 Γ Θ σ τ S) (hn : ∀ v ∈ vs, Γ[v]? = some .no) (nb : NB vs Θ) : Env K L S0 Γ Θ (wipe σ vs) τ S := E.reslot (wipe_length _ _) (fun i hi => wipe_ne hi) hn nb
theorem Env.unwiped {vs : List Nat} (E : Env K L S0 Γ Θ (wipe σ vs) τ S) (hn : ∀ v ∈ vs, Γ[v]? = some .no) (nb : NB vs Θ) : Env K L S0 Γ Θ σ τ S := E.reslot (wipe_length _ _).symm (fun i hi => (wipe_ne hi).symm) hn nb
theorem Env.under {t : Tmp} {v : V} : ∀ {srcs : List Dat} {τ1 : List V}, Env K L S0 Γ (t :: (srcT srcs ++ Θ)) σ (v :: (τ1 ++ τ)) S → τ1.length = srcs.length → Env K L S0 Γ (t :: Θ) σ (v :: τ) S
  | [], [], E, _ => E
  | d :: ds, u :: us, E, e => Env.under (srcs := ds) (τ1 := us) (Env.swap E).pop (by simpa using e)
  | [], _ :: _, _, e => by cases e
  | _ :: _, [], _, e => by cases e
end
/-- what a comprehension's target does to the cells -/
structure TgI (K : PySem.W.Frag) (pr : Bool) (g : TG) (vs : List Nat) (d : Dat) (f : List Cell → List Cell) : Prop where
  run : ∀ (L : Addr → Prop) (S0 : Hs) (Γ : List Cell) (Θ : List Tmp) (σ : L2.St) (τ : List V) (S : Hs) (v : V) (R : L2.St → Hp → Prop), NB vs Θ → Env K L S0 Γ Θ (wipe σ vs) τ S → Itm S.b v d pr →
    (∀ σ', Env K L S0 (f Γ) Θ σ' τ S → wipe σ' vs = wipe σ vs → R σ' S.h) → g v (wipe σ vs) S.h R
theorem tg_name {K : PySem.W.Frag} {j : Nat} {vs : List Nat} {d : Dat} (hj : j ∈ vs) : TgI K false (gName j) vs d fun Γ => Γ.set j (.dt d) := ⟨fun L S0 Γ Θ σ τ S v R nb E hd k => k _ (E.setDt (fun t ht => nb t ht j hj) hd) (wipe_set hj)⟩
theorem tg_pair {K : PySem.W.Frag} {pr : Bool} {i j : Nat} {vs : List Nat} {x y : Dat} (hi : i ∈ vs) (hj : j ∈ vs) : TgI K pr (gTup K 2 (gCons (gName i) (gCons (gName j) gNil))) vs (.tuple [x, y]) fun Γ => (Γ.set i (.dt x)).set j (.dt y) := ⟨fun L S0 Γ Θ σ τ S v R nb E hd k => by
  obtain ⟨a, xs, e, h, p⟩ : ∃ a xs, v = .ref a ∧ SqT K S.h a xs ∧ DqAll S.b xs [x, y] := by
    cases pr with
    | false =>
      obtain ⟨a, o, xs, e, _, h, p⟩ := dp_tup (show Dq S.b v (.tuple [x, y]) from hd)
      exact ⟨a, xs, e, sqt_f (E.sub _ _ h), p⟩
    | true =>
      obtain ⟨a, xs, ds, e, e2, h, p⟩ := hd
      cases e2
      exact ⟨a, xs, e, .of (E.sub _ _ h), p⟩
  cases p with
  | cons p1 p =>
    cases p with
    | cons p2 p =>
      cases p
      exact ⟨a, _, e, h, rfl, _, _, rfl, _, _, rfl, rfl, k _ ((E.setDt (fun t ht => nb t ht i hi) p1).setDt (fun t ht => nb t ht j hj) p2) (wipe_set2 hi hj)⟩⟩
/-! ### a def -/
theorem args_cells {K : PySem.W.Frag} {L : Addr → Prop} {S0 S : Hs} {w : Wh} : ∀ {vs : List V} {as : List Arg} (j : Nat), ArgsOk K S.b vs as → ∀ i c, (as.map Arg.cell)[i]? = some c → SlotOk K L S0 w S (j + i) ((vs.map some)[i]?) c
  | _, _, _, .nil, i, c, e => by simp at e
  | _, _, j, .cons (v := v) (a := a) h t, 0, c, e => by
    cases e
    cases a with
    | dt d => exact ⟨v, rfl, h⟩
    | sc ns => obtain ⟨b, rfl, q⟩ := h; exact ⟨b, rfl, q⟩
  | _, _, j, .cons h t, i + 1, c, e => by
    have := args_cells (K := K) (L := L) (S0 := S0) (S := S) (w := w) (j + 1) t i c e
    rw [show j + (i + 1) = j + 1 + i by omega]
    exact this
def cells0 (N : List Str) (cs : List Cell) : List Cell := cs ++ List.replicate (N.length - cs.length) .no
theorem start_at {N : List Str} {vs : List V} {i : Nat} (h : i < vs.length) : (L2.start N vs)[i]? = (vs.map some)[i]? := by
  unfold L2.start
  rw [List.getElem?_append_left (by rw [List.length_map]; exact h)]
theorem env_start {K : PySem.W.Frag} {N : List Str} {vs : List V} {as : List Arg} {B H : Hp} (sub : Same B H) (h : ArgsOk K B vs as) (hl : vs.length ≤ N.length) : Env K L0 ⟨B, H⟩ (cells0 N (as.map Arg.cell)) [] (L2.start N vs) [] ⟨B, H⟩ := by
  refine ⟨Gr.refl _ _, sub, ?_, fun _ => none, fun i c e => ?_, trivial⟩
  · unfold L2.start cells0
    rw [List.length_append, List.length_append, List.length_map, List.length_map, List.length_replicate, List.length_replicate, h.len]
  · unfold cells0 at e
    by_cases hi : i < (as.map Arg.cell).length
    · rw [List.getElem?_append_left hi] at e
      rw [start_at (by rw [h.len]; rw [List.length_map] at hi; exact hi)]
      have := args_cells (K := K) (L := L0) (S0 := ⟨B, H⟩) (S := ⟨B, H⟩) (w := fun _ => none) 0 h i c e
      rw [Nat.zero_add] at this
      exact this
    · rw [List.getElem?_append_right (by omega)] at e
      have e2 := List.mem_of_getElem? e
      rw [List.mem_replicate] at e2
      rw [e2.2]
      trivial
section
variable {P : Program} {w : World} {K : PySem.W.Frag} {mg : Str → Option Value} {base : Heap}
abbrev Bx (P : Program) (w : World) (K : PySem.W.Frag) (mg : Str → Option Value) (base : Heap) (N : List Str) (qual : Str) (st : Stmt) (f : Addr) (cdv : Value) (A : Around) (outer : List PySem.Env) (s : Shared) (H : Hp) (E : XK) : Cx := (cxOf CX0 P w K mg base N qual (defScope st) f cdv A outer s H E).nox
/-- a def that changes the list that is its second argument -/
theorem env_startT {N : List Str} {v0 : V} {t : Addr} {rest : List V} {a0 : Arg} {as : List Arg} {zs : List Dat} {B H : Hp} (sub : Same B H) (h0 : ArgOk K B v0 a0) (h : ArgsOk K B rest as) (nb : B t = none) (hz : ∃ us, H t = some (.lst us) ∧ DqAll B us zs) (hl : rest.length + 2 ≤ N.length) :
    Env K (fun a => a = t) ⟨B, H⟩ (cells0 N (a0.cell :: .ln zs :: as.map Arg.cell)) [] (L2.start N (v0 :: .ref t :: rest)) [] ⟨B, H⟩ := by
  refine ⟨Gr.refl _ _, sub, ?_, fun a => if a = t then some (.inl 1) else none, fun i c e => ?_, trivial⟩
  · unfold L2.start cells0
    simp only [List.length_append, List.length_map, List.length_replicate, List.length_cons, h.len]
  · unfold cells0 at e
    by_cases hi : i < (a0.cell :: .ln zs :: as.map Arg.cell).length
    · rw [List.getElem?_append_left hi] at e
      rw [start_at (by simp only [List.length_cons, List.length_map, h.len] at hi ⊢; exact hi)]
      match i, e with
      | 0, e =>
        cases e
        cases a0 with
        | dt d => exact ⟨v0, rfl, h0⟩
        | sc ns => obtain ⟨b, rfl, q⟩ := h0; exact ⟨b, rfl, q⟩
      | 1, e =>
        cases e
        exact ⟨t, rfl, ⟨nb, if_pos rfl, hz⟩, rfl⟩
      | i + 2, e =>
        have := args_cells (K := K) (L := fun a => a = t) (S0 := ⟨B, H⟩) (S := ⟨B, H⟩) (w := fun a => if a = t then some (.inl 1) else none) 2 h i c e
        have e3 : 2 + i = i + 2 := Nat.add_comm 2 i
        rw [e3] at this
        exact this
    · rw [List.getElem?_append_right (by omega)] at e
      have e2 := List.mem_of_getElem? e
      rw [List.mem_replicate] at e2
      rw [e2.2]
      trivial
/-- .. its first argument -/
theorem env_startU {N : List Str} {t : Addr} {rest : List V} {as : List Arg} {zs : List Dat} {B H : Hp} (sub : Same B H) (h : ArgsOk K B rest as) (nb : B t = none) (hz : ∃ us, H t = some (.lst us) ∧ DqAll B us zs) (hl : rest.length + 1 ≤ N.length) :
    Env K (fun a => a = t) ⟨B, H⟩ (cells0 N (.ln zs :: as.map Arg.cell)) [] (L2.start N (.ref t :: rest)) [] ⟨B, H⟩ := by
  refine ⟨Gr.refl _ _, sub, ?_, fun a => if a = t then some (.inl 0) else none, fun i c e => ?_, trivial⟩
  · unfold L2.start cells0
    simp only [List.length_append, List.length_map, List.length_replicate, List.length_cons, h.len]
  · unfold cells0 at e
    by_cases hi : i < (.ln zs :: as.map Arg.cell).length
    · rw [List.getElem?_append_left hi] at e
      rw [start_at (by simp only [List.length_cons, List.length_map, h.len] at hi ⊢; exact hi)]
      match i, e with
      | 0, e =>
        cases e
        exact ⟨t, rfl, ⟨nb, if_pos rfl, hz⟩, rfl⟩
      | i + 1, e =>
        have := args_cells (K := K) (L := fun a => a = t) (S0 := ⟨B, H⟩) (S := ⟨B, H⟩) (w := fun a => if a = t then some (.inl 0) else none) 1 h i c e
        have e3 : 1 + i = i + 1 := Nat.add_comm 1 i
        rw [e3] at this
        exact this
    · rw [List.getElem?_append_right (by omega)] at e
      have e2 := List.mem_of_getElem? e
      rw [List.mem_replicate] at e2
      rw [e2.2]
      trivial
end
end Ld
set_option Elab.async false
set_option linter.all false
set_option maxRecDepth 100000
namespace Ld
open PySem PySem.Spec PyProof.Rows L2 Lx
/-! ### isinstance of data -/
def tyN : Dat → String
  | .none => "NoneType"
  | .bool _ => "bool"
  | .int _ => "int"
  | .str _ => "str"
  | .list _ => "list"
  | .tuple _ => "tuple"
  | .dict _ => "dict"
theorem dq_ty {K : PySem.W.Frag} {H : Hp} {v : V} {d : Dat} (h : Dq H v d) : TyX K H v (.type (tyN d)) := by
  cases h with
  | non => exact .base .non
  | bl b => exact .base (.bl b)
  | int i => exact .base (.int i)
  | str x => exact .base (.str x)
  | lst h _ => exact .base (.lst h)
  | tup hd h _ => exact .fTuple h
section
variable {K : PySem.W.Frag} {Γ : List Cell} {Θ : List Tmp}
theorem ve_isi {ta : TE} {n : String} {Q : List Cell → Tmp → Prop} (h : VE K Γ Θ ta fun Γ1 x => ∃ d b, rd Γ1 x d ∧ kitB (tyN d) n = some b ∧ Q Γ1 (.dt (.bool b))) : VE K Γ Θ (tCB (rIsi K) (tCons ta (tCons (tC (.ty n)) tNil))) Q := fun L S0 σ τ S Qv E k => h L S0 σ τ S _ E fun Γ1 S1 v x E1 ⟨d, b, hd, hb, q⟩ =>
  ⟨v, .ty n, _, _, b, rfl, .ty n, dq_ty (E1.rd hd), kit_ty hb, k Γ1 S1 _ _ (E1.pop.push (.bl b)) q⟩
end
section
variable {K : PySem.W.Frag} {Γ : List Cell} {Θ : List Tmp}
/-! ### what is under way, by its form -/
theorem fz_dt {d : Dat} {Q : List Cell → Dat → Prop} (q : Q Γ d) : Fz Γ Q (.dt d) := q
theorem fz_fr {d : List Dat} {Q : List Cell → Dat → Prop} (q : Q Γ (.list d)) : Fz Γ Q (.fr d) := q
theorem fz_br {i : Nat} {ds : List Dat} {Q : List Cell → Dat → Prop} (h : Γ[i]? = some (.ow ds)) (q : Q (Γ.set i (.dt (.list ds))) (.list ds)) : Fz Γ Q (.br i) := ⟨ds, h, q⟩
theorem az_dt {d : Dat} {Q : List Cell → Arg → Prop} (q : Q Γ (.dt d)) : Az Γ Q (.dt d) := q
theorem az_sc {d : List Int} {Q : List Cell → Arg → Prop} (q : Q Γ (.sc d)) : Az Γ Q (.sc d) := q
theorem az_fr {d : List Dat} {Q : List Cell → Arg → Prop} (q : Q Γ (.dt (.list d))) : Az Γ Q (.fr d) := q
theorem az_br {i : Nat} {ds : List Dat} {Q : List Cell → Arg → Prop} (h : Γ[i]? = some (.ow ds)) (q : Q (Γ.set i (.dt (.list ds))) (.dt (.list ds))) : Az Γ Q (.br i) := ⟨ds, h, q⟩
theorem asb {b : Bool} {Q : List Cell → Bool → Prop} (q : Q Γ b) : AsB Γ Q (.dt (.bool b)) := q
theorem sto_dt {i : Nat} {d : Dat} {Q : List Cell → Prop} (q : Q (Γ.set i (.dt d))) : Sto Γ i Q (.dt d) := q
theorem sto_fr {i : Nat} {d : List Dat} {Q : List Cell → Prop} (q : Q (Γ.set i (.ow d))) : Sto Γ i Q (.fr d) := q
theorem sto_br {i j : Nat} {ds : List Dat} {Q : List Cell → Prop} (h : Γ[j]? = some (.ow ds)) (q : Q ((Γ.set j (.dt (.list ds))).set i (.dt (.list ds)))) : Sto Γ i Q (.br j) := ⟨ds, h, q⟩
theorem rd_dt {d : Dat} : rd Γ (.dt d) d := rfl
theorem rd_fr {ds : List Dat} : rd Γ (.fr ds) (.list ds) := rfl
theorem rd_ow {i : Nat} {ds : List Dat} (h : Γ[i]? = some (.ow ds)) : rd Γ (.br i) (.list ds) := .inr ⟨ds, rfl, .inl h⟩
theorem rd_ln {i : Nat} {ds : List Dat} (h : Γ[i]? = some (.ln ds)) : rd Γ (.br i) (.list ds) := .inr ⟨ds, rfl, .inr h⟩
theorem sq_l {x : Tmp} {ds : List Dat} (h : rd Γ x (.list ds)) : SeqD Γ x ds := .inl h
theorem sq_t {ds : List Dat} : SeqD Γ (.dt (.tuple ds)) ds := .inr rfl
theorem isl_ow {i : Nat} {ds : List Dat} (h : Γ[i]? = some (.ow ds)) : IsLs Γ i ds := ⟨_, h, rfl⟩
theorem isl_ln {i : Nat} {ds : List Dat} (h : Γ[i]? = some (.ln ds)) : IsLs Γ i ds := ⟨_, h, rfl⟩
theorem b2 {A B : Prop} {b : Bool} (h1 : b = true → A) (h2 : b = false → B) : (b = true → A) ∧ (b = false → B) := ⟨h1, h2⟩
theorem r2_eqS {ns : List Int} {y : Tmp} {e : Dat} {Q : List Cell → Tmp → Prop} (hy : rd Γ y e) (sd : SeqAt.shaped (.list (ns.map .int)) = true) (se : SeqAt.shaped e = true) (q : Q Γ (.dt (.bool (PyData.eqv (.list (ns.map .int)) e)))) : R2V K (rEqD K) Γ Θ (.sc ns) y Q := fun L S0 σ τ S vx vy Qv E k => by
  obtain ⟨w, a, ea, hs⟩ := E.pop.top
  have dpi : ∀ ns : List Int, DpAll K S.h (ns.map V.int) (ns.map PyData.int) := fun ns => by
    induction ns with
    | nil => exact .nil
    | cons n ns ih => exact .cons (.int n) ih
  exact ⟨_, e, by rw [ea]; exact .lst (E.sub.seq hs) (dpi ns), dq_dp _ _ (E.rd hy), sd, se, k Γ S _ _ (E.pop.pop.push (.bl _)) q⟩
theorem ve_scr {i : Nat} {ns : List Int} {Q : List Cell → Tmp → Prop} (h : Γ[i]? = some (.sc ns)) (q : Q Γ (.sc ns)) : VE K Γ Θ (tVar i) Q := fun L S0 σ τ S Qv E k => by
  obtain ⟨w, h1, h2⟩ := id E.ok
  obtain ⟨a, e, p⟩ := h1 i _ h
  exact ⟨_, e, k Γ S (.ref a) (.sc ns) ⟨E.gr, E.sub, E.len, w, h1, ⟨a, rfl, p⟩, h2⟩ q⟩
end
/-! ### a def of the text, a def that keeps its promise -/
structure Df (K : PySem.W.Frag) (mg : Str → Option Value) (x : Str) (st : Stmt) (ps : List Str) (f : Addr) (fd : FuncData) : Prop where
  F : Fun K x x st f fd
  g : mg x = some (.ref f)
  b : Binds K fd ps []
structure Cal (P : Program) (w : World) (K : PySem.W.Frag) (mg : Str → Option Value) (base : Heap) (k : Nat) (x : Str) (ps : List Str) (sp : Sp) (f : Addr) (fd : FuncData) : Prop where
  G : FnOk P w K mg base CX0 k f fd ps sp
  g : mg x = some (.ref f)
  kp : PySem.W.keepIn K (.ref f) = true
  b : Binds K fd ps []
theorem Df.cal {P : Program} {w : World} {K : PySem.W.Frag} {mg : Str → Option Value} {base : Heap} {k : Nat} {x : Str} {st : Stmt} {ps : List Str} {sp : Sp} {f : Addr} {fd : FuncData} (D : Df K mg x st ps f fd) (G : FnOk P w K mg base CX0 k f fd ps sp) : Cal P w K mg base k x ps sp f fd := ⟨G, D.g, D.F.kp, D.b⟩
end Ld
set_option Elab.async false
set_option linter.all false
set_option maxRecDepth 100000
namespace PySem
open Sem (wp)
open Builtin Builtin.Str
theorem collect_tupleLd {prog : Program} {w : World} {A : Around} {E : Value → Shared → Prop} {s : Shared} {l : Addr} {vs : List Value} {Q : List Value → Shared → Prop} (hl : PyProof.Rows.IsTup s.heap l vs.toArray)
    (h : Q vs { s with heap := (s.heap.push (PyProof.Rows.seqObj "list" #[] 0)).update s.heap.objs.size (Obj.mapSeq (· ++ vs.toArray)) }) (hsz : vs.length ≤ sizeLine) :
    wpAny (model prog w) A (collect (.ref l)) Q E s := by
  obtain ⟨o, ho, hc, n, hd⟩ := id hl
  unfold collect
  refine wpAny_bind (wpAny_runValue (codeAny_builtin PyProof.Rows.entry_proto_collect' ?_))
  show wpAny _ _ (do again (.builtin "list.__iadd__" ⟨[← newList [], .ref l], []⟩)) _ _ s
  refine wpAny_bind (wpAny_newList (wpAny_pure ⟨Code.quiet_builtin _ (by decide +kernel), codeAny_builtin PyProof.Rows.entry_list_iadd' ?_⟩))
  show wpAny _ _ (Builtin.List.listExtendWith (.ref s.heap.objs.size) (.ref l) (.ref s.heap.objs.size)) _ _ { s with heap := s.heap.push (PyProof.Rows.seqObj "list" #[] 0) }
  unfold Builtin.List.listExtendWith
  have ho' : (s.heap.push (PyProof.Rows.seqObj "list" #[] 0)).get? l = some o := Heap.get?_push_of_some _ ho
  refine wpAny_bind (wpAny_typeOf (T := "tuple") ⟨o, ho', hc⟩ ?_)
  have ht : (Value.type "tuple" == Value.type "tuple") = true := by rfl
  rw [if_pos (by rw [ht]; simp)]
  refine wpAny_bind (PyProof.Rows.listItems_at ho' hd ?_)
  refine wpAny_bind (PyProof.Rows.listItems_at (xs := #[]) (n := 0) (Heap.get?_push_size _ rfl) rfl ?_)
  rw [if_neg (by simp)]
  refine wpAny_bind (PyProof.Rows.listUpdate_at (xs := #[]) (n := 0) (Heap.get?_push_size _ rfl) rfl ?_ (Nat.zero_le _) (by show (#[] ++ vs.toArray).size ≤ sizeLine + 1; simp only [Array.size_append, List.size_toArray, List.length_nil]; omega))
  refine wpAny_pure ?_
  show wpAny (model prog w) A (do
      let o ← load s.heap.objs.size
      match o.data with
      | .seq xs _ => pure xs.toList
      | _ => unsupported "internal:collect") Q E { s with heap := (s.heap.push (PyProof.Rows.seqObj "list" #[] 0)).update s.heap.objs.size (Obj.mapSeq (· ++ vs.toArray)) }
  refine wpAny_bind (wpAny_load (PyProof.Rows.get?_update_seq (Heap.get?_push_size _ rfl) _) ?_)
  show wpAny _ _ (pure ((#[] : Array Value) ++ vs.toArray).toList) Q E _
  rw [show ((#[] : Array Value) ++ vs.toArray).toList = vs by simp]
  exact wpAny_pure h
end PySem
namespace SrtR
open PySem PyProof.Rows Srt SrtO
section
variable {prog : Program} {w : World} {A : Around} {E : Value → Shared → Prop} {s : Shared}
/-- sorted(t, ..), t a tuple, by keywords that say reverse=b -/
theorem sorted_ordT {l : Addr} {vs : List Value} {b : Bool} {kw : List (Str × Value)} {ltv : Value → Value → Bool} {Q : Value → Shared → Prop} (hk : ∀ a, Builtin.«list.sort» ⟨[.ref a], kw⟩ = Builtin.«list.sort» ⟨[.ref a], [(Str.ofString "reverse", .bool b)]⟩)
    (ha1 : argsOk "sorted" ⟨[.ref l], kw⟩) (ha2 : ∀ a, argsOk "list.sort" ⟨[a], kw⟩) (O : Swo ltv) (hl : IsTup s.heap l vs.toArray) (hz : vs.length ≤ sizeLine)
    (hS : 2 ≤ vs.length → ∀ (h₁ : Heap) (a : Addr), h₁.get? a = some (seqObj "list" vs.toArray 0) → (∀ b o, s.heap.get? b = some o → b ≠ a ∧ h₁.get? b = some o) → SortableO prog w A.in1.in1 { s with heap := h₁ } a vs ltv)
    (h : ∀ out : List Value, Srtd ltv out → Stb ltv out (if b = true then vs.reverse else vs) → Q (.ref (s.heap.objs.size + 1)) { s with heap := sortedAll s.heap vs (if b = true then out.toArray.reverse else out.toArray) }) :
    wpAny (model prog w) A (call (.builtin "sorted") [.ref l] kw) Q E s := by
  refine call_function_entry_kw kind_sorted plain_sorted entry_sorted ha1 ?_
  unfold Builtin.«sorted»
  refine wpAny_bind (m := checkCount "sorted" 1 1 _) (wpAny_pure ?_)
  refine wpAny_bind (collect_tupleLd hl ?_ hz)
  refine wpAny_bind (wpAny_newList ?_ hz)
  have hsz : ((s.heap.push (PyProof.Rows.seqObj "list" #[] 0)).update s.heap.objs.size (Obj.mapSeq (· ++ vs.toArray))).objs.size = s.heap.objs.size + 1 := by
    rw [Heap.size_update, size_push']
  have hoL : (((s.heap.push (PyProof.Rows.seqObj "list" #[] 0)).update s.heap.objs.size (Obj.mapSeq (· ++ vs.toArray))).push (seqObj "list" vs.toArray 0)).get? (s.heap.objs.size + 1) = some (seqObj "list" vs.toArray 0) := by
    rw [← hsz]; exact Heap.get?_push_size _ rfl
  have keep : ∀ b o, s.heap.get? b = some o → b ≠ s.heap.objs.size + 1 ∧ (((s.heap.push (PyProof.Rows.seqObj "list" #[] 0)).update s.heap.objs.size (Obj.mapSeq (· ++ vs.toArray))).push (seqObj "list" vs.toArray 0)).get? b = some o := fun b o q => by
    have hlt : b < s.heap.objs.size := Heap.lt_size q
    refine ⟨Nat.ne_of_lt (Nat.lt_succ_of_lt hlt), Heap.get?_push_of_some _ ?_⟩
    rw [Heap.get?_update_ne _ _ _ _ (Nat.ne_of_lt hlt)]
    exact Heap.get?_push_of_some _ q
  show wpAny _ _ _ _ _ { s with heap := ((s.heap.push (PyProof.Rows.seqObj "list" #[] 0)).update s.heap.objs.size (Obj.mapSeq (· ++ vs.toArray))).push (seqObj "list" vs.toArray 0) }
  rw [hsz]
  refine wpAny_bind (wpAny_holding (wpAny_call_entry_kw slot_list_sort ⟨_, hoL, rfl⟩ entry_list_sort ?_ (ha2 _)))
  rw [hk]
  refine list_sort_ordR O hoL hz (fun h2 => hS h2 _ _ hoL keep) fun out hs hb => ⟨_, rfl, ?_⟩
  exact wpAny_pure ⟨_, rfl, h out hs hb⟩
end
end SrtR
namespace Ld
open PySem PySem.Spec PyProof.Rows L2 Lx
/-! ### enumerate(tuple) -/
def IteT (K : PySem.W.Frag) (a : Addr) : It :=
  ⟨fun i H => ∃ (xs : List V) (x : V), SqT K H a xs ∧ xs[i]? = some x, fun i H v H' => ∃ T x, v = .ref T ∧ H T = none ∧ H' = upd H T (.tup [.int (i : Nat), x]) ∧ ∀ xs, SqT K H a xs → xs[i]? = some x, fun i H => ∃ xs : List V, SqT K H a xs ∧ xs.length ≤ i⟩
def iEnumT (K : PySem.W.Frag) (ta : TA) : TI := fun σ H R => ta σ H fun vs H1 => ∃ a xs, vs = [.ref a] ∧ SqT K H1 a xs ∧ R (IteT K a) H1
section
variable {K : PySem.W.Frag} {Γ : List Cell} {Θ : List Tmp}
theorem vi_enumT {te : TE} {Q : List Cell → Bool → List Dat → Prop} (h : VD K Γ Θ te fun Γ1 d => ∃ ds, d = .tuple ds ∧ Q Γ1 true (enumD ds)) : VI K Γ Θ (iEnumT K (tCons te tNil)) Q := fun L S0 σ τ S R E k => h L S0 σ τ S _ E fun Γ1 S1 v d E1 ⟨ds, ed, q⟩ => by
  subst ed
  obtain ⟨a, o, xs, ev, _, hx, p⟩ := dp_tup E1.dt
  subst ev
  refine ⟨a, xs, rfl, sqt_f (E1.sub _ _ hx), k Γ1 [.tuple ds] [.ref a] S1 _ true (enumD ds) E1 rfl ⟨fun S i sub hs hi => ?_, fun S sub hs => ?_, fun S i x H' sub hs hi y => ?_⟩ q⟩
  · obtain ⟨ys, hy', py⟩ := src_t (K := K) sub (dqa_one hs)
    rw [enumD_len] at hi
    obtain ⟨z, hz, _⟩ := py.get (List.getElem?_eq_getElem hi)
    exact ⟨ys, z, hy', hz⟩
  · obtain ⟨ys, hy', py⟩ := src_t (K := K) sub (dqa_one hs)
    exact ⟨ys, hy', by rw [enumD_len]; exact Nat.le_of_eq py.len⟩
  · obtain ⟨ys, hy', py⟩ := src_t (K := K) sub (dqa_one hs)
    rw [enumD_len] at hi
    obtain ⟨T, z, rfl, hT, rfl, y⟩ := y
    obtain ⟨d, hd, gd⟩ := py.getV (y ys hy')
    obtain ⟨S', e1, g1, s1, q1⟩ := gr_pair sub hT (.int (i : Nat)) gd
    exact ⟨S', _, e1, g1, s1, enumD_at hd, q1⟩
end
/-! ### sorted of a tuple of ints -/
section
variable {X : Cx}
theorem sorted_runT {b : Bool} {kw : List (Str × Value)} {pins : List (Addr × Obj)} {s : Shared} {σ : L2.St} {H : Hp} {a : Addr} {ns : List Int} {Q : VK} (I : Inv X pins σ H s) (hs : SqT X.K H a (ns.map V.int))
    (hk : ∀ a, Builtin.«list.sort» ⟨[.ref a], kw⟩ = Builtin.«list.sort» ⟨[.ref a], [(Str.ofString "reverse", .bool b)]⟩) (ha1 : argsOk "sorted" ⟨[.ref a], kw⟩) (ha2 : ∀ a, argsOk "list.sort" ⟨[a], kw⟩)
    (q : ∀ (ns' : List Int) (p : Addr), ns'.Perm ns → OrdB b ns' → H p = none → Q (.ref p) (upd H p (.lst (ns'.map V.int)))) : wpAny (model X.prog X.w) X.A (call (.builtin "sorted") [.ref a] kw) (EP X pins σ Q) X.xe s := by
  obtain ⟨its, rv, hl, hz⟩ := I.tuple hs
  have hi := rv.ints
  refine SrtR.sorted_ordT hk ha1 ha2 SrtO.swo_int hl (by rw [← rv.length]; exact hz) (fun h2 h₁ a' _ _ => SrtO.ints_sortable hi h2) fun out h1 h2 => ?_
  obtain ⟨ns', k1, k2, k3⟩ := SrtR.ints_outR hi h1 h2
  obtain ⟨ep, he'⟩ := PyProof.Rows.sortedAll_at s.heap its (if b = true then out.toArray.reverse else out.toArray)
  have hlen : (ns'.map V.int).length ≤ sizeLine := by
    rw [List.length_map, k2.length_eq]
    rw [List.length_map] at hz
    exact hz
  have e0 : ((if b = true then out.toArray.reverse else out.toArray).toList).toArray = (if b = true then out.toArray.reverse else out.toArray) := by rw [Array.toArray_toList]
  exact ⟨.ref _, upd H (s.heap.objs.size + 1) (.lst (ns'.map V.int)), I.laid (t' := s.toks) (fun _ _ => PyProof.Rows.sortedAll_old) (Nat.le_succ _) ⟨hlen, _, ep, vals_of_ints k1, by rw [e0]; exact he'⟩, rfl, q _ _ k2 k3 (I.hok.fresh (Nat.le_succ _))⟩
def rSortedTB (K : PySem.W.Frag) (b : Bool) (zs0 : List V) : List V → List V → Hp → VK → Prop := fun vs zs H Q => ∃ (a : Addr) (ns : List Int), vs = [V.ref a] ∧ zs = zs0 ∧ SqT K H a (ns.map V.int) ∧
  ∀ (ns' : List Int) (p : Addr), ns'.Perm ns → OrdB b ns' → H p = none → Q (.ref p) (upd H p (.lst (ns'.map V.int)))
theorem cr_sortedRevT {b : Bool} : CallRK X (.builtin "sorted") [Str.ofString "reverse"] (rSortedTB X.K b [.bl b]) := by
  intro pins s σ H vs zs us ws Q I r rz h
  obtain ⟨a, ns, rfl, rfl, hs, q⟩ := h
  obtain rfl := Vals.ref1 r
  obtain ⟨w1, rfl, e1⟩ := vals1 rz
  obtain rfl : w1 = Value.bool b := e1
  exact sorted_runT I hs (fun _ => rfl) (PyProof.Rows.args_sorted_rev _ _) (fun _ => PyProof.Rows.args_list_sort_rev _ _) q
def rSortedT1 (K : PySem.W.Frag) : List V → Hp → VK → Prop := fun vs H Q => ∃ (a : Addr) (ns : List Int), vs = [V.ref a] ∧ SqT K H a (ns.map V.int) ∧
  ∀ (ns' : List Int) (p : Addr), ns'.Perm ns → ns'.Pairwise (· ≤ ·) → H p = none → Q (.ref p) (upd H p (.lst (ns'.map V.int)))
theorem srt_plain (a : Addr) : Builtin.«list.sort» ⟨[.ref a], []⟩ = Builtin.«list.sort» ⟨[.ref a], [(Str.ofString "reverse", .bool false)]⟩ := by
  rw [PyProof.Rows.list_sort_rev]
  first | rfl | kernel_rfl
theorem cr_sortedT : CallR X (.builtin "sorted") (rSortedT1 X.K) := by
  intro pins s σ H vs us Q I r h
  obtain ⟨a, ns, rfl, hs, q⟩ := h
  obtain rfl := Vals.ref1 r
  exact sorted_runT (b := false) I hs srt_plain (by unfold argsOk; kernel_rfl) (fun _ => by unfold argsOk; kernel_rfl) q
end
section
variable {K : PySem.W.Frag} {Γ : List Cell} {Θ : List Tmp}
theorem c1_sortedT {ns : List Int} {Q : List Cell → Tmp → Prop} (q : ∀ ns' : List Int, ns'.Perm ns → ns'.Pairwise (· ≤ ·) → Q Γ (.fr (ns'.map .int))) : C1V K (rSortedT1 K) Γ Θ (.dt (.tuple (ns.map .int))) Q := fun L S0 σ τ S vx Qv E k => by
  obtain ⟨a, o, xs, e, _, h, p⟩ := dp_tup E.dt
  rw [dpa_ints p] at h
  exact ⟨a, ns, by rw [e], sqt_f (E.sub _ _ h), fun ns' p h1 h2 hp => k Γ _ _ _ (E.pop.newLst hp (dpa_of_ints _)) (q ns' h1 h2)⟩
theorem ve_sortedTB {b : Bool} {ta : TE} {Q : List Cell → Tmp → Prop} (h : VE K Γ Θ ta fun Γ1 x => ∃ ns : List Int, x = .dt (.tuple (ns.map .int)) ∧ ∀ ns' : List Int, ns'.Perm ns → OrdB b ns' → Q Γ1 (.fr (ns'.map .int))) :
    VE K Γ Θ (tCKw (rSortedTB K b [.bl b]) (tCons ta tNil) (tCons (tC (.bl b)) tNil)) Q := fun L S0 σ τ S Qv E k => h L S0 σ τ S _ E fun Γ1 S1 v x E1 ⟨ns, ex, q⟩ => by
  subst ex
  obtain ⟨a, o, xs, e, _, h, p⟩ := dp_tup E1.dt
  rw [dpa_ints p] at h
  exact ⟨a, ns, by rw [e], rfl, sqt_f (E1.sub _ _ h), fun ns' p h1 h2 hp => k Γ1 _ _ _ (E1.pop.newLst hp (dpa_of_ints _)) (q ns' h1 h2)⟩
end
end Ld
set_option Elab.async false
set_option linter.all false
set_option maxRecDepth 100000
namespace Ld
open PySem PySem.Spec PyProof.Rows L2 Lx
/-! ### promises with a ghost -/
def spG {α : Type} (K : PySem.W.Frag) (A : α → List Arg) (pre : α → Prop) (post : α → Dat → Prop) : Sp := fun vs H Q _ => ∃ (B : Hp) (x : α), Same B H ∧ ArgsOk K B vs (A x) ∧ pre x ∧
  ∀ v S' d, Gr L0 ⟨B, H⟩ S' → Same S'.b S'.h → Dq S'.b v d → post x d → Q v S'.h
abbrev spF {α : Type} (K : PySem.W.Frag) (A : α → List Arg) (pre : α → Prop) (g : α → Dat) : Sp := spG K A pre fun x d => d = g x
def spW {α : Type} (K : PySem.W.Frag) (A : α → Arg × List Arg) (pre : α → List Dat → Prop) (post : α → List Dat → List Dat → Dat → Prop) : Sp := fun vs H Q _ => ∃ (B : Hp) (v0 : V) (t : Addr) (rest : List V) (x : α) (zs : List Dat), vs = v0 :: .ref t :: rest ∧ Same B H ∧ ArgsOk K B (v0 :: rest) ((A x).1 :: (A x).2) ∧
  B t = none ∧ (∃ us, H t = some (.lst us) ∧ DqAll B us zs) ∧ pre x zs ∧
  ∀ v S' zs' d, Gr (fun a => a = t) ⟨B, H⟩ S' → Same S'.b S'.h → S'.b t = none → (∃ us, S'.h t = some (.lst us) ∧ DqAll S'.b us zs') → Dq S'.b v d → post x zs zs' d → Q v S'.h
section
variable {K : PySem.W.Frag} {Γ : List Cell} {Θ : List Tmp}
theorem ve_callG {α : Type} {A : α → List Arg} {pre : α → Prop} {post : α → Dat → Prop} {X : XK} {t : TA} {Q : List Cell → Tmp → Prop} (h : VAX K Γ Θ t fun Γ1 as => ∃ x, as = A x ∧ pre x ∧ ∀ d, post x d → Q Γ1 (.dt d)) : VE K Γ Θ (tCall (spG K A pre post) [] X t) Q := fun L S0 σ τ S Qv E k => h L S0 σ τ S _ E fun Γ1 S1 vs as E1 p ⟨x, ex, hp, q⟩ => by
  show spG K A pre post (vs ++ []) S1.h Qv X
  rw [List.append_nil]
  subst ex
  exact ⟨S1.b, x, E1.sub, p, hp, fun v S' d g s hd hq => k Γ1 S' v _ ((E1.grow g s).push hd) (q d hq)⟩
theorem ve_callF {α : Type} {A : α → List Arg} {pre : α → Prop} {g : α → Dat} {X : XK} {t : TA} {Q : List Cell → Tmp → Prop} (h : VAX K Γ Θ t fun Γ1 as => ∃ x, as = A x ∧ pre x ∧ Q Γ1 (.dt (g x))) : VE K Γ Θ (tCall (spF K A pre g) [] X t) Q :=
  ve_callG fun L S0 σ τ S Qv E k => h L S0 σ τ S Qv E fun Γ1 S1 vs as E1 p ⟨x, ex, hp, q⟩ => k Γ1 S1 vs as E1 p ⟨x, ex, hp, fun d hd => by rw [hd]; exact q⟩
theorem ve_callW {α : Type} {A : α → Arg × List Arg} {pre : α → List Dat → Prop} {post : α → List Dat → List Dat → Dat → Prop} {X : XK} {t0 : TE} {i : Nat} {t : TA} {Q : List Cell → Tmp → Prop}
    (h : VX K Γ Θ t0 fun Γ1 a0 => (∃ ds, IsLs Γ1 i ds) ∧ VAX K Γ1 (a0.tmp :: Θ) t fun Γ2 as => ∃ x zs, IsLs Γ2 i zs ∧ (a0, as) = A x ∧ pre x zs ∧ ∀ zs' d, post x zs zs' d → Q (putC Γ2 i zs') (.dt d)) :
    VE K Γ Θ (tCall (spW K A pre post) [] X (tCons t0 (tCons (tVar i) t))) Q := fun L S0 σ τ S Qv E k => h L S0 σ τ S _ E fun Γ1 S1 v0 a0 E1 ⟨⟨ds, c1, hc1, hl1⟩, h1⟩ => by
  obtain ⟨a, ea, _⟩ := E1.own hc1 hl1
  refine ⟨_, ea, h1 L S0 σ (v0 :: τ) S1 _ E1 fun Γ2 S2 vs as E2 p ⟨x, zs, ⟨c, hc, hl⟩, ex, hp, q⟩ => ?_⟩
  obtain ⟨a', ea', nb, us, hu, pu⟩ := E2.own hc hl
  rw [ea] at ea'; cases ea'
  show spW K A pre post ((v0 :: .ref a :: vs) ++ []) S2.h Qv X
  rw [List.append_nil]
  refine ⟨S2.b, v0, a, vs, x, zs, rfl, E2.sub, ?_, nb, ⟨us, hu, pu⟩, hp, fun v S' zs' d g s nb' hz hd hq => ?_⟩
  · rw [← ex]; exact .cons (argOk_top E2) p
  · have q' := q zs' d hq
    rw [putC_eq hc] at q'
    exact k _ S' v _ ((E2.pop.lent hc hl ea g s nb' hz).push hd) q'
/-- a comprehension over items of one kind -/
theorem ve_lcT {α : Type} (inj : α → Dat) (xs : List α) (p : α → Bool) (v : α → Dat) {wi : TI} {g : TG} {tt : TT} {te : TE} {vs : List Nat} {Q : List Cell → Tmp → Prop} (nb : NB vs Θ)
    (h : VI K Γ Θ wi fun Γ1 pr ds => ds = xs.map inj ∧ (∀ v ∈ vs, Γ1[v]? = some Cell.no) ∧ xs.length < sizeLine ∧ (∀ a, a ∈ xs → ∃ f, TgI K pr g vs (inj a) f ∧ ∀ acc srcs, VT K (f Γ1) (.fr acc :: (srcT srcs ++ Θ)) tt fun Γ3 b =>
      b = p a ∧ (b = true → VD K Γ3 (.fr acc :: (srcT srcs ++ Θ)) te fun Γ4 y => y = v a ∧ clr vs Γ4 = Γ1) ∧ (b = false → clr vs Γ3 = Γ1)) ∧ Q Γ1 (.fr ((xs.filter p).map v))) : VE K Γ Θ (tLc wi g tt te vs) Q := fun L S0 σ τ S Qv E k =>
  h L S0 σ τ S _ E fun Γ1 srcs τ1 S1 J pr ds E1 hl w ⟨eds, hn, hsz, hs, hq⟩ => fun D hD => by
    have nbs : NB vs (srcT srcs ++ Θ) := nb_app nb_srcT nb
    have hls : ds.length = xs.length := by rw [eds, List.length_map]
    have E1w : Env K L S0 Γ1 (.fr [] :: (srcT srcs ++ Θ)) (wipe σ vs) (.ref D :: (τ1 ++ τ)) ⟨S1.b, upd S1.h D (.lst [])⟩ := (E1.newLst hD .nil).wiped hn (nb_fr nbs)
    refine ⟨fun i m H => m = ds.length - i ∧ i ≤ ds.length ∧ ∃ S2, S2.h = H ∧ Env K L S0 Γ1 (.fr (((xs.take i).filter p).map v) :: (srcT srcs ++ Θ)) (wipe σ vs) (.ref D :: (τ1 ++ τ)) S2, ⟨_, rfl, Nat.zero_le _, _, rfl, E1w⟩, ?_⟩
    rintro i m H ⟨rfl, hi, S2, rfl, E2⟩
    have dq := E2.pop.srcs hl
    by_cases hlt : i < ds.length
    · refine .inr ⟨w.go S2 i E2.sub dq hlt, fun H3 => ∃ S3, S3.h = H3 ∧ Env K L S0 Γ1 (.fr (((xs.take (i + 1)).filter p).map v) :: (srcT srcs ++ Θ)) (wipe σ vs) (.ref D :: (τ1 ++ τ)) S3,
        fun H' ⟨S3, e, E3⟩ => ⟨_, by omega, rfl, hlt, S3, e, E3⟩, fun x H' y => ?_⟩
      obtain ⟨S3, d, e3, g3, s3, hd3, q3⟩ := w.yld S2 i x H' E2.sub dq hlt y
      subst e3
      obtain ⟨a, ha, ead⟩ : ∃ a, xs[i]? = some a ∧ inj a = d := by
        rw [eds, List.getElem?_map] at hd3
        exact Option.map_eq_some_iff.mp hd3
      subst ead
      obtain ⟨f, tg, hf⟩ := hs a (List.mem_of_getElem? ha)
      refine tg.run L S0 Γ1 _ σ _ S3 x _ (nb_fr nbs) (E2.grow g3 s3) q3 fun σ3 E3 ew => ⟨ew, ?_⟩
      refine hf _ srcs L S0 σ3 _ S3 _ E3 fun Γ4 S4 b E4 ⟨eb, q4⟩ => ?_
      have fin : ∀ {Γ5 : List Cell} {acc5 : List Dat} {S5 : Hs}, Env K L S0 Γ5 (.fr acc5 :: (srcT srcs ++ Θ)) σ3 (.ref D :: (τ1 ++ τ)) S5 → clr vs Γ5 = Γ1 → Env K L S0 Γ1 (.fr acc5 :: (srcT srcs ++ Θ)) (wipe σ vs) (.ref D :: (τ1 ++ τ)) S5 := fun {Γ5 acc5 S5} E5 p5 => by
        rw [← ew, ← p5]
        exact (E5.forget (clr_len vs) fun i c e => clr_at e).wiped (by rw [p5]; exact hn) (nb_fr nbs)
      have tk : xs.take (i + 1) = xs.take i ++ [a] := by rw [List.take_add_one, ha] <;> rfl
      cases b with
      | true =>
        rw [if_pos rfl]
        refine q4.1 rfl L S0 σ3 _ S4 _ E4 fun Γ5 S5 u y E5 ⟨ey, p5⟩ => ?_
        obtain ⟨a', us, ea, hu, pu, mk⟩ := E5.swap.mutTop
        cases ea
        have hv : Dq S5.b u y := E5.dt
        have le : us.length ≤ xs.length := by
          rw [pu.len, List.length_map]
          exact Nat.le_trans (List.length_filter_le _ _) (by rw [List.length_take]; omega)
        refine ⟨us, hu, by omega, ⟨S5.b, upd S5.h D (.lst (us ++ [u]))⟩, rfl, ?_⟩
        have := fin (Env.pop (Env.swap (mk (us ++ [u]) _ (pu.app (.one hv))))) p5
        rw [tk, List.filter_append, List.map_append, List.filter_cons, if_pos eb.symm, List.filter_nil, List.map_singleton, ← ey]
        exact this
      | false =>
        rw [if_neg Bool.false_ne_true]
        refine ⟨S4, rfl, ?_⟩
        have := fin E4 (q4.2 rfl)
        rw [tk, List.filter_append, List.map_append, List.filter_cons, if_neg (by rw [← eb]; exact Bool.false_ne_true), List.filter_nil, List.map_nil, List.append_nil]
        exact this
    · have e : i = ds.length := by omega
      subst e
      rw [hls, List.take_length] at E2
      exact .inl ⟨w.stop S2 E2.sub dq, k Γ1 S2 _ _ ((E2.under hl).unwiped hn (nb_fr nb)) hq⟩
end
section
variable {P : Program} {w : World} {K : PySem.W.Frag} {mg : Str → Option Value} {base : Heap}
theorem ok_G {α : Type} {x qual : Str} {st : Stmt} {f : Addr} {fd : FuncData} {N ps : List Str} {k : Nat} {Ar : α → List Arg} {pre : α → Prop} {post : α → Dat → Prop} (F : Fun K x qual st f fd) (Sc : FnScope N ps (defScope st)) (hl : ∀ x, (Ar x).length = ps.length) (hN : ps.length ≤ N.length)
    (hb : ∀ (cdv : Value) (A : Around) (outer : List PySem.Env) (s : Shared) (H : Hp) (E : XK), Room k (A.deeper (envOfC qual (defScope st) s.heap.objs.size f cdv)) →
      ∃ t, PSs (Bx P w K mg base N qual st f cdv A outer s H E) (defBody st) t ∧ ∀ x, pre x → VSs K (cells0 N ((Ar x).map Arg.cell)) t ⟨fun _ => post x .none, fun _ d => post x d, fun _ => False, fun _ => False⟩) : FnOk P w K mg base CX0 (k + 1) f fd ps (spG K Ar pre post) := by
  refine F.ok Sc (fun vs H Q E h => ?_) (fun cdv A outer s H vs Q E hr h => ?_)
  · obtain ⟨B, x, _, p, hp, _⟩ := h
    rw [p.len, hl x]
  · obtain ⟨t, ht, hv⟩ := hb cdv A outer s H E hr
    obtain ⟨B, x, sub, p, hp, q⟩ := h
    have hlv : vs.length ≤ N.length := by rw [p.len, hl x]; exact hN
    refine ⟨t, ht, ?_⟩
    refine hv x hp [] L0 ⟨B, H⟩ (L2.start N vs) [] ⟨B, H⟩ _ (env_start sub p hlv) (fun Γ' σ' S' E' z => ?_) (fun Γ' σ' S' v d E' hd z => ?_) (fun Γ' σ' S' E' z => z.elim) (fun Γ' σ' S' E' z => z.elim)
    · exact q .non S' .none E'.gr E'.sub .non z
    · exact q v S' d E'.gr E'.sub hd z
theorem ok_W {α : Type} {x qual : Str} {st : Stmt} {f : Addr} {fd : FuncData} {N ps : List Str} {k : Nat} {Ar : α → Arg × List Arg} {pre : α → List Dat → Prop} {post : α → List Dat → List Dat → Dat → Prop} (F : Fun K x qual st f fd) (Sc : FnScope N ps (defScope st)) (hl : ∀ x, (Ar x).2.length + 2 = ps.length) (hN : ps.length ≤ N.length)
    (hb : ∀ (cdv : Value) (A : Around) (outer : List PySem.Env) (s : Shared) (H : Hp) (E : XK), Room k (A.deeper (envOfC qual (defScope st) s.heap.objs.size f cdv)) →
      ∃ t, PSs (Bx P w K mg base N qual st f cdv A outer s H E) (defBody st) t ∧ ∀ x zs, pre x zs → VSs K (cells0 N ((Ar x).1.cell :: .ln zs :: (Ar x).2.map Arg.cell)) t
        ⟨fun Γ => ∃ zs', Γ[1]? = some (.ln zs') ∧ post x zs zs' .none, fun Γ d => ∃ zs', Γ[1]? = some (.ln zs') ∧ post x zs zs' d, fun _ => False, fun _ => False⟩) : FnOk P w K mg base CX0 (k + 1) f fd ps (spW K Ar pre post) := by
  refine F.ok Sc (fun vs H Q E h => ?_) (fun cdv A outer s H vs Q E hr h => ?_)
  · obtain ⟨B, v0, t, rest, x, zs, rfl, _, p, _, _, hp, _⟩ := h
    have := hl x
    have := p.len
    simp only [List.length_cons] at *
    omega
  · obtain ⟨tr, ht, hv⟩ := hb cdv A outer s H E hr
    obtain ⟨B, v0, t, rest, x, zs, rfl, sub, p, nb, hz, hp, q⟩ := h
    obtain ⟨p0, p1⟩ : ArgOk K B v0 (Ar x).1 ∧ ArgsOk K B rest (Ar x).2 := by cases p with | cons a b => exact ⟨a, b⟩
    have hlv := hl x
    have hle := p1.len
    refine ⟨tr, ht, ?_⟩
    have fin : ∀ {Γ' : List Cell} {σ' : L2.St} {S' : Hs} {v : V} {d : Dat}, Env K (fun a => a = t) ⟨B, H⟩ Γ' [] σ' [] S' → Dq S'.b v d → (∃ zs', Γ'[1]? = some (.ln zs') ∧ post x zs zs' d) → Q v S'.h := fun {Γ' σ' S' v d} E' hd ⟨zs', h1, z⟩ => by
      obtain ⟨wd, g1, _⟩ := E'.ok
      obtain ⟨b, _, o, hb⟩ := g1 1 _ h1
      cases hb
      exact q v S' zs' d E'.gr E'.sub o.nb o.is hd z
    refine hv x zs hp [] (fun a => a = t) ⟨B, H⟩ _ [] ⟨B, H⟩ _ (env_startT sub p0 p1 nb hz (by omega)) (fun Γ' σ' S' E' z => ?_) (fun Γ' σ' S' v d E' hd z => fin E' hd z) (fun Γ' σ' S' E' z => z.elim) (fun Γ' σ' S' E' z => z.elim)
    exact fin E' .non z
end
end Ld
namespace Ld
open PySem PySem.Spec PyProof.Rows L2 Lx
/-- a module's whole number -/
structure GlobI (K : PySem.W.Frag) (mg : Str → Option Value) (x : Str) (n : Int) : Prop where
  u : ∃ t, mg x = some (.int n t)
end Ld
namespace Ld
open PySem PySem.Spec PyProof.Rows L2 Lx
section
variable {K : PySem.W.Frag} {Γ : List Cell} {Θ : List Tmp}
theorem c1_allF {ds : List Dat} (bs : List Bool) {Q : List Cell → Tmp → Prop} (h : ds = bs.map .bool) (q : Q Γ (.dt (.bool (bs.all id)))) : C1V K (L2.rAll K) Γ Θ (.fr ds) Q := c1_all (ns := bs) (by rw [h]; exact rd_fr) q
theorem c1_sumF {ds : List Dat} (bs : List Int) {Q : List Cell → Tmp → Prop} (h : ds = bs.map .int) (q : Q Γ (.dt (.int bs.sum))) : C1V K (L2.rSum K) Γ Θ (.fr ds) Q := c1_sum (ns := bs) (by rw [h]; exact rd_fr) q
theorem Env.pushs {L : Addr → Prop} {S0 S : Hs} {σ : L2.St} {τ : List V} (E : Env K L S0 Γ Θ σ τ S) : ∀ {srcs : List Dat} {τ1 : List V}, DqAll S.b τ1 srcs → Env K L S0 Γ (srcT srcs ++ Θ) σ (τ1 ++ τ) S
  | [], _, .nil => E
  | d :: ds, _, .cons h t => (Env.pushs E t).push h
/-- two fors -/
theorem ve_lc2T {α β : Type} (inj : α → Dat) (xs : List α) (p : α → Bool) (injb : α → β → Dat) (ys : α → List β) (q : α → β → Bool) (v : α → β → Dat) {wi wi1 : TI} {g g1 : TG} {tt tt1 : TT} {te : TE} {vs vs1 : List Nat} {Q : List Cell → Tmp → Prop} (nb : NB vs Θ) (nb1 : NB vs1 Θ)
    (h : VI K Γ Θ wi fun Γ1 pr ds => ds = xs.map inj ∧ (∀ v ∈ vs, Γ1[v]? = some Cell.no) ∧ ((xs.filter p).flatMap fun a => ((ys a).filter (q a)).map (v a)).length < sizeLine ∧
      (∀ a, a ∈ xs → ∃ f, TgI K pr g vs (inj a) f ∧ ∀ acc srcs, VT K (f Γ1) (.fr acc :: (srcT srcs ++ Θ)) tt fun Γ3 b =>
        b = p a ∧ (b = false → clr vs Γ3 = Γ1) ∧ (b = true → ∀ acc, VI K Γ3 (.fr acc :: (srcT srcs ++ Θ)) wi1 fun Γ4 pr1 ds1 => ds1 = (ys a).map (injb a) ∧ (∀ v ∈ vs1, Γ4[v]? = some Cell.no) ∧ clr vs Γ4 = Γ1 ∧
          ∀ c, c ∈ ys a → ∃ f1, TgI K pr1 g1 vs1 (injb a c) f1 ∧ ∀ acc srcs1, VT K (f1 Γ4) (srcT srcs1 ++ (.fr acc :: (srcT srcs ++ Θ))) tt1 fun Γ5 b' => b' = q a c ∧ (b' = false → clr vs1 Γ5 = Γ4) ∧ (b' = true → VD K Γ5 (srcT srcs1 ++ (.fr acc :: (srcT srcs ++ Θ))) te fun Γ6 y => y = v a c ∧ clr vs1 Γ6 = Γ4))) ∧
      Q Γ1 (.fr ((xs.filter p).flatMap fun a => ((ys a).filter (q a)).map (v a)))) : VE K Γ Θ (tLc2 wi g tt wi1 g1 tt1 te vs vs1) Q := fun L S0 σ τ S Qv E k =>
  h L S0 σ τ S _ E fun Γ1 srcs τ1 S1 J pr ds E1 hl w ⟨eds, hn, hsz, hs, hq⟩ => fun D hD => by
    have nbs : NB vs (srcT srcs ++ Θ) := nb_app nb_srcT nb
    have nbs1 : NB vs1 (srcT srcs ++ Θ) := nb_app nb_srcT nb1
    have hls : ds.length = xs.length := by rw [eds, List.length_map]
    let F : List α → List Dat := fun l => (l.filter p).flatMap fun a => ((ys a).filter (q a)).map (v a)
    have Fl : ∀ i, (F (xs.take i)).length ≤ (F xs).length := fun i => by
      have e : F xs = F (xs.take i) ++ F (xs.drop i) := by
        show List.flatMap _ _ = List.flatMap _ _ ++ List.flatMap _ _
        rw [← List.flatMap_append, ← List.filter_append, List.take_append_drop]
      rw [e, List.length_append]
      omega
    have E1w : Env K L S0 Γ1 (.fr [] :: (srcT srcs ++ Θ)) (wipe σ vs) (.ref D :: (τ1 ++ τ)) ⟨S1.b, upd S1.h D (.lst [])⟩ := (E1.newLst hD .nil).wiped hn (nb_fr nbs)
    refine ⟨fun i m H => m = ds.length - i ∧ i ≤ ds.length ∧ ∃ S2, S2.h = H ∧ Env K L S0 Γ1 (.fr (F (xs.take i)) :: (srcT srcs ++ Θ)) (wipe σ vs) (.ref D :: (τ1 ++ τ)) S2, ⟨_, rfl, Nat.zero_le _, _, rfl, E1w⟩, ?_⟩
    rintro i m H ⟨rfl, hi, S2, rfl, E2⟩
    have dq := E2.pop.srcs hl
    by_cases hlt : i < ds.length
    · refine .inr ⟨w.go S2 i E2.sub dq hlt, fun H3 => ∃ S3, S3.h = H3 ∧ Env K L S0 Γ1 (.fr (F (xs.take (i + 1))) :: (srcT srcs ++ Θ)) (wipe σ vs) (.ref D :: (τ1 ++ τ)) S3,
        fun H' ⟨S3, e, E3⟩ => ⟨_, by omega, rfl, hlt, S3, e, E3⟩, fun x H' y => ?_⟩
      obtain ⟨S3, d, e3, g3, s3, hd3, q3⟩ := w.yld S2 i x H' E2.sub dq hlt y
      subst e3
      obtain ⟨a, ha, ead⟩ : ∃ a, xs[i]? = some a ∧ inj a = d := by
        rw [eds, List.getElem?_map] at hd3
        exact Option.map_eq_some_iff.mp hd3
      subst ead
      obtain ⟨f, tg, hf⟩ := hs a (List.mem_of_getElem? ha)
      refine tg.run L S0 Γ1 _ σ _ S3 x _ (nb_fr nbs) (E2.grow g3 s3) q3 fun σ3 E3 ew => ⟨ew, ?_⟩
      refine hf _ srcs L S0 σ3 _ S3 _ E3 fun Γ4 S4 b E4 ⟨eb, qf, qt⟩ => ?_
      have fin : ∀ {Γ5 : List Cell} {acc5 : List Dat} {S5 : Hs} {σ5 : L2.St}, wipe σ5 vs = wipe σ vs → Env K L S0 Γ5 (.fr acc5 :: (srcT srcs ++ Θ)) σ5 (.ref D :: (τ1 ++ τ)) S5 → clr vs Γ5 = Γ1 → Env K L S0 Γ1 (.fr acc5 :: (srcT srcs ++ Θ)) (wipe σ vs) (.ref D :: (τ1 ++ τ)) S5 := fun {Γ5 acc5 S5 σ5} ew E5 p5 => by
        rw [← ew, ← p5]
        exact (E5.forget (clr_len vs) fun i c e => clr_at e).wiped (by rw [p5]; exact hn) (nb_fr nbs)
      have tk : xs.take (i + 1) = xs.take i ++ [a] := by rw [List.take_add_one, ha] <;> rfl
      have Fa : p a = true → F (xs.take (i + 1)) = F (xs.take i) ++ ((ys a).filter (q a)).map (v a) := fun hp => by
        show List.flatMap _ _ = List.flatMap _ _ ++ _
        rw [tk, List.filter_append, List.flatMap_append, List.filter_cons, if_pos hp, List.filter_nil, List.flatMap_cons, List.flatMap_nil, List.append_nil]
      have Fb : p a = false → F (xs.take (i + 1)) = F (xs.take i) := fun hp => by
        show List.flatMap _ _ = List.flatMap _ _
        rw [tk, List.filter_append, List.flatMap_append, List.filter_cons, if_neg (by rw [hp]; exact Bool.false_ne_true), List.filter_nil, List.flatMap_nil, List.append_nil]
      cases b with
      | true =>
        rw [if_pos rfl]
        refine qt rfl _ L S0 σ3 _ S4 _ E4 fun Γ5 srcs1 τ2 S5 J1 pr1 ds1 E5 hl1 w1 ⟨eds1, hn1, cl1, hs1⟩ => ?_
        have hls1 : ds1.length = (ys a).length := by rw [eds1, List.length_map]
        have nbs2 : NB vs1 (srcT srcs1 ++ (.fr (F (xs.take i)) :: (srcT srcs ++ Θ))) := nb_app nb_srcT (nb_fr nbs1)
        refine ⟨fun j k H => k = ds1.length - j ∧ j ≤ ds1.length ∧ ∃ S6 σ6, S6.h = H ∧ σ6 = σ3 ∧ Env K L S0 Γ5 (srcT srcs1 ++ (.fr (F (xs.take i) ++ (((ys a).take j).filter (q a)).map (v a)) :: (srcT srcs ++ Θ))) (wipe σ6 vs1) (τ2 ++ (.ref D :: (τ1 ++ τ))) S6, ⟨_, rfl, Nat.zero_le _, S5, σ3, rfl, rfl, ?_⟩, ?_⟩
        · rw [List.take_zero, List.filter_nil, List.map_nil, List.append_nil]
          exact E5.wiped hn1 nbs2
        rintro j k H ⟨rfl, hj, S6, σ6, rfl, rfl, E6⟩
        have dq1 := E6.srcs hl1
        by_cases hjt : j < ds1.length
        · refine .inr ⟨w1.go S6 j E6.sub dq1 hjt, fun H7 => ∃ S7, S7.h = H7 ∧ Env K L S0 Γ5 (srcT srcs1 ++ (.fr (F (xs.take i) ++ (((ys a).take (j + 1)).filter (q a)).map (v a)) :: (srcT srcs ++ Θ))) (wipe σ6 vs1) (τ2 ++ (.ref D :: (τ1 ++ τ))) S7,
            fun H' ⟨S7, e, E7⟩ => ⟨_, by omega, rfl, hjt, S7, σ6, e, rfl, E7⟩, fun x1 H1 y1 => ?_⟩
          obtain ⟨S7, d1, e7, g7, s7, hd7, q7⟩ := w1.yld S6 j x1 H1 E6.sub dq1 hjt y1
          subst e7
          obtain ⟨c, hc, ecd⟩ : ∃ c, (ys a)[j]? = some c ∧ injb a c = d1 := by
            rw [eds1, List.getElem?_map] at hd7
            exact Option.map_eq_some_iff.mp hd7
          subst ecd
          obtain ⟨f1, tg1, hf1⟩ := hs1 c (List.mem_of_getElem? hc)
          refine tg1.run L S0 Γ5 _ σ6 _ S7 x1 _ (nb_app nb_srcT (nb_fr nbs1)) (E6.grow g7 s7) q7 fun σ7 E7 ew1 => ⟨ew1, ?_⟩
          refine hf1 _ srcs1 L S0 σ7 _ S7 _ E7 fun Γ8 S8 b1 E8 ⟨eb1, qf1, qt1⟩ => ?_
          have fin1 : ∀ {Γ9 : List Cell} {acc9 : List Dat} {S9 : Hs}, Env K L S0 Γ9 (srcT srcs1 ++ (.fr acc9 :: (srcT srcs ++ Θ))) σ7 (τ2 ++ (.ref D :: (τ1 ++ τ))) S9 → clr vs1 Γ9 = Γ5 → Env K L S0 Γ5 (srcT srcs1 ++ (.fr acc9 :: (srcT srcs ++ Θ))) (wipe σ6 vs1) (τ2 ++ (.ref D :: (τ1 ++ τ))) S9 := fun {Γ9 acc9 S9} E9 p9 => by
            rw [← ew1, ← p9]
            exact (E9.forget (clr_len vs1) fun i c e => clr_at e).wiped (by rw [p9]; exact hn1) (nb_app nb_srcT (nb_fr nbs1))
          have tk1 : (ys a).take (j + 1) = (ys a).take j ++ [c] := by rw [List.take_add_one, hc] <;> rfl
          cases b1 with
          | true =>
            rw [if_pos rfl]
            refine qt1 rfl L S0 σ7 _ S8 _ E8 fun Γ9 S9 u yv E9 ⟨ey, p9⟩ => ?_
            have E9' := E9.pop.unsrc hl1
            have dq9 := E9.pop.srcs hl1
            have hv : Dq S9.b u yv := E9.dt
            obtain ⟨a', us, ea, hu, pu, mk⟩ := E9'.mutTop
            cases ea
            refine ⟨us, hu, ?_, ⟨S9.b, upd S9.h D (.lst (us ++ [u]))⟩, rfl, ?_⟩
            · rw [pu.len]
              refine Nat.lt_of_le_of_lt ?_ hsz
              have h1 := Fl (i + 1)
              rw [Fa eb.symm, List.length_append] at h1
              have h2 : (((((ys a).take j).filter (q a)).map (v a)).length) ≤ (((ys a).filter (q a)).map (v a)).length := by
                rw [List.length_map, List.length_map]
                exact ((List.take_sublist _ _).filter _).length_le
              rw [List.length_append]
              exact Nat.le_trans (Nat.add_le_add_left h2 _) h1
            · rw [tk1, List.filter_append, List.map_append, List.filter_cons, if_pos eb1.symm, List.filter_nil, List.map_singleton, ← ey, ← List.append_assoc]
              exact fin1 (Env.pushs (mk (us ++ [u]) _ (pu.app (.one hv))) dq9) p9
          | false =>
            rw [if_neg Bool.false_ne_true]
            refine ⟨S8, rfl, ?_⟩
            rw [tk1, List.filter_append, List.map_append, List.filter_cons, if_neg (by rw [← eb1]; exact Bool.false_ne_true), List.filter_nil, List.map_nil, List.append_nil]
            exact fin1 E8 (qf1 rfl)
        · have e : j = (ys a).length := by omega
          rw [e, List.take_length] at E6
          refine .inl ⟨by rw [← hls1] at e; rw [e]; exact w1.stop S6 E6.sub dq1, S6, rfl, ?_⟩
          rw [Fa eb.symm]
          exact fin ew ((E6.unsrc hl1).unwiped hn1 (nb_fr nbs1)) cl1
      | false =>
        rw [if_neg Bool.false_ne_true]
        refine ⟨S4, rfl, ?_⟩
        rw [Fb eb.symm]
        exact fin ew E4 (qf rfl)
    · have e : i = ds.length := by omega
      subst e
      rw [hls, List.take_length] at E2
      exact .inl ⟨w.stop S2 E2.sub dq, k Γ1 S2 _ _ ((E2.under hl).unwiped hn (nb_fr nb)) hq⟩
end
end Ld
set_option Elab.async false
set_option linter.all false
set_option maxRecDepth 100000
namespace Ld
open PySem PySem.Spec PyProof.Rows L2 Lx
section
variable {X : Cx} {K : PySem.W.Frag}
theorem ix_listK (e : X.K = K) : IxR X (rIxL K) := e ▸ ix_list
theorem op_catFK (e : X.K = K) : OpR X (binaryOp .Add) (rCatF K) := e ▸ op_catF
theorem op_eqDK (e : X.K = K) (hu : X.A.units + 64 < cLine) : OpR X (compareOp .Eq) (rEqD K) := e ▸ op_eqD hu
theorem cl_lenK (e : X.K = K) : CallR X (.builtin "len") (rLenSeq K) := e ▸ cl_len
theorem sl_listK (e : X.K = K) : SlR X (rSlL K) := e ▸ sl_list
theorem sl_tupFK (e : X.K = K) : SlR X (rSlF K) := e ▸ sl_tupF
theorem pi_listK {tg l : Expr} {tl : TE} (e : X.K = K) (hl : PE X l tl) : PI X tg l (iList K tl) := e ▸ pi_list hl
theorem pg_tupK {es : List Expr} {k : Nat} {t : TGs} {n : Nat} {pos : Pos} (e : X.K = K) (hc : X.calm = true) (h : PGs X es t)
    (hn : (assignEach es X.env).length = n := by rfl) (hst : (assignEach es X.env).findIdx? (·.1) = none := by rfl) : PG X (.Tuple es k pos) (gTup K n t) := e ▸ pg_tup hc h hn hst
end
end Ld
set_option Elab.async false
set_option linter.all false
set_option maxRecDepth 100000
namespace Sh
open PySem PySem.Spec PyProof.Rows L2 Lx Ld
/-! ### data of rows -/
abbrev iL (ns : List Int) : List Dat := ns.map .int
def oD : Option Int → Dat
  | none => .none
  | some i => .int i
abbrev oL (row : List (Option Int)) : List Dat := row.map oD
def nums (row : List (Option Int)) : List Int := row.filterMap id
def gr (ns : List Int) : List Int := ns.zipIdx.map fun p => (((ns.take p.2).filter fun o => decide (o > p.1)).length : Nat)
def RowOk (r : List (Option Int)) : Prop := r.length ≤ 24 ∧ (nums r).Nodup
def lotStep (acc : List (List Int)) : Option Int → List (List Int)
  | none => acc ++ [[]]
  | some i => acc.set (acc.length - 1) (acc.getD (acc.length - 1) [] ++ [i])
def lots (r : List (Option Int)) : List (List Int) := r.foldl lotStep [[]]
def tL (ll : List (List Int)) : List Dat := ll.map fun l => .tuple (iL l)
def insF (row : List Int) (p : Int × Int) : List Int := row.take p.2.toNat ++ [p.1] ++ row.drop p.2.toNat
def rowF (ds cs : List Int) : List Int := (ds.zip cs).foldl insF []
def dsc (ns : List Int) : List Int := ns.mergeSort fun a b => decide (b ≤ a)
def asc (ns : List Int) : List Int := ns.mergeSort fun a b => decide (a ≤ b)
def CntOk (cs : List Int) (n : Nat) : Prop := cs.length = n ∧ ∀ (i : Nat) c, cs[i]? = some c → 0 ≤ c ∧ c ≤ (i : Int)
theorem kb_ii : kitB "int" "int" = some true := by decide +kernel
theorem kb_ib : kitB "int" "bool" = some false := by decide +kernel
theorem kb_tt : kitB "tuple" "tuple" = some true := by decide +kernel
theorem kb_ll : kitB "list" "list" = some true := by decide +kernel
theorem gl_le {n : Nat} (h : n ≤ 100000) : n ≤ sizeLine := by
  have : 100000 < sizeLine := by decide +kernel
  omega
theorem gl_lt {n : Nat} (h : n ≤ 100000) : n < sizeLine := by
  have : 100000 < sizeLine := by decide +kernel
  omega
theorem nums_eq : ∀ row : List (Option Int), (row.filter fun o => !isNo (oD o)).map oD = iL (nums row)
  | [] => rfl
  | none :: r => nums_eq r
  | some i :: r => by
    show PyData.int i :: ((r.filter fun o => !isNo (oD o)).map oD) = PyData.int i :: iL (nums r)
    rw [nums_eq r]
theorem nums_len (row : List (Option Int)) : (nums row).length ≤ row.length := List.length_filterMap_le _ _
theorem cut_to (ds : List Dat) (n : Nat) : Ld.cutD ds none (some (n : Int)) = ds.take n := by
  unfold Ld.cutD
  rw [HT.sIx_none, HT.sIx_nat, List.drop_zero, Nat.sub_zero, List.take_eq_take_iff]
  omega
theorem ixN_at {n j : Nat} (hj : j < n) : ixN n (j : Int) = some j := by
  unfold ixN
  rw [if_pos (by omega), if_pos (by omega), Int.toNat_natCast]
theorem atI_nat {α : Type} {xs : List α} {j : Nat} {x : α} (h : xs[j]? = some x) : atI xs (j : Int) = some x := by
  have hj := (List.getElem?_eq_some_iff.mp h).1
  unfold atI
  rw [ixN_at hj]
  exact h
theorem ixN_last {n : Nat} (h : 0 < n) : ixN n (-1) = some (n - 1) := by
  unfold ixN
  rw [if_neg (by omega), if_pos (by omega)]
  congr 1
  omega
theorem atI_last {α : Type} {xs : List α} {x : α} (h : xs[xs.length - 1]? = some x) : atI xs (-1) = some x := by
  unfold atI
  rw [ixN_last (by have := (List.getElem?_eq_some_iff.mp h).1; omega)]
  exact h
theorem oL_at {r : List (Option Int)} {i : Nat} {d : Dat} (h : (oL r)[i]? = some d) : ∃ o, r[i]? = some o ∧ d = oD o := by
  rw [List.getElem?_map] at h
  obtain ⟨o, h1, h2⟩ := Option.map_eq_some_iff.mp h
  exact ⟨o, h1, h2.symm⟩
theorem take_snoc {α : Type} {r : List α} {i : Nat} {o : α} (h : r[i]? = some o) : r.take (i + 1) = r.take i ++ [o] := by rw [List.take_add_one, h] <;> rfl
theorem lots_snoc (r : List (Option Int)) (o : Option Int) : lots (r ++ [o]) = lotStep (lots r) o := by unfold lots; rw [List.foldl_append] <;> rfl
theorem lots_ne : ∀ r : List (Option Int), 0 < (lots r).length := fun r => by
  have h : ∀ (r : List (Option Int)) (acc : List (List Int)), 0 < acc.length → 0 < (r.foldl lotStep acc).length := by
    intro r
    induction r with
    | nil => exact fun _ h => h
    | cons o r ih =>
      intro acc h
      refine ih _ ?_
      cases o with
      | none => show 0 < (acc ++ [[]]).length; simp
      | some i => show 0 < (acc.set _ _).length; simpa using h
  exact h r _ (by decide)
theorem lots_len (r : List (Option Int)) : (lots r).length ≤ r.length + 1 := by
  have h : ∀ (r : List (Option Int)) (acc : List (List Int)), (r.foldl lotStep acc).length ≤ acc.length + r.length := by
    intro r
    induction r with
    | nil => exact fun _ => Nat.le_refl _
    | cons o r ih =>
      intro acc
      refine Nat.le_trans (ih _) ?_
      cases o with
      | none => show (acc ++ [[]]).length + _ ≤ _; simp; omega
      | some i => show (acc.set _ _).length + _ ≤ _; simp
  have := h r [[]]
  simp at this
  unfold lots
  omega
theorem lots_flat (r : List (Option Int)) : (lots r).flatten = nums r := by
  have h : ∀ (r : List (Option Int)) (acc : List (List Int)), 0 < acc.length → (r.foldl lotStep acc).flatten = acc.flatten ++ nums r := by
    intro r
    induction r with
    | nil => intro acc _; simp [nums]
    | cons o r ih =>
      intro acc h
      show (r.foldl lotStep (lotStep acc o)).flatten = _
      cases o with
      | none =>
        rw [ih _ (by show 0 < (acc ++ [[]]).length; simp)]
        show (acc ++ [[]]).flatten ++ _ = _
        simp [nums]
      | some i =>
        rw [ih _ (by show 0 < (acc.set _ _).length; simpa using h)]
        show (acc.set _ _).flatten ++ _ = _
        obtain ⟨as, a, rfl⟩ : ∃ as a, acc = as ++ [a] := ⟨acc.dropLast, acc.getLast (List.ne_nil_of_length_pos h), (List.dropLast_concat_getLast _).symm⟩
        have e : (as ++ [a]).length - 1 = as.length := by simp
        rw [e, List.set_append_right _ _ (Nat.le_refl _)]
        simp [nums]
  rw [show lots r = r.foldl lotStep [[]] from rfl, h r _ (by decide)]
  simp
theorem gr_len (ns : List Int) : (gr ns).length = ns.length := by unfold gr; rw [List.length_map, List.length_zipIdx]
/-! ### sorting -/
theorem eq_dsc {ns ns' : List Int} (p : ns'.Perm ns) (h : OrdB true ns') : ns' = dsc ns := by
  refine List.Perm.eq_of_pairwise (le := fun a b : Int => b ≤ a) (fun a b _ _ x y => by omega) h ?_ (p.trans (List.mergeSort_perm _ _).symm)
  have := List.pairwise_mergeSort (le := fun a b : Int => decide (b ≤ a)) (fun a b c x y => by simp at *; omega) (fun a b => by simp; omega) ns
  exact this.imp (fun h => by simpa using h)
theorem eq_asc {ns ns' : List Int} (p : ns'.Perm ns) (h : ns'.Pairwise (· ≤ ·)) : ns' = asc ns := by
  refine List.Perm.eq_of_pairwise (le := fun a b : Int => a ≤ b) (fun a b _ _ x y => by omega) h ?_ (p.trans (List.mergeSort_perm _ _).symm)
  have := List.pairwise_mergeSort (le := fun a b : Int => decide (a ≤ b)) (fun a b c x y => by simp at *; omega) (fun a b => by simp; omega) ns
  exact this.imp (fun h => by simpa using h)
theorem asc_perm (ns : List Int) : (asc ns).Perm ns := List.mergeSort_perm _ _
theorem dsc_perm (ns : List Int) : (dsc ns).Perm ns := List.mergeSort_perm _ _
theorem asc_srt (ns : List Int) : (asc ns).Pairwise (· ≤ ·) := (List.pairwise_mergeSort (le := fun a b : Int => decide (a ≤ b)) (fun a b c x y => by simp at *; omega) (fun a b => by simp; omega) ns).imp (fun h => by simpa using h)
theorem dsc_srt (ns : List Int) : (dsc ns).Pairwise (· ≥ ·) := (List.pairwise_mergeSort (le := fun a b : Int => decide (b ≤ a)) (fun a b c x y => by simp at *; omega) (fun a b => by simp; omega) ns).imp (fun h => by simpa using h)
theorem rowF_snoc {ds cs : List Int} {i : Nat} {d c : Int} (h1 : ds[i]? = some d) (h2 : cs[i]? = some c) : rowF (ds.take (i + 1)) (cs.take (i + 1)) = insF (rowF (ds.take i) (cs.take i)) (d, c) := by
  unfold rowF
  rw [take_snoc h1, take_snoc h2]
  have l1 := (List.getElem?_eq_some_iff.mp h1).1
  have l2 := (List.getElem?_eq_some_iff.mp h2).1
  rw [List.zip_append (by rw [List.length_take, List.length_take]; omega), List.foldl_append]
  rfl
theorem insF_len (row : List Int) (p : Int × Int) : (insF row p).length = row.length + 1 := by
  unfold insF
  simp only [List.length_append, List.length_take, List.length_drop, List.length_singleton]
  omega
theorem rowF_len (ds cs : List Int) : (rowF ds cs).length = min ds.length cs.length := by
  have h : ∀ (l : List (Int × Int)) (acc : List Int), (l.foldl insF acc).length = acc.length + l.length := by
    intro l
    induction l with
    | nil => exact fun _ => rfl
    | cons p l ih => intro acc; show (l.foldl insF (insF acc p)).length = _; rw [ih, insF_len, List.length_cons]; omega
  unfold rowF
  rw [h, List.length_zip, List.length_nil, Nat.zero_add]
end Sh
namespace Sh
open PySem PySem.Spec PyProof.Rows L2 Lx Ld
theorem oL_some (ns : List Int) : oL (ns.map some) = iL ns := by
  show List.map oD (List.map some ns) = _
  rw [List.map_map]
  rfl
theorem nums_some : ∀ ns : List Int, nums (ns.map some) = ns
  | [] => rfl
  | n :: ns => by
    show n :: nums (ns.map some) = _
    rw [nums_some ns]
end Sh
namespace Sh
theorem fil_true {α : Type} (xs : List α) : xs.filter (fun _ => true) = xs := List.filter_eq_self.mpr fun _ _ => rfl
end Sh
namespace Sh
open PySem PySem.Spec PyProof.Rows L2 Lx Ld
section
variable {K : PySem.W.Frag} {Γ : List Cell} {Θ : List Tmp}
theorem eqv_ii (i j : Int) : PyData.eqv (.int i) (.int j) = decide (i = j) := by
  simp [PyData.eqv, BEq.beq]
theorem r2_eqI {i j : Int} {Q : List Cell → Tmp → Prop} (q : Q Γ (.dt (.bool (decide (i = j))))) : R2V K (rEqD K) Γ Θ (.dt (.int i)) (.dt (.int j)) Q := r2_eqD rd_dt rd_dt rfl rfl (by rw [eqv_ii]; exact q)
theorem r2_neI {i j : Int} {Q : List Cell → Tmp → Prop} (q : Q Γ (.dt (.bool (!decide (i = j))))) : R2V K (rNeD K) Γ Θ (.dt (.int i)) (.dt (.int j)) Q := r2_neD rd_dt rd_dt rfl rfl (by rw [eqv_ii]; exact q)
end
theorem enum_iL (x : List Int) : enumD (iL x) = x.zipIdx.map fun p => PyData.tuple [.int p.2, .int p.1] := by
  unfold enumD
  rw [List.zipIdx_map, List.map_map]
  rfl
theorem zip_iL (x y : List Int) : zipD (iL x) (iL y) = (x.zip y).map fun p => PyData.tuple [.int p.1, .int p.2] := by
  unfold zipD
  rw [List.zip_map, List.map_map]
  rfl
theorem iL_take (x : List Int) (n : Nat) : (iL x).take n = iL (x.take n) := List.map_take.symm
end Sh
namespace Sh
open PySem PySem.Spec PyProof.Rows L2 Lx Ld
theorem tL_last {ll : List (List Int)} (h : 0 < ll.length) : atI (tL ll) (-1) = some (.tuple (iL (ll.getD (ll.length - 1) []))) := by
  refine atI_last ?_
  have e : ll.length - 1 < ll.length := by omega
  rw [tL, List.length_map, List.getElem?_map, List.getElem?_eq_getElem e]
  simp only [Option.map_some, List.getD_eq_getElem?_getD, List.getElem?_eq_getElem e, Option.getD_some]
theorem lots_mem {r : List (Option Int)} {l : List Int} (h : l ∈ lots r) : l.length ≤ (nums r).length := by
  rw [← lots_flat]
  exact (List.sublist_flatten_of_mem h).length_le
end Sh
namespace Sh
open PySem PySem.Spec PyProof.Rows L2 Lx Ld
/-! ### data that are compared -/
def Shp (n : Nat) (d : Dat) : Prop := d.canLay0 = true ∧ d.depth ≤ n
theorem shp_all {n : Nat} : ∀ {ds : List Dat}, (∀ d ∈ ds, Shp n d) → PyData.canLayAll0 ds = true ∧ PyData.depthAll ds ≤ n
  | [], _ => ⟨by simp only [PyData.canLayAll0], by simp only [PyData.depthAll]; exact Nat.zero_le _⟩
  | d :: ds, h => by
    have h1 := h d (by simp)
    have h2 := shp_all fun e he => h e (List.mem_cons_of_mem _ he)
    refine ⟨by simp only [PyData.canLayAll0, h1.1, h2.1]; rfl, ?_⟩
    simp only [PyData.depthAll]
    have := h1.2
    have := h2.2
    omega
theorem shp_list {n : Nat} {ds : List Dat} (h : ∀ d ∈ ds, Shp n d) : Shp (n + 1) (.list ds) := by
  have := shp_all h
  refine ⟨by simp only [PyData.canLay0]; exact this.1, ?_⟩
  have := this.2
  simp only [PyData.depth]
  omega
theorem shp_tup {n : Nat} {ds : List Dat} (h : ∀ d ∈ ds, Shp n d) : Shp (n + 1) (.tuple ds) := by
  have := shp_all h
  refine ⟨by simp only [PyData.canLay0]; exact this.1, ?_⟩
  have := this.2
  simp only [PyData.depth]
  omega
theorem shp_int (i : Int) : Shp 1 (.int i) := ⟨by simp only [PyData.canLay0], by simp [PyData.depth]⟩
theorem shp_ok {n : Nat} {d : Dat} (h : Shp n d) (l : n ≤ 64) : SeqAt.shaped d = true := by
  show (d.canLay0 && decide (d.depth ≤ 64)) = true
  rw [h.1, decide_eq_true (Nat.le_trans h.2 l)]
  rfl
theorem shp_iL (ns : List Int) : ∀ d ∈ iL ns, Shp 1 d := fun d h => by
  obtain ⟨i, _, rfl⟩ := List.mem_map.mp h
  exact shp_int i
theorem shp_li (ns : List Int) : Shp 2 (.list (iL ns)) := shp_list (shp_iL ns)
theorem shp_ti (ns : List Int) : Shp 2 (.tuple (iL ns)) := shp_tup (shp_iL ns)
theorem shp_tL (ll : List (List Int)) : Shp 3 (.list (tL ll)) := shp_list fun d h => by
  obtain ⟨i, _, rfl⟩ := List.mem_map.mp h
  exact shp_ti i
theorem eqv_li (xs ys : List Int) : PyData.eqvAll (iL xs) (iL ys) = decide (xs = ys) := by
  induction xs generalizing ys with
  | nil => cases ys <;> simp [PyData.eqvAll]
  | cons x xs ih =>
    cases ys with
    | nil => simp [PyData.eqvAll]
    | cons y ys =>
      show PyData.eqvAll (.int x :: iL xs) (.int y :: iL ys) = _
      simp only [PyData.eqvAll, ih, eqv_ii]
      by_cases h : x = y <;> simp [h]
theorem eqv_l (xs ys : List Int) : PyData.eqv (.list (iL xs)) (.list (iL ys)) = decide (xs = ys) := by
  simp only [PyData.eqv, eqv_li]
theorem eqv_t (xs ys : List Int) : PyData.eqv (.tuple (iL xs)) (.tuple (iL ys)) = decide (xs = ys) := by
  simp only [PyData.eqv, eqv_li]
theorem eqv_tL (xs ys : List (List Int)) : PyData.eqv (.list (tL xs)) (.list (tL ys)) = decide (xs = ys) := by
  simp only [PyData.eqv]
  induction xs generalizing ys with
  | nil => cases ys <;> simp [PyData.eqvAll, tL]
  | cons x xs ih =>
    cases ys with
    | nil => simp [PyData.eqvAll, tL]
    | cons y ys =>
      show PyData.eqvAll (.tuple (iL x) :: tL xs) (.tuple (iL y) :: tL ys) = _
      simp only [PyData.eqvAll, ih, eqv_t]
      by_cases h : x = y <;> simp [h]
section
variable {K : PySem.W.Frag} {Γ : List Cell} {Θ : List Tmp}
theorem r2_neL {x y : Tmp} {xs ys : List Int} {Q : List Cell → Tmp → Prop} (hx : rd Γ x (.list (iL xs))) (hy : rd Γ y (.list (iL ys))) (q : Q Γ (.dt (.bool (!decide (xs = ys))))) : R2V K (rNeD K) Γ Θ x y Q := r2_neD hx hy (shp_ok (shp_li _) (by decide)) (shp_ok (shp_li _) (by decide)) (by rw [eqv_l]; exact q)
theorem r2_eqT {xs ys : List Int} {Q : List Cell → Tmp → Prop} (q : Q Γ (.dt (.bool (decide (xs = ys))))) : R2V K (rEqD K) Γ Θ (.dt (.tuple (iL xs))) (.dt (.tuple (iL ys))) Q := r2_eqD rd_dt rd_dt (shp_ok (shp_ti _) (by decide)) (shp_ok (shp_ti _) (by decide)) (by rw [eqv_t]; exact q)
theorem r2_neT {xs ys : List Int} {Q : List Cell → Tmp → Prop} (q : Q Γ (.dt (.bool (!decide (xs = ys))))) : R2V K (rNeD K) Γ Θ (.dt (.tuple (iL xs))) (.dt (.tuple (iL ys))) Q := r2_neD rd_dt rd_dt (shp_ok (shp_ti _) (by decide)) (shp_ok (shp_ti _) (by decide)) (by rw [eqv_t]; exact q)
theorem r2_eqSL {ns ys : List Int} {y : Tmp} {Q : List Cell → Tmp → Prop} (hy : rd Γ y (.list (iL ys))) (q : Q Γ (.dt (.bool (decide (ns = ys))))) : R2V K (rEqD K) Γ Θ (.sc ns) y Q := r2_eqS hy (shp_ok (shp_li _) (by decide)) (shp_ok (shp_li _) (by decide)) (by rw [eqv_l]; exact q)
end
theorem atI_in {α : Type} {xs : List α} {i : Int} (h0 : 0 ≤ i) (h1 : i < xs.length) : ∃ x, atI xs i = some x ∧ x ∈ xs := by
  obtain ⟨n, rfl⟩ := Int.eq_ofNat_of_zero_le h0
  have hn : n < xs.length := by omega
  exact ⟨xs[n], atI_nat (List.getElem?_eq_getElem hn), List.getElem_mem _⟩
end Sh
namespace Sh
open PySem PySem.Spec PyProof.Rows L2 Lx Ld
def insA {α : Type} (l : List α) (j : Nat) (x : α) : List α := l.take j ++ [x] ++ l.drop j
theorem insA_len {α : Type} (l : List α) (j : Nat) (x : α) : (insA l j x).length = l.length + 1 := by
  unfold insA
  simp only [List.length_append, List.length_take, List.length_drop, List.length_singleton]
  omega
theorem insA_perm {α : Type} (l : List α) (j : Nat) (x : α) : (insA l j x).Perm (x :: l) := by
  unfold insA
  have h : (l.take j ++ [x] ++ l.drop j).Perm (x :: (l.take j ++ l.drop j)) := by
    rw [List.append_assoc]
    exact List.perm_middle
  rwa [List.take_append_drop] at h
theorem zipIdx_snoc {α : Type} (l : List α) (a : α) : (l ++ [a]).zipIdx = l.zipIdx ++ [(a, l.length)] := by
  rw [List.zipIdx_append]
  simp
def cntG (l : List Int) (a : Int) : Nat := (l.filter fun o => decide (o > a)).length
theorem gr_snoc (l : List Int) (a : Int) : gr (l ++ [a]) = gr l ++ [(cntG l a : Int)] := by
  unfold gr cntG
  rw [zipIdx_snoc, List.map_append, List.map_singleton]
  congr 1
  · refine List.map_congr_left fun p hp => ?_
    have := (List.mem_zipIdx_iff_getElem?.mp hp)
    have := (List.getElem?_eq_some_iff.mp this).1
    rw [List.take_append_of_le_length (by omega)]
  · simp only
    rw [List.take_left']
    rfl
theorem sum_ite (l : List Int) (a : Int) : (l.map fun o => if decide (o > a) = true then (1 : Int) else 0).sum = (cntG l a : Int) := by
  unfold cntG
  induction l with
  | nil => rfl
  | cons o l ih =>
    rw [List.map_cons, List.sum_cons, ih, List.filter_cons]
    by_cases h : decide (o > a) = true
    · rw [if_pos h, if_pos h, List.length_cons]
      omega
    · rw [if_neg h, if_neg h]
      omega
end Sh
namespace Sh
open PySem PySem.Spec PyProof.Rows L2 Lx Ld
theorem rng0_len {m : Nat} : (rngD 0 (m : Int)).length = m := by rw [rngD_len]; omega
theorem rng0 {m i : Nat} {d : Dat} (h : (rngD 0 (m : Int))[i]? = some d) : i < m ∧ d = .int (i : Int) := by
  have hi := (List.getElem?_eq_some_iff.mp h).1
  rw [rngD_len] at hi
  rw [rngD_at hi] at h
  exact ⟨by omega, by cases h; rw [Int.zero_add]⟩
theorem iL_ins (l : List Int) (j : Nat) (x : Int) : (iL l).take j ++ [PyData.int x] ++ (iL l).drop j = iL (insA l j x) := by
  simp only [iL, insA, List.map_append, List.map_take, List.map_drop, List.map_cons, List.map_nil]
end Sh
namespace Sh
end Sh
namespace Sh
theorem flat_take_le (ll : List (List Int)) (n : Nat) : ((ll.take n).flatten).length ≤ ll.flatten.length := by
  have h : ll.flatten = (ll.take n).flatten ++ (ll.drop n).flatten := by rw [← List.flatten_append, List.take_append_drop]
  rw [h, List.length_append]
  omega
end Sh
set_option Elab.async false
set_option linter.all false
set_option maxRecDepth 100000
namespace Sh
open PySem PySem.Spec PyProof.Rows L2 Lx Ld
end Sh
set_option Elab.async false
set_option linter.all false
set_option maxRecDepth 100000
namespace Sh
open PySem PySem.Spec PyProof.Rows L2 Lx Ld
/-! ### counts and rows: there and back -/
def gc (l : List Int) (x : Int) : Nat := cntG (l.takeWhile fun y => y != x) x
theorem take_idx (x : Int) : ∀ l : List Int, l.take (l.idxOf x) = l.takeWhile fun y => y != x
  | [] => rfl
  | y :: l => by
    rw [List.idxOf_cons, List.takeWhile_cons]
    by_cases h : y = x
    · subst h
      simp
    · have : (y == x) = false := by simp [h]
      rw [this]
      simp [h, take_idx x l]
theorem gr_idx {l : List Int} {x : Int} (h : x ∈ l) : (gr l)[l.idxOf x]? = some (gc l x : Int) := by
  have hi := List.idxOf_lt_length_iff.mpr h
  unfold gr gc cntG
  rw [List.getElem?_map, List.getElem?_zipIdx, List.getElem?_eq_getElem hi, Option.map_some, Option.map_some, ← take_idx]
  simp
theorem tw_in {x : Int} (R : List Int) : ∀ {A : List Int}, x ∈ A → ((A ++ R).takeWhile fun y => y != x) = A.takeWhile fun y => y != x
  | y :: A, h => by
    rw [List.cons_append, List.takeWhile_cons, List.takeWhile_cons]
    by_cases h1 : y = x
    · simp [h1]
    · rw [tw_in R ((List.mem_cons.mp h).resolve_left (fun z => h1 z.symm))]
theorem tw_out {x : Int} (R : List Int) : ∀ {A : List Int}, x ∉ A → ((A ++ R).takeWhile fun y => y != x) = A ++ R.takeWhile fun y => y != x
  | [], _ => rfl
  | y :: A, h => by
    have h1 : y ≠ x := fun z => h (by simp [z])
    rw [List.cons_append, List.takeWhile_cons, tw_out R fun z => h (List.mem_cons_of_mem _ z)]
    simp [h1]
theorem cntG_app (A B : List Int) (x : Int) : cntG (A ++ B) x = cntG A x + cntG B x := by
  unfold cntG
  rw [List.filter_append, List.length_append]
theorem cntG_all {A : List Int} {x : Int} (h : ∀ y ∈ A, y > x) : cntG A x = A.length := by
  unfold cntG
  rw [List.filter_eq_self.mpr fun y hy => decide_eq_true (h y hy)]
theorem gc_self {A B : List Int} {d : Int} (h : ∀ y ∈ A, y > d) : gc (A ++ [d] ++ B) d = A.length := by
  have hn : d ∉ A := fun z => by have := h d z; omega
  unfold gc
  rw [List.append_assoc, tw_out _ hn, cntG_app, cntG_all h]
  simp [cntG]
theorem gc_other {A B : List Int} {d x : Int} (h : x > d) : gc (A ++ [d] ++ B) x = gc (A ++ B) x := by
  have hd : (d != x) = true := by simp; omega
  have h1 : ¬ d > x := by omega
  unfold gc
  rw [List.append_assoc]
  by_cases hx : x ∈ A
  · rw [tw_in _ hx, tw_in _ hx]
  · rw [tw_out _ hx, tw_out _ hx, cntG_app, cntG_app]
    congr 1
    rw [List.cons_append, List.nil_append, List.takeWhile_cons, if_pos hd]
    unfold cntG
    rw [List.filter_cons, if_neg (by simpa using h1)]
theorem rowF_app {D cs : List Int} {d c : Int} (h : cs.length = D.length) : rowF (D ++ [d]) (cs ++ [c]) = insA (rowF D cs) c.toNat d := by
  unfold rowF
  rw [List.zip_append h.symm, List.foldl_append]
  rfl
theorem rowF_perm : ∀ {D cs : List Int}, cs.length = D.length → (rowF D cs).Perm D := fun {D cs} h => by
  have g : ∀ (n : Nat) (D cs : List Int), D.length = n → cs.length = n → (rowF D cs).Perm D := by
    intro n
    induction n with
    | zero =>
      intro D cs h1 h2
      rw [List.length_eq_zero_iff.mp h1, List.length_eq_zero_iff.mp h2]
      exact .refl _
    | succ n ih =>
      intro D cs h1 h2
      obtain ⟨D', d, rfl⟩ : ∃ D' d, D = D' ++ [d] := ⟨D.dropLast, D.getLast (List.ne_nil_of_length_pos (by omega)), (List.dropLast_concat_getLast _).symm⟩
      obtain ⟨cs', c, rfl⟩ : ∃ D' d, cs = D' ++ [d] := ⟨cs.dropLast, cs.getLast (List.ne_nil_of_length_pos (by omega)), (List.dropLast_concat_getLast _).symm⟩
      simp only [List.length_append, List.length_singleton] at h1 h2
      rw [rowF_app (by omega)]
      exact (insA_perm _ _ _).trans ((List.Perm.cons d (ih D' cs' (by omega) (by omega))).trans (List.perm_append_singleton d D').symm)
  exact g _ D cs rfl h
theorem snoc_of {n : Nat} {l : List Int} (h : l.length = n + 1) : ∃ l' a, l = l' ++ [a] ∧ l'.length = n := by
  refine ⟨l.dropLast, l.getLast (List.ne_nil_of_length_pos (by omega)), (List.dropLast_concat_getLast _).symm, ?_⟩
  rw [List.length_dropLast]
  omega
theorem cntOk_init {cs : List Int} {c : Int} {n : Nat} (h : CntOk (cs ++ [c]) (n + 1)) : CntOk cs n ∧ 0 ≤ c ∧ c ≤ n := by
  obtain ⟨h1, h2⟩ := h
  simp only [List.length_append, List.length_singleton] at h1
  refine ⟨⟨by omega, fun i d hd => h2 i d ?_⟩, ?_⟩
  · rw [List.getElem?_append_left (List.getElem?_eq_some_iff.mp hd).1]
    exact hd
  · exact h2 n c (by rw [List.getElem?_append_right (by omega), show n - cs.length = 0 by omega]; rfl)
theorem pw_last {D : List Int} {d : Int} (h : (D ++ [d]).Pairwise (· > ·)) : D.Pairwise (· > ·) ∧ ∀ x ∈ D, x > d := by
  rw [List.pairwise_append] at h
  exact ⟨h.1, fun x hx => h.2.2 x hx d (by simp)⟩
/-- of the row told by counts each number has the count that was told -/
theorem gc_rowF {n : Nat} : ∀ {D cs : List Int}, D.length = n → D.Pairwise (· > ·) → CntOk cs n → (D.map fun x => (gc (rowF D cs) x : Int)) = cs := by
  induction n with
  | zero =>
    intro D cs h1 h2 h3
    rw [List.length_eq_zero_iff.mp h1, List.length_eq_zero_iff.mp h3.1]
    rfl
  | succ n ih =>
    intro D cs h1 h2 h3
    obtain ⟨D', d, rfl, l1⟩ := snoc_of h1
    obtain ⟨cs', c, rfl, l2⟩ := snoc_of h3.1
    obtain ⟨p1, p2⟩ := pw_last h2
    obtain ⟨c1, c2, c3⟩ := cntOk_init h3
    have pr := rowF_perm (D := D') (cs := cs') (by omega)
    have hlen := pr.length_eq
    rw [rowF_app (by omega), List.map_append, List.map_singleton]
    unfold insA
    have big : ∀ y ∈ rowF D' cs', y > d := fun y hy => p2 y (pr.mem_iff.mp hy)
    congr 1
    · rw [← ih l1 p1 c1]
      refine List.map_congr_left fun x hx => ?_
      rw [gc_other (p2 x hx), List.take_append_drop, ih l1 p1 c1]
    · rw [gc_self fun y hy => big y (List.mem_of_mem_take hy), List.length_take]
      congr 1
      omega
/-- a row is told by its numbers and counts -/
theorem rowF_gc {n : Nat} : ∀ {D N : List Int}, D.length = n → D.Pairwise (· > ·) → N.Perm D → rowF D (D.map fun x => (gc N x : Int)) = N ∧ CntOk (D.map fun x => (gc N x : Int)) n := by
  induction n with
  | zero =>
    intro D N h1 h2 h3
    have e := List.length_eq_zero_iff.mp h1
    subst e
    rw [h3.eq_nil]
    exact ⟨rfl, rfl, fun i c h => by cases h⟩
  | succ n ih =>
    intro D N h1 h2 h3
    obtain ⟨D', d, rfl, l1⟩ := snoc_of h1
    obtain ⟨p1, p2⟩ := pw_last h2
    obtain ⟨A, B, rfl⟩ := List.append_of_mem (h3.mem_iff.mpr (show d ∈ D' ++ [d] by simp))
    have q : (A ++ B).Perm D' := by
      have h4 : (d :: (A ++ B)).Perm (d :: D') := (List.perm_middle.symm.trans h3).trans (List.perm_append_singleton d D')
      exact h4.cons_inv
    obtain ⟨i1, i2⟩ := ih l1 p1 q
    have big : ∀ y ∈ A ++ B, y > d := fun y hy => p2 y (q.mem_iff.mp hy)
    have e1 : (D'.map fun x => (gc (A ++ d :: B) x : Int)) = D'.map fun x => (gc (A ++ B) x : Int) := List.map_congr_left fun x hx => by
      rw [show A ++ d :: B = A ++ [d] ++ B by simp, gc_other (p2 x hx)]
    have e2 : (gc (A ++ d :: B) d : Int) = (A.length : Int) := by
      rw [show A ++ d :: B = A ++ [d] ++ B by simp, gc_self fun y hy => big y (List.mem_append_left _ hy)]
    have hq := q.length_eq
    rw [List.length_append] at hq
    rw [List.map_append, List.map_singleton, e1, e2]
    refine ⟨?_, ?_, fun i c hc => ?_⟩
    · rw [rowF_app (by rw [List.length_map]), i1, Int.toNat_natCast]
      unfold insA
      rw [List.take_left' rfl, List.drop_left' rfl]
      simp
    · rw [List.length_append, List.length_map]
      simp only [List.length_singleton]
      omega
    · by_cases hi : i < (D'.map fun x => (gc (A ++ B) x : Int)).length
      · rw [List.getElem?_append_left hi] at hc
        exact i2.2 i c hc
      · rw [List.getElem?_append_right (by omega)] at hc
        rw [List.length_map] at hi hc
        cases k : i - D'.length with
        | zero =>
          rw [k] at hc
          cases hc
          omega
        | succ k' => rw [k] at hc; cases hc
theorem dsc_pw {N : List Int} (h : N.Nodup) : (dsc N).Pairwise (· > ·) := by
  have h1 := dsc_srt N
  have h2 : (dsc N).Nodup := (dsc_perm N).nodup_iff.mpr h
  exact (h1.and h2).imp fun ⟨a, b⟩ => by omega
theorem asc_rev (N : List Int) : (asc N).reverse = dsc N := by
  refine eq_dsc ((List.reverse_perm _).trans (asc_perm N)) ?_
  show (asc N).reverse.Pairwise (· ≥ ·)
  rw [List.pairwise_reverse]
  exact asc_srt N
theorem asc_of_perm {M N : List Int} (h : M.Perm N) : asc M = asc N := eq_asc ((asc_perm M).trans h) (asc_srt M)
end Sh
namespace Sh
open PySem PySem.Spec PyProof.Rows L2 Lx Ld
section
variable {K : PySem.W.Frag} {Γ : List Cell} {Θ : List Tmp}
theorem eqF_ii (a b : Int) : eqF (.int a) (.int b) = decide (a = b) := by simp [eqF, BEq.beq]
theorem iL_fl (ns : List Int) : (iL ns).all flD = true := by simp [flD]
theorem idx_at {ns : List Int} {n : Int} (h : n ∈ ns) : (iL ns)[ns.idxOf n]? = some (.int n) := by
  have hi := List.idxOf_lt_length_iff.mpr h
  rw [List.getElem?_map, List.getElem?_eq_getElem hi]
  simp
theorem idx_no {ns : List Int} {n : Int} {m : Nat} {z : Dat} (hm : m < ns.idxOf n) (hz : (iL ns)[m]? = some z) : eqF z (.int n) = false := by
  rw [List.getElem?_map] at hz
  obtain ⟨k, hk, rfl⟩ := Option.map_eq_some_iff.mp hz
  rw [eqF_ii]
  refine decide_eq_false fun e => ?_
  subst e
  obtain ⟨hl, e2⟩ := List.getElem?_eq_some_iff.mp hk
  have := List.not_of_lt_findIdx (xs := ns) (p := (· == k)) (i := m) hm
  simp [e2] at this
theorem ve_indexI {ta te : TE} {Q : List Cell → Tmp → Prop}
    (h : VE K Γ Θ ta fun Γ1 x => (∃ ds, rd Γ1 x (.list ds)) ∧ VE K Γ1 (x :: Θ) te fun Γ2 y => ∃ ns n, rd Γ2 x (.list (iL ns)) ∧ y = .dt (.int n) ∧ n ∈ ns ∧ Q Γ2 (.dt (.int (ns.idxOf n : Nat)))) :
    VE K Γ Θ (tBM K "list" (rIndex K) ta (tCons te tNil)) Q := ve_indexL (ve_mono h fun Γ1 x ⟨h1, h2⟩ => ⟨h1, ve_mono h2 fun Γ2 y ⟨ns, n, g1, g2, g3, g4⟩ => by
  subst g2
  exact ⟨iL ns, .int n, ns.idxOf n, .int n, g1, rd_dt, rfl, iL_fl ns, idx_at g3, by rw [eqF_ii]; simp, fun m z hm hz => idx_no hm hz, g4⟩⟩)
theorem ve_tidxI {ta te : TE} {Q : List Cell → Tmp → Prop}
    (h : VE K Γ Θ ta fun Γ1 x => ∃ ns, x = .dt (.tuple (iL ns)) ∧ VE K Γ1 (x :: Θ) te fun Γ2 y => ∃ n, y = .dt (.int n) ∧ n ∈ ns ∧ Q Γ2 (.dt (.int (ns.idxOf n : Nat)))) :
    VE K Γ Θ (tTIdx ta te) Q := ve_tidx (ve_mono h fun Γ1 x ⟨ns, hx, h2⟩ => ⟨iL ns, hx, ve_mono h2 fun Γ2 y ⟨n, g2, g3, g4⟩ => by
  subst g2
  exact ⟨.int n, ns.idxOf n, .int n, rd_dt, rfl, iL_fl ns, idx_at g3, by rw [eqF_ii]; simp, fun m z hm hz => idx_no hm hz, g4⟩⟩)
end
end Sh
namespace Sh
open PySem PySem.Spec PyProof.Rows L2 Lx Ld
end Sh
namespace Sh
end Sh
namespace Sh
end Sh
set_option Elab.async false
set_option linter.all false
set_option maxRecDepth 100000
namespace Ld
open PySem PySem.Spec PyProof.Rows L2 Lx
def spV {α : Type} (K : PySem.W.Frag) (A : α → List Arg) (pre : α → List Dat → Prop) (post : α → List Dat → List Dat → Dat → Prop) : Sp := fun vs H Q _ => ∃ (B : Hp) (t : Addr) (rest : List V) (x : α) (zs : List Dat), vs = .ref t :: rest ∧ Same B H ∧ ArgsOk K B rest (A x) ∧
  B t = none ∧ (∃ us, H t = some (.lst us) ∧ DqAll B us zs) ∧ pre x zs ∧
  ∀ v S' zs' d, Gr (fun a => a = t) ⟨B, H⟩ S' → Same S'.b S'.h → S'.b t = none → (∃ us, S'.h t = some (.lst us) ∧ DqAll S'.b us zs') → Dq S'.b v d → post x zs zs' d → Q v S'.h
section
variable {K : PySem.W.Frag} {Γ : List Cell} {Θ : List Tmp}
theorem ve_callV {α : Type} {A : α → List Arg} {pre : α → List Dat → Prop} {post : α → List Dat → List Dat → Dat → Prop} {X : XK} {i : Nat} {t : TA} {Q : List Cell → Tmp → Prop} (h0 : ∃ ds, IsLs Γ i ds)
    (h : VAX K Γ Θ t fun Γ2 as => ∃ x zs, IsLs Γ2 i zs ∧ as = A x ∧ pre x zs ∧ ∀ zs' d, post x zs zs' d → Q (putC Γ2 i zs') (.dt d)) :
    VE K Γ Θ (tCall (spV K A pre post) [] X (tCons (tVar i) t)) Q := fun L S0 σ τ S Qv E k => by
  obtain ⟨ds, c1, hc1, hl1⟩ := h0
  obtain ⟨a, ea, _⟩ := E.own hc1 hl1
  refine ⟨_, ea, h L S0 σ τ S _ E fun Γ2 S2 vs as E2 p ⟨x, zs, ⟨c, hc, hl⟩, ex, hp, q⟩ => ?_⟩
  obtain ⟨a', ea', nb, us, hu, pu⟩ := E2.own hc hl
  rw [ea] at ea'; cases ea'
  show spV K A pre post ((.ref a :: vs) ++ []) S2.h Qv X
  rw [List.append_nil]
  subst ex
  refine ⟨S2.b, a, vs, x, zs, rfl, E2.sub, p, nb, ⟨us, hu, pu⟩, hp, fun v S' zs' d g s nb' hz hd hq => ?_⟩
  have q' := q zs' d hq
  rw [putC_eq hc] at q'
  exact k _ S' v _ ((E2.lent hc hl ea g s nb' hz).push hd) q'
/-- xs.remove(n), whole numbers -/
theorem ve_remove {i : Nat} {te : TE} {Q : List Cell → Tmp → Prop} (h0 : ∃ ds, IsLs Γ i ds) (h : VE K Γ Θ te fun Γ1 y => ∃ (ns : List Int) (n : Int), y = .dt (.int n) ∧ IsLs Γ1 i (ns.map .int) ∧ n ∈ ns ∧ Q (putC Γ1 i ((ns.erase n).map .int)) (.dt .none)) : VE K Γ Θ (tBM K "list" rRemI (tVar i) (tCons te tNil)) Q := fun L S0 σ τ S Qv E k => by
  obtain ⟨ds0, c0, hc0, hl0⟩ := h0
  obtain ⟨a, ea, _, us, hu, _⟩ := E.own hc0 hl0
  refine ⟨_, ea, .inl ⟨rfl, us, .of hu⟩, h L S0 σ τ S _ E fun Γ1 S1 v y E1 ⟨ns, n, ey, ⟨c, hc, hl⟩, hm, q⟩ => ?_⟩
  subst ey
  have ev : v = .int n := dp_int E1.dt
  obtain ⟨a', vs, ea', hv, p, mk⟩ := E1.pop.mutSlot hc hl
  rw [ea] at ea'; cases ea'
  have evs := dpa_ints p
  subst evs
  rw [putC_eq hc] at q
  have hi := List.idxOf_lt_length_iff.mpr hm
  have e1 : ns.eraseIdx (ns.idxOf n) = ns.erase n := (List.erase_eq_eraseIdx_of_idxOf rfl).symm
  refine ⟨a, ns, n, ns.idxOf n, rfl, by rw [ev], hv, by rw [List.getElem?_eq_getElem hi]; simp, fun m hmi e => ?_, ?_⟩
  · obtain ⟨h1, h2⟩ := List.getElem?_eq_some_iff.mp e
    have := List.not_of_lt_findIdx (xs := ns) (p := (· == n)) (i := m) hmi
    simp [h2] at this
  · rw [e1]
    exact k _ _ _ _ ((mk _ _ (dpa_of_ints _)).push .non) q
end
section
variable {P : Program} {w : World} {K : PySem.W.Frag} {mg : Str → Option Value} {base : Heap}
theorem ok_V {α : Type} {x qual : Str} {st : Stmt} {f : Addr} {fd : FuncData} {N ps : List Str} {k : Nat} {Ar : α → List Arg} {pre : α → List Dat → Prop} {post : α → List Dat → List Dat → Dat → Prop} (F : Fun K x qual st f fd) (Sc : FnScope N ps (defScope st)) (hl : ∀ x, (Ar x).length + 1 = ps.length) (hN : ps.length ≤ N.length)
    (hb : ∀ (cdv : Value) (A : Around) (outer : List PySem.Env) (s : Shared) (H : Hp) (E : XK), Room k (A.deeper (envOfC qual (defScope st) s.heap.objs.size f cdv)) →
      ∃ t, PSs (Bx P w K mg base N qual st f cdv A outer s H E) (defBody st) t ∧ ∀ x zs, pre x zs → VSs K (cells0 N (.ln zs :: (Ar x).map Arg.cell)) t
        ⟨fun Γ => ∃ zs', Γ[0]? = some (.ln zs') ∧ post x zs zs' .none, fun Γ d => ∃ zs', Γ[0]? = some (.ln zs') ∧ post x zs zs' d, fun _ => False, fun _ => False⟩) : FnOk P w K mg base CX0 (k + 1) f fd ps (spV K Ar pre post) := by
  refine F.ok Sc (fun vs H Q E h => ?_) (fun cdv A outer s H vs Q E hr h => ?_)
  · obtain ⟨B, t, rest, x, zs, rfl, _, p, _, _, hp, _⟩ := h
    have := hl x
    have := p.len
    simp only [List.length_cons] at *
    omega
  · obtain ⟨tr, ht, hv⟩ := hb cdv A outer s H E hr
    obtain ⟨B, t, rest, x, zs, rfl, sub, p, nb, hz, hp, q⟩ := h
    have hlv := hl x
    have hle := p.len
    refine ⟨tr, ht, ?_⟩
    have fin : ∀ {Γ' : List Cell} {σ' : L2.St} {S' : Hs} {v : V} {d : Dat}, Env K (fun a => a = t) ⟨B, H⟩ Γ' [] σ' [] S' → Dq S'.b v d → (∃ zs', Γ'[0]? = some (.ln zs') ∧ post x zs zs' d) → Q v S'.h := fun {Γ' σ' S' v d} E' hd ⟨zs', h1, z⟩ => by
      obtain ⟨wd, g1, _⟩ := E'.ok
      obtain ⟨b, _, o, hb⟩ := g1 0 _ h1
      cases hb
      exact q v S' zs' d E'.gr E'.sub o.nb o.is hd z
    refine hv x zs hp [] (fun a => a = t) ⟨B, H⟩ _ [] ⟨B, H⟩ _ (env_startU sub p nb hz (by omega)) (fun Γ' σ' S' E' z => ?_) (fun Γ' σ' S' v d E' hd z => fin E' hd z) (fun Γ' σ' S' E' z => z.elim) (fun Γ' σ' S' E' z => z.elim)
    exact fin E' .non z
end
end Ld
namespace Sh
open PySem PySem.Spec PyProof.Rows L2 Lx Ld
theorem eqv_ss (a b : Str) : PyData.eqv (.str a) (.str b) = decide (a = b) := by
  simp [PyData.eqv, BEq.beq]
theorem cut_last (ds : List Dat) : Ld.cutD ds none (some (-1)) = ds.dropLast := by
  unfold Ld.cutD
  rw [HT.sIx_none, List.drop_zero, Nat.sub_zero, List.dropLast_eq_take]
  congr 1
  show (if (-1 : Int) < 0 then ((-1 : Int) + (ds.length : Int)).toNat else min (-1 : Int).toNat ds.length) = _
  rw [if_pos (by decide)]
  omega
end Sh
namespace Ld
open PySem PySem.Spec PyProof.Rows L2 Lx
structure GlobS (K : PySem.W.Frag) (mg : Str → Option Value) (x : Str) (n : Str) : Prop where
  u : ∃ t, mg x = some (.str n t)
end Ld
namespace Sh
open PySem PySem.Spec PyProof.Rows L2 Lx Ld
theorem kb_ss : kitB "str" "str" = some true := by decide +kernel
def wd (l : Bool) : Str := if l then "light" else "heavy"
def sg (l : Bool) : Int := if l then 1 else -1
theorem wd_l (l : Bool) : decide (wd l = ("light" : Str)) = l := by cases l <;> decide +kernel
theorem wd_s (l : Bool) : SeqAt.shaped (.str (wd l)) = true := by cases l <;> decide +kernel
theorem light_s : SeqAt.shaped (.str "light") = true := by decide +kernel
section
variable {K : PySem.W.Frag} {Γ : List Cell} {Θ : List Tmp}
theorem r2_eqW {l : Bool} {Q : List Cell → Tmp → Prop} (q : Q Γ (.dt (.bool l))) : R2V K (rEqD K) Γ Θ (.dt (.str (wd l))) (.dt (.str "light")) Q := r2_eqD rd_dt rd_dt (wd_s l) light_s (by rw [eqv_ss, wd_l]; exact q)
end
def tm (l : Bool) (xs : List Int) : List Int := xs.map (sg l * ·)
theorem sg_sg (l : Bool) (x : Int) : sg l * (sg l * x) = x := by
  cases l
  · show -1 * (-1 * x) = x; omega
  · show 1 * (1 * x) = x; omega
theorem tm_tm (l : Bool) (xs : List Int) : tm l (tm l xs) = xs := by
  unfold tm
  rw [List.map_map]
  refine (List.map_congr_left fun x _ => sg_sg l x).trans (List.map_id xs)
theorem tm_len (l : Bool) (xs : List Int) : (tm l xs).length = xs.length := List.length_map _
end Sh
set_option Elab.async false
set_option linter.all false
set_option maxRecDepth 100000
set_option maxHeartbeats 2000000
namespace Ld
open PySem PySem.Spec PyProof.Rows L2 Lx
/-- a tuple at a, a list at b, as they stand at each turn; the items in new pairs -/
def ItzM (K : PySem.W.Frag) (a b : Addr) : It := ⟨fun i H => ∃ (xs ys : List V) (x y : V), SqT K H a xs ∧ SqL K H b ys ∧ xs[i]? = some x ∧ ys[i]? = some y, fun i H v H' => ∃ T x y, v = .ref T ∧ H T = none ∧ H' = upd H T (.tup [x, y]) ∧ (∀ xs, SqT K H a xs → xs[i]? = some x) ∧ ∀ ys, SqL K H b ys → ys[i]? = some y, fun i H => ∃ xs ys : List V, SqT K H a xs ∧ SqL K H b ys ∧ (xs.length ≤ i ∨ ys.length ≤ i)⟩
theorem mem5 {c z TI TO i1 i2 : Addr} (h : c ∈ [z, TI, TO, i1, i2]) : c = z ∨ c = TI ∨ c = TO ∨ c = i1 ∨ c = i2 := by simpa using h
theorem turn_zipM {P : Program} {w : World} {K : PySem.W.Frag} {elts : List Expr} {kk : Nat} {tpos : Pos} {a b z TI TO i1 i2 : Addr} (D : ZipApart z TI TO i1 i2 a b) :
    Turn P w K (.Tuple elts kk tpos) (ItzM K a b) [z, TI, TO, i1, i2] z (fun i h => IsZip h z TI TO .none ∧ IsPair h TI (.ref i1) (.ref i2) ∧ (∃ x y, IsPair h TO x y) ∧ h.IsTupleIter i1 a i ∧ h.IsListIter i2 b i) where
  mem := by simp
  obj := fun i h st c hc => by
    obtain ⟨hz, hTI, ⟨x, y, hTO⟩, ⟨o1, e1, _, d1⟩, ⟨o2, e2, _, d2⟩⟩ := st
    rcases mem5 hc with q | q | q | q | q <;> rw [q]
    · exact ⟨_, hz, fun v q => nomatch q⟩
    · exact ⟨_, hTI, fun v q => nomatch q⟩
    · exact ⟨_, hTO, fun v q => nomatch q⟩
    · exact ⟨o1, e1, fun v q => by rw [d1] at q; cases q⟩
    · exact ⟨o2, e2, fun v q => by rw [d2] at q; cases q⟩
  keep := fun i h h' ⟨hz, hTI, ⟨x, y, hTO⟩, h1, h2⟩ k => ⟨k z (by simp) _ hz, k TI (by simp) _ hTI, ⟨x, y, k TO (by simp) _ hTO⟩, h1.at fun o q => k i1 (by simp) o q, h2.at fun o q => k i2 (by simp) o q⟩
  item := by
    intro X hP hw hK hc i pins s σ H E I hf st hg; subst hP hw hK
    obtain ⟨hz, hTI, ⟨x0, y0, hTO⟩, h1, h2⟩ := st; obtain ⟨xs, ys, x, y, hqx, hqy, hx, hy⟩ := hg
    obtain ⟨its, rv, p, _⟩ := I.tuple hqx; obtain ⟨its2, rv2, p2, _⟩ := I.list hqy; obtain ⟨u, hu, ru⟩ := rv.get hx; obtain ⟨u2, hu2, ru2⟩ := rv2.get hy
    have zlt : z < s.heap.objs.size := Heap.lt_size hz
    refine pyNext_zipG_item D (stp_t (xs := its.toArray)) (stp_l (xs := its2.toArray)) hz hTI hTO ⟨h1, p⟩ ⟨h2, p2.isList⟩ (x := u) (y := u2) (by simpa using hu) (by simpa using hu2) fun h' z' TO' ⟨h1', _⟩ ⟨h2', _⟩ hT hsz hk => ?_
    refine ⟨_, rfl, wpAny_letOwnedTupleGo_zip (s := { s with heap := h' }) z' fun h'' z'' sb => ?_⟩
    have t2 : h''.get? s.heap.objs.size = some { cls := .type "tuple", data := .seq #[u, u2] } := (sb.2 _ (Nat.ne_of_gt zlt)).trans hT
    have new : ObjOk X.prog X.w (upd H s.heap.objs.size (.tup [x, y])) h'' s.heap.objs.size (.tup [x, y]) := ⟨by show 2 ≤ sizeLine; decide, [u, u2], .cons ru (.cons ru2 .nil), ⟨_, t2, rfl, _, rfl⟩⟩
    have ne : ∀ {c t : Addr}, c ∉ [z, TI, TO, i1, i2] → t ∈ [z, TI, TO, i1, i2] → c ≠ t := fun a b e => a (e ▸ b)
    have I1 : Inv X pins σ (upd H s.heap.objs.size (.tup [x, y])) { s with heap := h'' } := I.turnedNew (t' := s.toks) (ch := [z, TI, TO, i1, i2]) (fun c o hb q => (sb.2 c (ne hb (by simp))).trans (hk c o (ne hb (by simp)) (ne hb (by simp)) (ne hb (by simp)) (ne hb (by simp)) q)) hf (Nat.le_refl _) new
    refine ⟨.ref s.heap.objs.size, _, I1, rfl, ⟨_, x, y, rfl, I.hok.fresh (Nat.le_refl _), rfl, fun l hl => by rw [I.tuple_inj hl hqx]; exact hx, fun l hl => by rw [I.list_inj hl hqy]; exact hy⟩, ⟨z'', (sb.2 _ D.TIz).trans (hk _ _ D.TIz D.TITO D.TIi1 D.TIi2 hTI), ⟨u, u2, (sb.2 _ D.TOz).trans TO'⟩, h1'.at fun o q => (sb.2 _ D.i1z).trans q, h2'.at fun o q => (sb.2 _ D.i2z).trans q⟩, fun c hcm => ?_⟩
    have hlt : c < s.heap.objs.size := by
      rcases mem5 hcm with q | q | q | q | q <;> rw [q]
      · exact zlt
      · exact Heap.lt_size hTI
      · exact Heap.lt_size hTO
      · obtain ⟨_, e1, _⟩ := h1; exact Heap.lt_size e1
      · obtain ⟨_, e2, _⟩ := h2; exact Heap.lt_size e2
    rw [upd_ne (Nat.ne_of_lt hlt)]; exact (hf c hcm).1
  done := by
    intro X hP hw hK hc i pins s σ H E I hf st hg; subst hP hw hK
    obtain ⟨hz, hTI, ⟨x0, y0, hTO⟩, h1, h2⟩ := st; obtain ⟨xs, ys, hqx, hqy, hend⟩ := hg
    obtain ⟨its, rv, p, _⟩ := I.tuple hqx; obtain ⟨its2, rv2, p2, _⟩ := I.list hqy
    have l1 := rv.length; have l2 := rv2.length
    have he : its.toArray[i]? = none ∨ its2.toArray[i]? = none := hend.imp (fun q => by simp; omega) (fun q => by simp; omega)
    have ne : ∀ {c t : Addr}, c ∉ [z, TI, TO, i1, i2] → t ∈ [z, TI, TO, i1, i2] → c ≠ t := fun a b e => a (e ▸ b)
    exact pyNext_zipG_end (I.ok.hd hc) D (stp_t (xs := its.toArray)) (stp_l (xs := its2.toArray)) hz hTI hTO ⟨h1, p⟩ ⟨h2, p2.isList⟩ he fun h' hk => ⟨rfl, I.turnedL (t' := s.toks) (ch := [z, TI, TO, i1, i2]) (fun c o hb q => hk c o (ne hb (by simp)) (ne hb (by simp)) (ne hb (by simp)) (ne hb (by simp)) q) hf⟩
  self := fun A i s Q E st h => wpAny_pyIter_zip st.1 h
def iZipM (K : PySem.W.Frag) (ta : TA) : TI := fun σ H R => ta σ H fun vs H1 => ∃ a b xs ys, vs = [.ref a, .ref b] ∧ SqT K H1 a xs ∧ SqL K H1 b ys ∧ R (ItzM K a b) H1
theorem pi_zipTL {X : Cx} {e e2 : Expr} {ta : TA} {p pos tpos : Pos} {elts : List Expr} {kk : Nat} (hg : Gl X "zip") (hm : X.mg "zip" = none) (ha : PA X [e, e2] ta) (hs : starEach [e, e2] X.env = (false, eval e X.env) :: starEach [e2] X.env := by rfl) (hpl : (backTo pos (starEach [e2] X.env)).any (·.1) = false := by rfl) :
    PI X (.Tuple elts kk tpos) (.Call (.Name "zip" p) [e, e2] [] pos) (iZipM X.K ta) := by
  refine ⟨fun pins s σ H R I h => Call_ (ld_blt I hg hm PyProof.Rows.boot_zip (PyProof.Rows.callWith_type1 (thn (ha.run pos pins s σ H _ I h) fun us s1 ⟨vs, H1, I1, r1, q1⟩ => ?_) hs hpl))⟩
  obtain ⟨a, b, xs, ys, ex, hqx, hqy, q⟩ := q1; subst ex
  cases r1 with
  | cons r rr =>
    cases rr with
    | cons r' rr =>
      cases rr; cases r; cases r'
      obtain ⟨its, rv, p1, _⟩ := I1.tuple hqx; obtain ⟨its2, rv2, p2, _⟩ := I1.list hqy; obtain ⟨o1, ho1, _⟩ := id p1
      refine call_zipG (begins_tuple a its.toArray) (begins_list b its2.toArray) (fun h z => Heap.IsList.push z _) p1 p2.isList fun h' hz hTI hTO h1 h2 hk => wpAny_pyIter_zip hz ?_
      have I2 : Inv X pins σ H1 { s1 with heap := h' } := I1.kept (t' := s1.toks) hk
      refine ⟨s1.heap.objs.size + 4, [s1.heap.objs.size + 4, s1.heap.objs.size + 2, s1.heap.objs.size + 3, s1.heap.objs.size, s1.heap.objs.size + 1], _, _, H1, rfl, I2, turn_zipM (PySem.W.ktu_apart s1.heap.objs.size a b (Heap.lt_size ho1) p2.lt), ⟨hz, hTI, ⟨_, _, hTO⟩, ⟨_, h1, rfl, rfl⟩, ⟨_, h2, rfl, rfl⟩⟩, fun c hcm => ?_, q⟩
      have hle : s1.heap.objs.size ≤ c := by rcases mem5 hcm with z | z | z | z | z <;> rw [z] <;> omega
      exact I1.fpOk hle (I1.hok.fresh hle)
section
variable {K : PySem.W.Frag} {Γ : List Cell} {Θ : List Tmp}
theorem vi_zipM {ta tb : TE} {Q : List Cell → Bool → List Dat → Prop} (h : VD K Γ Θ ta fun Γ1 d => VD K Γ1 (.dt d :: Θ) tb fun Γ2 e => ∃ ds es, d = .tuple ds ∧ e = .list es ∧ Q Γ2 true (zipD ds es)) : VI K Γ Θ (iZipM K (tCons ta (tCons tb tNil))) Q := fun L S0 σ τ S R E k =>
  h L S0 σ τ S _ E fun Γ1 S1 u d E1 h1 => h1 L S0 σ _ S1 _ E1 fun Γ2 S2 v e E2 ⟨ds, es, ed, ee, q⟩ => by
  subst ed ee
  obtain ⟨b, zs, eb, hb, pb⟩ := dp_list E2.dt
  obtain ⟨a, oa, xs, ea, _, hx, p⟩ := dp_tup E2.pop.dt
  subst ea eb
  refine ⟨a, b, xs, zs, rfl, sqt_f (E2.sub _ _ hx), .of (E2.sub _ _ hb), k Γ2 [.list es, .tuple ds] [.ref b, .ref a] S2 _ true (zipD ds es) E2 rfl ⟨fun S i sub hs hi => ?_, fun S sub hs => ?_, fun S i x H' sub hs hi y => ?_⟩ q⟩
  · obtain ⟨ws, hw', pw⟩ := src_l (K := K) sub (dqa_two hs).1
    obtain ⟨ys, hy', py⟩ := src_t (K := K) sub (dqa_two hs).2
    rw [zipD_len] at hi
    have i1 : i < ds.length := by omega
    have i2 : i < es.length := by omega
    obtain ⟨z, hz, _⟩ := py.get (List.getElem?_eq_getElem i1)
    obtain ⟨z', hz', _⟩ := pw.get (List.getElem?_eq_getElem i2)
    exact ⟨ys, ws, z, z', hy', hw', hz, hz'⟩
  · obtain ⟨ws, hw', pw⟩ := src_l (K := K) sub (dqa_two hs).1
    obtain ⟨ys, hy', py⟩ := src_t (K := K) sub (dqa_two hs).2
    refine ⟨ys, ws, hy', hw', ?_⟩
    rw [zipD_len, py.len, pw.len]
    omega
  · obtain ⟨ws, hw', pw⟩ := src_l (K := K) sub (dqa_two hs).1
    obtain ⟨ys, hy', py⟩ := src_t (K := K) sub (dqa_two hs).2
    obtain ⟨T, z, z', rfl, hT, rfl, y1, y2⟩ := y
    obtain ⟨d, hd, gd⟩ := py.getV (y1 ys hy')
    obtain ⟨e, he, ge⟩ := pw.getV (y2 ws hw')
    obtain ⟨S', e1, g1, s1, q1⟩ := gr_pair sub hT gd ge
    exact ⟨S', _, e1, g1, s1, zipD_at hd he, q1⟩
end
end Ld
set_option Elab.async false
set_option linter.all false
set_option maxRecDepth 100000
namespace Sh
/-! ### past a light shelf -/
def lp : List (Int × Nat) → List Int → List Int
  | [], S => asc S
  | (a, m) :: r, S => (asc (S ++ [a])).take (S.length + 1 - m) ++ lp r ((asc (S ++ [a])).drop (S.length + 1 - m))
/-- of x: how many greater ones come out ahead of it, g greater ones standing -/
def cx (x : Int) : List (Int × Nat) → Nat → Nat
  | [], _ => 0
  | (a, m) :: r, g => if a = x then 0 else ((g + if a > x then 1 else 0) - m) + cx x r (min (g + if a > x then 1 else 0) m)
theorem asc_len (S : List Int) : (asc S).length = S.length := (asc_perm S).length_eq
theorem lp_perm : ∀ (L : List (Int × Nat)) (S : List Int), (lp L S).Perm (S ++ L.map (·.1))
  | [], S => by
    show (asc S).Perm (S ++ [])
    rw [List.append_nil]
    exact asc_perm S
  | (a, m) :: r, S => by
    show ((asc (S ++ [a])).take _ ++ lp r _).Perm (S ++ a :: r.map (·.1))
    have h := lp_perm r ((asc (S ++ [a])).drop (S.length + 1 - m))
    have h2 : ((asc (S ++ [a])).take (S.length + 1 - m) ++ lp r ((asc (S ++ [a])).drop (S.length + 1 - m))).Perm ((asc (S ++ [a])).take (S.length + 1 - m) ++ ((asc (S ++ [a])).drop (S.length + 1 - m) ++ r.map (·.1))) := h.append_left _
    rw [← List.append_assoc, List.take_append_drop] at h2
    refine h2.trans (((asc_perm (S ++ [a])).append_right _).trans ?_)
    rw [List.append_assoc]
    exact .refl _
theorem cntG_perm {A B : List Int} (h : A.Perm B) (x : Int) : cntG A x = cntG B x := (h.filter _).length_eq
theorem cntG_none {A : List Int} {x : Int} (h : ∀ y ∈ A, ¬ y > x) : cntG A x = 0 := by
  unfold cntG
  rw [List.filter_eq_nil_iff.mpr (by simpa using h)]
  rfl
/-- of a rising list the greater ones stand last -/
theorem cntG_take {x : Int} : ∀ {T : List Int}, T.Pairwise (· ≤ ·) → ∀ n, n ≤ T.length → cntG (T.take n) x = cntG T x - (T.length - n)
  | [], _, n, h => by
    rw [Nat.le_zero.mp h]
    rfl
  | y :: T, hp, 0, _ => by
    have : cntG (y :: T) x ≤ (y :: T).length := List.length_filter_le _ _
    rw [List.take_zero]
    show 0 = _
    omega
  | y :: T, hp, n + 1, h => by
    rw [List.pairwise_cons] at hp
    have ih := cntG_take (x := x) hp.2 n (by simpa using h)
    rw [List.take_succ_cons]
    by_cases hy : y > x
    · have a1 : cntG (y :: T) x = (y :: T).length := cntG_all fun z hz => by
        rcases List.mem_cons.mp hz with rfl | hz
        · exact hy
        · have := hp.1 z hz; omega
      have a2 : cntG (y :: T.take n) x = (y :: T.take n).length := cntG_all fun z hz => by
        rcases List.mem_cons.mp hz with rfl | hz
        · exact hy
        · have := hp.1 z (List.mem_of_mem_take hz); omega
      rw [a1, a2]
      simp only [List.length_cons, List.length_take] at h ⊢
      omega
    · have a1 : cntG (y :: T) x = cntG T x := by unfold cntG; rw [List.filter_cons, if_neg (by simpa using hy)]
      have a2 : cntG (y :: T.take n) x = cntG (T.take n) x := by unfold cntG; rw [List.filter_cons, if_neg (by simpa using hy)]
      rw [a1, a2, ih]
      simp only [List.length_cons]
      omega
theorem gc_out {A B : List Int} {x : Int} (h : x ∉ A) : gc (A ++ B) x = cntG A x + gc B x := by
  unfold gc
  rw [tw_out _ h, cntG_app]
theorem gc_srt {T : List Int} {x : Int} (h : T.Pairwise (· ≤ ·)) (hx : x ∈ T) : gc T x = 0 := by
  obtain ⟨A, B, rfl⟩ := List.append_of_mem hx
  rw [List.pairwise_append] at h
  refine cntG_none fun y hy => ?_
  have hy2 : y ∈ A := by
    have := List.takeWhile_append (p := fun y => y != x) (xs := A) (ys := x :: B)
    by_cases hA : x ∈ A
    · rw [tw_in _ hA] at hy
      exact (List.takeWhile_sublist _).subset hy
    · rw [tw_out _ hA] at hy
      simpa using hy
  have := h.2.2 y hy2 x (by simp)
  omega
theorem lp_in : ∀ (L : List (Int × Nat)) (S : List Int) (x : Int), x ∈ S → gc (lp L S) x = 0
  | [], S, x, h => gc_srt (asc_srt S) ((asc_perm S).mem_iff.mpr h)
  | (a, m) :: r, S, x, h => by
    show gc ((asc (S ++ [a])).take _ ++ lp r _) x = 0
    have hs := asc_srt (S ++ [a])
    have hx : x ∈ asc (S ++ [a]) := (asc_perm _).mem_iff.mpr (by simp [h])
    generalize asc (S ++ [a]) = T at hs hx
    generalize S.length + 1 - m = n
    by_cases hT : x ∈ T.take n
    · unfold gc
      rw [tw_in _ hT]
      exact gc_srt (hs.sublist (List.take_sublist _ _)) hT
    · rw [gc_out hT]
      have hd : x ∈ T.drop n := by
        rw [← List.take_append_drop n T] at hx
        exact (List.mem_append.mp hx).resolve_left hT
      rw [lp_in r _ x hd, Nat.add_zero]
      refine cntG_none fun y hy => ?_
      rw [← List.take_append_drop n T, List.pairwise_append] at hs
      have := hs.2.2 y hy x hd
      omega
theorem gc_lp : ∀ (L : List (Int × Nat)) (S : List Int) (x : Int), x ∉ S → x ∈ L.map (·.1) → gc (lp L S) x = cx x L (cntG S x)
  | [], S, x, _, h => by cases h
  | (a, m) :: r, S, x, h, hL => by
    by_cases ha : a = x
    · subst ha
      show gc ((asc (S ++ [a])).take _ ++ lp r _) a = if a = a then 0 else _
      rw [if_pos rfl]
      exact lp_in ((a, m) :: []) S a |> fun _ => by
        have hs := asc_srt (S ++ [a])
        have hx : a ∈ asc (S ++ [a]) := (asc_perm _).mem_iff.mpr (by simp)
        generalize asc (S ++ [a]) = T at hs hx
        generalize S.length + 1 - m = n
        by_cases hT : a ∈ T.take n
        · unfold gc
          rw [tw_in _ hT]
          exact gc_srt (hs.sublist (List.take_sublist _ _)) hT
        · rw [gc_out hT]
          have hd : a ∈ T.drop n := by
            rw [← List.take_append_drop n T] at hx
            exact (List.mem_append.mp hx).resolve_left hT
          rw [lp_in r _ a hd, Nat.add_zero]
          refine cntG_none fun y hy => ?_
          rw [← List.take_append_drop n T, List.pairwise_append] at hs
          have := hs.2.2 y hy a hd
          omega
    · show gc ((asc (S ++ [a])).take _ ++ lp r _) x = if a = x then 0 else _
      rw [if_neg ha]
      have hx : x ∉ asc (S ++ [a]) := fun z => by
        have := (asc_perm _).mem_iff.mp z
        simp only [List.mem_append, List.mem_singleton] at this
        rcases this with q | q
        · exact h q
        · exact ha q.symm
      have hc : cntG (asc (S ++ [a])) x = cntG S x + if a > x then 1 else 0 := by
        rw [cntG_perm (asc_perm _), cntG_app]
        congr 1
        unfold cntG
        by_cases hax : a > x
        · rw [if_pos hax, List.filter_cons, if_pos (by simpa using hax)]; rfl
        · rw [if_neg hax, List.filter_cons, if_neg (by simpa using hax)]; rfl
      have hl : (asc (S ++ [a])).length = S.length + 1 := by rw [asc_len]; simp
      have hs := asc_srt (S ++ [a])
      generalize asc (S ++ [a]) = T at hs hx hc hl
      have hle : cntG T x ≤ T.length := List.length_filter_le _ _
      have ht := cntG_take (x := x) hs (S.length + 1 - m) (by omega)
      have hsum : cntG T x = cntG (T.take (S.length + 1 - m)) x + cntG (T.drop (S.length + 1 - m)) x := by rw [← cntG_app, List.take_append_drop]
      rw [gc_out (fun z => hx (List.mem_of_mem_take z)), gc_lp r _ x (fun z => hx (List.mem_of_mem_drop z)) (by
        rw [List.map_cons] at hL
        exact (List.mem_cons.mp hL).resolve_left (fun z => ha z.symm)), ← hc]
      have e1 : cntG (T.take (S.length + 1 - m)) x = cntG T x - m := by
        rw [ht]
        by_cases hm : m ≤ S.length + 1
        · omega
        · omega
      have e2 : cntG (T.drop (S.length + 1 - m)) x = min (cntG T x) m := by omega
      rw [e1, e2]
/-- with one number of places all along -/
theorem cx_same (x : Int) (b : Nat) : ∀ (N : List Int) (g : Nat), x ∈ N → g ≤ b → cx x (N.map fun a => (a, b)) g = (g + gc N x) - b
  | a :: N, g, h, hg => by
    show (if a = x then 0 else _) = _
    unfold gc
    rw [List.takeWhile_cons]
    by_cases ha : a = x
    · subst ha
      rw [if_pos rfl]
      simp only [bne_self_eq_false]
      show 0 = (g + 0) - b
      omega
    · rw [if_neg ha, show (if (a != x) = true then a :: N.takeWhile (fun y => y != x) else []) = a :: N.takeWhile (fun y => y != x) from if_pos (by simp [ha])]
      have hm := (List.mem_cons.mp h).resolve_left (fun z => ha z.symm)
      have ih := cx_same x b N (min (g + if a > x then 1 else 0) b) hm (Nat.min_le_right _ _)
      have e : cntG (a :: N.takeWhile fun y => y != x) x = (if a > x then 1 else 0) + gc N x := by
        unfold gc cntG
        by_cases hax : a > x
        · rw [if_pos hax, List.filter_cons, if_pos (by simpa using hax), List.length_cons]; omega
        · rw [if_neg hax, List.filter_cons, if_neg (by simpa using hax)]; omega
      rw [ih, e]
      omega
end Sh
namespace Sh
theorem let_step {l : Bool} {T G U : List Int} {one : Int} (hp : (G ++ U).Perm T) (hs : (tm l G).Pairwise (· ≤ ·)) (hgu : ∀ g ∈ G, ∀ u ∈ U, sg l * g ≤ sg l * u) (h1 : one ∈ U) (h2 : ∀ y ∈ U, sg l * one ≤ sg l * y) :
    ((G ++ [one]) ++ U.erase one).Perm T ∧ (tm l (G ++ [one])).Pairwise (· ≤ ·) ∧ (∀ g ∈ G ++ [one], ∀ u ∈ U.erase one, sg l * g ≤ sg l * u) ∧ (U.erase one).length + 1 = U.length := by
  refine ⟨?_, ?_, fun g hg u hu => ?_, ?_⟩
  · rw [List.append_assoc]
    exact ((List.perm_cons_erase h1).symm.append_left G).trans hp
  · unfold tm
    rw [List.map_append, List.pairwise_append]
    refine ⟨hs, List.pairwise_singleton _ _, fun a ha b hb => ?_⟩
    obtain ⟨g, hg, rfl⟩ := List.mem_map.mp ha
    rw [List.map_singleton, List.mem_singleton] at hb
    rw [hb]
    exact hgu g hg one h1
  · have hu' := List.mem_of_mem_erase hu
    rcases List.mem_append.mp hg with hg | hg
    · exact hgu g hg u hu'
    · rw [List.mem_singleton.mp hg]
      exact h2 u hu'
  · rw [List.length_erase_of_mem h1]
    have := List.length_pos_of_mem h1
    omega
theorem let_fin {l : Bool} {T G U : List Int} {n : Nat} (hp : (G ++ U).Perm T) (hs : (tm l G).Pairwise (· ≤ ·)) (hgu : ∀ g ∈ G, ∀ u ∈ U, sg l * g ≤ sg l * u) (h1 : U.length ≤ n) (h2 : n ≤ U.length ∨ G = []) :
    tm l G = (asc (tm l T)).take (T.length - n) ∧ (tm l U).Perm ((asc (tm l T)).drop (T.length - n)) := by
  have hl := hp.length_eq
  rw [List.length_append] at hl
  have hG : (tm l G).length = T.length - n := by
    rw [tm_len]
    rcases h2 with h2 | h2
    · omega
    · subst h2
      simp only [List.length_nil] at hl ⊢
      omega
  have e : tm l G ++ asc (tm l U) = asc (tm l T) := by
    refine eq_asc (((asc_perm (tm l U)).append_left _).trans ?_) ?_
    · have := hp.map (sg l * ·)
      rw [List.map_append] at this
      exact this
    · rw [List.pairwise_append]
      refine ⟨hs, asc_srt _, fun a ha b hb => ?_⟩
      obtain ⟨g, hg, rfl⟩ := List.mem_map.mp ha
      obtain ⟨u, hu, rfl⟩ := List.mem_map.mp ((asc_perm _).mem_iff.mp hb)
      exact hgu g hg u hu
  rw [← e, List.take_left' hG, List.drop_left' hG]
  exact ⟨rfl, (asc_perm _).symm⟩
end Sh
namespace Ld
open PySem PySem.Spec PyProof.Rows L2 Lx
section
variable {K : PySem.W.Frag} {Γ : List Cell} {Θ : List Tmp}
theorem r2_catR {x y : Tmp} {ds es : List Dat} {Q : List Cell → Tmp → Prop} (hx : rd Γ x (.list ds)) (hy : rd Γ y (.list es)) (hz : ds.length + es.length ≤ sizeLine) (q : Q Γ (.fr (ds ++ es))) : R2V K rCat Γ Θ x y Q := fun L S0 σ τ S vx vy Qv E k => by
  obtain ⟨b, zs, eb, qb, pb⟩ := rdB_l E hy
  obtain ⟨a, xs, ea, qa, pa⟩ := rdB_l E.pop hx
  exact ⟨a, b, xs, zs, ea, eb, qa, qb, by rw [pa.len, pb.len]; exact hz, fun p hp => k Γ _ _ _ (E.pop.pop.newLst hp (pa.app pb)) q⟩
end
end Ld
namespace Sh
open PySem PySem.Spec PyProof.Rows L2 Lx Ld
theorem lp_cong : ∀ (L : List (Int × Nat)) {S S' : List Int}, S.Perm S' → lp L S = lp L S'
  | [], S, S', h => asc_of_perm h
  | (a, m) :: r, S, S', h => by
    show (asc (S ++ [a])).take _ ++ lp r _ = (asc (S' ++ [a])).take _ ++ lp r _
    rw [asc_of_perm (h.append_right [a]), h.length_eq]
theorem zip_iLN (x : List Int) (y : List Nat) : zipD (iL x) (iL (y.map Int.ofNat)) = (x.zip y).map fun p => PyData.tuple [.int p.1, .int p.2] := by
  rw [zip_iL, List.zip_map_right, List.map_map]
  rfl
theorem lp_len (L : List (Int × Nat)) (S : List Int) : (lp L S).length = S.length + L.length := by rw [(lp_perm L S).length_eq, List.length_append, List.length_map]
theorem tm_app (l : Bool) (a b : List Int) : tm l (a ++ b) = tm l a ++ tm l b := List.map_append
/-- one moment more -/
theorem let_one {l : Bool} {L : List (Int × Nat)} {i m : Nat} {n : Int} {U C G U' : List Int} (hL : L[i]? = some (sg l * n, m)) (h : lp L [] = tm l C ++ lp (L.drop i) (tm l U)) (hG : tm l G = (asc (tm l (U ++ [n]))).take ((U ++ [n]).length - m)) (hU : (tm l U').Perm ((asc (tm l (U ++ [n]))).drop ((U ++ [n]).length - m))) :
    lp L [] = tm l (C ++ G) ++ lp (L.drop (i + 1)) (tm l U') := by
  obtain ⟨hi, e⟩ := List.getElem?_eq_some_iff.mp hL
  rw [List.drop_eq_getElem_cons hi, e] at h
  rw [h, tm_app, List.append_assoc]
  congr 1
  show (asc (tm l U ++ [sg l * n])).take ((tm l U).length + 1 - m) ++ lp _ ((asc (tm l U ++ [sg l * n])).drop ((tm l U).length + 1 - m)) = _
  have e1 : tm l (U ++ [n]) = tm l U ++ [sg l * n] := tm_app l U [n]
  have e2 : (U ++ [n]).length = (tm l U).length + 1 := by rw [tm_len, List.length_append]; rfl
  rw [e1, e2] at hG hU
  rw [hG, lp_cong _ hU]
end Sh
namespace Sh
open PySem PySem.Spec PyProof.Rows L2 Lx Ld
theorem iL_inj {a b : List Int} (h : iL a = iL b) : a = b := by
  induction a generalizing b with
  | nil => cases b with
    | nil => rfl
    | cons y b => cases h
  | cons x a ih => cases b with
    | nil => cases h
    | cons y b =>
      have h1 : PyData.int x = PyData.int y := (List.cons.inj h).1
      have h2 : iL a = iL b := (List.cons.inj h).2
      cases h1
      rw [ih h2]
theorem iL_app (a b : List Int) : iL a ++ iL b = iL (a ++ b) := List.map_append.symm
theorem iL_one (a : List Int) (n : Int) : iL a ++ [PyData.int n] = iL (a ++ [n]) := iL_app a [n]
end Sh
namespace Sh
/-- a stretch past a shelf, a row past a shelf -/
def pastL (l : Bool) (n : Nat) (s : List Int) : List Int := tm l (lp ((tm l s).map fun a => (a, n)) [])
def joinO (ll : List (List Int)) : List (Option Int) := ll.flatMap fun s => s.map some ++ [none]
def pastR (l : Bool) (n : Nat) (r : List (Option Int)) : List (Option Int) := (joinO ((lots r).map (pastL l n))).dropLast
end Sh
namespace Sh
open PySem PySem.Spec PyProof.Rows L2 Lx Ld
theorem rep_iL (n k : Nat) : (List.replicate k [PyData.int (n : Int)]).flatten = iL ((List.replicate k n).map Int.ofNat) := by
  induction k with
  | zero => rfl
  | succ k ih =>
    rw [List.replicate_succ, List.flatten_cons, ih]
    rfl
theorem zip_rep (xs : List Int) (n : Nat) : xs.zip (List.replicate xs.length n) = xs.map fun a => (a, n) := by
  induction xs with
  | nil => rfl
  | cons x xs ih =>
    rw [List.length_cons, List.replicate_succ, List.zip_cons_cons, ih]
    rfl
theorem pastL_perm (l : Bool) (n : Nat) (s : List Int) : (pastL l n s).Perm s := by
  have e : ((tm l s).map fun a => (a, n)).map (·.1) = tm l s := by
    rw [List.map_map]
    exact List.map_id _
  have h := lp_perm ((tm l s).map fun a => (a, n)) []
  rw [List.nil_append, e] at h
  have h2 := h.map (sg l * ·)
  have h3 : ((tm l s).map (sg l * ·)) = s := tm_tm l s
  rw [h3] at h2
  exact h2
theorem pastL_len (l : Bool) (n : Nat) (s : List Int) : (pastL l n s).length = s.length := (pastL_perm l n s).length_eq
theorem joinO_len (l : Bool) (n : Nat) : ∀ ll : List (List Int), (joinO (ll.map (pastL l n))).length = ll.flatten.length + ll.length
  | [] => rfl
  | s :: ll => by
    have ih := joinO_len l n ll
    unfold joinO at ih ⊢
    rw [List.map_cons, List.flatMap_cons, List.length_append, ih, List.flatten_cons, List.length_append, List.length_append, List.length_map, pastL_len]
    simp only [List.length_singleton, List.length_cons, List.length_nil]
    omega
theorem joinO_snoc (ll : List (List Int)) (s : List Int) : joinO (ll ++ [s]) = joinO ll ++ s.map some ++ [none] := by
  unfold joinO
  rw [List.flatMap_append, List.flatMap_cons, List.flatMap_nil, List.append_nil, List.append_assoc]
theorem oL_app (a b : List (Option Int)) : oL a ++ oL b = oL (a ++ b) := List.map_append.symm
theorem tL_at {ll : List (List Int)} {i : Nat} {d : Dat} (h : (tL ll)[i]? = some d) : ∃ s, ll[i]? = some s ∧ d = .tuple (iL s) := by
  rw [tL, List.getElem?_map] at h
  obtain ⟨o, h1, h2⟩ := Option.map_eq_some_iff.mp h
  exact ⟨o, h1, h2.symm⟩
theorem oL_dropLast (r : List (Option Int)) : (oL r).dropLast = oL r.dropLast := by
  rw [List.dropLast_eq_take, List.dropLast_eq_take, List.length_map]
  exact List.map_take.symm
end Sh
namespace Sh
end Sh
namespace Sh
open PySem PySem.Spec PyProof.Rows L2 Lx Ld
theorem iL_at {ns : List Int} {i : Nat} {d : Dat} (h : (iL ns)[i]? = some d) : ∃ x, ns[i]? = some x ∧ d = .int x := by
  rw [List.getElem?_map] at h
  obtain ⟨o, h1, h2⟩ := Option.map_eq_some_iff.mp h
  exact ⟨o, h1, h2.symm⟩
end Sh
namespace Ld
open PySem PySem.Spec PyProof.Rows L2 Lx
/-- a, b = x, y where a name is a cell: the pair is made and taken apart -/
theorem ss_parT {K : PySem.W.Frag} {Γ : List Cell} {i j : Nat} {ta tb : TE} {R : DE} (h : ∀ ss, VE K Γ (srcT ss) ta fun Γ1 x => VE K Γ1 (x :: srcT ss) tb fun Γ2 y => (∀ k, x ≠ .br k) ∧ ∃ Γ3 Γ4, St1 Γ2 i x = some Γ3 ∧ St1 Γ3 j y = some Γ4 ∧ R.nx Γ4) :
    VSs K Γ (tAsg (tTupF (tCons ta (tCons tb tNil))) (gTup K 2 (gCons (gName i) (gCons (gName j) gNil)))) R := fun ss L S0 σ τ S D E kn kr kb kc =>
  h ss L S0 σ τ S _ E fun Γ1 S1 u x E1 h1 => h1 L S0 σ _ S1 _ E1 fun Γ2 S2 v y E2 ⟨nx, Γ3, Γ4, e3, e4, q⟩ => by
    refine ⟨Nat.le_of_lt (show 2 < sizeLine by decide +kernel), fun p o hd hp => ?_⟩
    have E3 := E2.grow (gr_new (o := .frz o (.tup [u, v])) hp E2.sub) (sub_new hp E2.sub)
    refine ⟨p, [u, v], rfl, sqt_f upd_same, rfl, u, [v], rfl, v, [], rfl, rfl, ?_⟩
    have ny : y ≠ .br i := fun z => by subst z; cases e4
    exact kn Γ4 _ ⟨S2.b, upd S2.h p (.frz o (.tup [u, v]))⟩ (((E3.swap).st1 (fun t ht => by
      rcases List.mem_cons.mp ht with rfl | ht
      · exact ny
      · exact nb_src t ht) e3).st1 nb_src e4) q
end Ld
namespace Ld
open PySem PySem.Spec PyProof.Rows L2 Lx
end Ld
namespace Sh
open PySem PySem.Spec PyProof.Rows L2 Lx Ld
end Sh
namespace Sh
open PySem PySem.Spec PyProof.Rows L2 Lx Ld
end Sh
set_option Elab.async false
set_option linter.all false
set_option maxRecDepth 100000
namespace Sh
open PySem PySem.Spec PyProof.Rows L2 Lx Ld
/-! ### stretches, marks, the opposite row -/
theorem tm_t (s : List Int) : tm true s = s := by
  unfold tm
  refine (List.map_congr_left fun x _ => ?_).trans (List.map_id s)
  show 1 * x = x
  omega
theorem lots_drop (ll : List (List Int)) (h : 0 < ll.length) : lots ((joinO ll).dropLast) = ll := by
  have h1 : ∀ (s : List Int) (acc : List (List Int)) (a : List Int), (s.map some).foldl lotStep (acc ++ [a]) = acc ++ [a ++ s] := by
    intro s
    induction s with
    | nil => intro acc a; rw [List.append_nil]; rfl
    | cons x s ih =>
      intro acc a
      show (s.map some).foldl lotStep ((acc ++ [a]).set _ _) = _
      have e1 : (acc ++ [a]).length - 1 = acc.length := by simp
      rw [e1, List.set_append_right _ _ (Nat.le_refl _), List.getD_eq_getElem?_getD, List.getElem?_append_right (Nat.le_refl _)]
      simp only [Nat.sub_self, List.set_cons_zero, List.getElem?_cons_zero, Option.getD_some]
      rw [ih, List.append_assoc]
      rfl
  have h2 : ∀ (ll : List (List Int)) (acc : List (List Int)), (joinO ll).foldl lotStep (acc ++ [[]]) = acc ++ ll ++ [[]] := by
    intro ll
    induction ll with
    | nil => intro acc; rw [List.append_nil]; rfl
    | cons s ll ih =>
      intro acc
      have e : joinO (s :: ll) = s.map some ++ [none] ++ joinO ll := by unfold joinO; rw [List.flatMap_cons]
      rw [e, List.foldl_append, List.foldl_append, h1, List.nil_append]
      show (joinO ll).foldl lotStep ((acc ++ [s]) ++ [[]]) = _
      rw [ih]
      simp
  obtain ⟨as, a, rfl⟩ : ∃ as a, ll = as ++ [a] := ⟨ll.dropLast, ll.getLast (List.ne_nil_of_length_pos h), (List.dropLast_concat_getLast _).symm⟩
  rw [joinO_snoc, List.dropLast_concat]
  show (joinO as ++ a.map some).foldl lotStep ([] ++ [[]]) = _
  rw [List.foldl_append, h2, h1, List.nil_append, List.nil_append]
theorem gc_past {s : List Int} {x : Int} (n : Nat) (h : x ∈ s) : gc (pastL true n s) x = gc s x - n := by
  have e0 : (s.map fun a => (a, n)).map (·.1) = s := by
    rw [List.map_map]
    exact List.map_id _
  have h0 : cntG [] x = 0 := rfl
  unfold pastL
  rw [tm_t, tm_t, gc_lp _ [] x (by simp) (by rw [e0]; exact h), h0, cx_same x n s 0 h (Nat.zero_le _)]
  omega
end Sh
namespace Sh
open PySem PySem.Spec PyProof.Rows L2 Lx Ld
theorem ve_ifS {K : PySem.W.Frag} {Γ : List Cell} {Θ : List Tmp} {te : TE} {Q : List Cell → Tmp → Prop} (h : VE K Γ Θ te fun Γ1 x => ∃ l, x = .dt (.str (wd l)) ∧ Q Γ1 (.dt (.int (sg l)))) :
    VE K Γ Θ (tIf (tTest (tOp (rEqD K) te (tC (V.str "light")))) (tC (V.int 1)) (tUn (rU fun i => V.int (-i)) (tC (V.int 1)))) Q :=
  ve_ifE (vt_test (ve_op (ve_mono h fun Γ1 x ⟨l, ex, q⟩ => by
    subst ex
    refine ve_str (r2_eqW (asb ⟨fun e => ?_, fun e => ?_⟩))
    · subst e
      exact ve_int q
    · subst e
      exact ve_un rfl (ve_int ⟨1, rfl, q⟩))))
end Sh
namespace Sh
open PySem PySem.Spec PyProof.Rows L2 Lx Ld
theorem idx_nd {N : List Int} (h : N.Nodup) {i : Nat} {x : Int} (hx : N[i]? = some x) : N.idxOf x = i := by
  obtain ⟨hi, e⟩ := List.getElem?_eq_some_iff.mp hx
  subst e
  exact h.idxOf_getElem i hi
end Sh
set_option Elab.async false
set_option linter.all false
set_option maxRecDepth 100000
set_option maxHeartbeats 2000000
namespace Ld
open PySem PySem.Spec PyProof.Rows L2 Lx
/-- a tuple at a, a list at b, as they stand at each turn; the items in new pairs -/
def ItzT2 (K : PySem.W.Frag) (a b : Addr) : It := ⟨fun i H => ∃ (xs ys : List V) (x y : V), SqT K H a xs ∧ SqT K H b ys ∧ xs[i]? = some x ∧ ys[i]? = some y, fun i H v H' => ∃ T x y, v = .ref T ∧ H T = none ∧ H' = upd H T (.tup [x, y]) ∧ (∀ xs, SqT K H a xs → xs[i]? = some x) ∧ ∀ ys, SqT K H b ys → ys[i]? = some y, fun i H => ∃ xs ys : List V, SqT K H a xs ∧ SqT K H b ys ∧ (xs.length ≤ i ∨ ys.length ≤ i)⟩
def iZipT2 (K : PySem.W.Frag) (ta : TA) : TI := fun σ H R => ta σ H fun vs H1 => ∃ a b xs ys, vs = [.ref a, .ref b] ∧ SqT K H1 a xs ∧ SqT K H1 b ys ∧ R (ItzT2 K a b) H1
section
variable {K : PySem.W.Frag} {Γ : List Cell} {Θ : List Tmp}
theorem vi_zipT2 {ta tb : TE} {Q : List Cell → Bool → List Dat → Prop} (h : VD K Γ Θ ta fun Γ1 d => VD K Γ1 (.dt d :: Θ) tb fun Γ2 e => ∃ ds es, d = .tuple ds ∧ e = .tuple es ∧ Q Γ2 true (zipD ds es)) : VI K Γ Θ (iZipT2 K (tCons ta (tCons tb tNil))) Q := fun L S0 σ τ S R E k =>
  h L S0 σ τ S _ E fun Γ1 S1 u d E1 h1 => h1 L S0 σ _ S1 _ E1 fun Γ2 S2 v e E2 ⟨ds, es, ed, ee, q⟩ => by
  subst ed ee
  obtain ⟨b, ob, zs, eb, _, hb, pb⟩ := dp_tup E2.dt
  obtain ⟨a, oa, xs, ea, _, hx, p⟩ := dp_tup E2.pop.dt
  subst ea eb
  refine ⟨a, b, xs, zs, rfl, sqt_f (E2.sub _ _ hx), sqt_f (E2.sub _ _ hb), k Γ2 [.tuple es, .tuple ds] [.ref b, .ref a] S2 _ true (zipD ds es) E2 rfl ⟨fun S i sub hs hi => ?_, fun S sub hs => ?_, fun S i x H' sub hs hi y => ?_⟩ q⟩
  · obtain ⟨ws, hw', pw⟩ := src_t (K := K) sub (dqa_two hs).1
    obtain ⟨ys, hy', py⟩ := src_t (K := K) sub (dqa_two hs).2
    rw [zipD_len] at hi
    have i1 : i < ds.length := by omega
    have i2 : i < es.length := by omega
    obtain ⟨z, hz, _⟩ := py.get (List.getElem?_eq_getElem i1)
    obtain ⟨z', hz', _⟩ := pw.get (List.getElem?_eq_getElem i2)
    exact ⟨ys, ws, z, z', hy', hw', hz, hz'⟩
  · obtain ⟨ws, hw', pw⟩ := src_t (K := K) sub (dqa_two hs).1
    obtain ⟨ys, hy', py⟩ := src_t (K := K) sub (dqa_two hs).2
    refine ⟨ys, ws, hy', hw', ?_⟩
    rw [zipD_len, py.len, pw.len]
    omega
  · obtain ⟨ws, hw', pw⟩ := src_t (K := K) sub (dqa_two hs).1
    obtain ⟨ys, hy', py⟩ := src_t (K := K) sub (dqa_two hs).2
    obtain ⟨T, z, z', rfl, hT, rfl, y1, y2⟩ := y
    obtain ⟨d, hd, gd⟩ := py.getV (y1 ys hy')
    obtain ⟨e, he, ge⟩ := pw.getV (y2 ws hw')
    obtain ⟨S', e1, g1, s1, q1⟩ := gr_pair sub hT gd ge
    exact ⟨S', _, e1, g1, s1, zipD_at hd he, q1⟩
end
end Ld
set_option Elab.async false
set_option linter.all false
set_option maxRecDepth 100000
set_option maxHeartbeats 4000000
/-! tuple * int; dicts of ints -/
namespace Lx
open PySem PySem.Spec PyProof.Rows L2
end Lx
namespace Lx
open PySem PySem.Spec PyProof.Rows L2
end Lx
namespace Ld
open PySem PySem.Spec PyProof.Rows L2 Lx
section
variable {K : PySem.W.Frag} {Γ : List Cell} {Θ : List Tmp}
/-! ### dicts of ints -/
abbrev dI (l : List (Int × Int)) : HO := .dK (l.map fun p => (Sum.inl p.1, V.int p.2))
def lk (l : List (Int × Int)) (n : Int) : Option Int := (l.find? fun p => decide (p.1 = n)).map (·.2)
theorem lk_val (l : List (Int × Int)) (n : Int) : valV (l.map fun p => ((Sum.inl p.1 : Key), V.int p.2)) (Sum.inl n) = (lk l n).map V.int := by
  induction l with
  | nil => rfl
  | cons p l ih =>
    by_cases h : p.1 = n
    · rw [List.map_cons, valV_pos (by rw [h])]
      simp [lk, List.find?_cons, h]
    · rw [List.map_cons, valV_neg (fun e => h (Sum.inl.inj e)), ih]
      simp [lk, List.find?_cons, h]
theorem ve_dnew {Q : List Cell → Tmp → Prop} (q : Q Γ (.ob (dI []))) : VE K Γ Θ tDNewK Q := fun L S0 σ τ S Qv E k p hp => k Γ _ _ _ (E.newOb hp) q
theorem ve_ob {i : Nat} {p : HO} {Q : List Cell → Tmp → Prop} (h : Γ[i]? = some (.ob p)) (q : Q Γ (.br i)) : VE K Γ Θ (tVar i) Q := fun L S0 σ τ S Qv E k => by
  obtain ⟨w, h1, h2⟩ := id E.ok
  obtain ⟨a, e, o, n⟩ := h1 i _ h
  exact ⟨_, e, k Γ S _ _ (E.pushBr e) q⟩
theorem ve_dget {i : Nat} {te : TE} {Q : List Cell → Tmp → Prop} (h0 : ∃ p, Γ[i]? = some (.ob p)) (h : VE K Γ (.br i :: Θ) te fun Γ1 y => ∃ (l : List (Int × Int)) (n m : Int), Γ1[i]? = some (.ob (dI l)) ∧ y = .dt (.int n) ∧ lk l n = some m ∧ Q Γ1 (.dt (.int m))) : VE K Γ Θ (tDGet (tVar i) te) Q := by
  obtain ⟨p, h0⟩ := h0
  refine fun L S0 σ τ S Qv E k => ve_ob (Q := fun Γ1 c => Γ1 = Γ ∧ c = .br i) h0 ⟨rfl, rfl⟩ L S0 σ τ S _ E fun Γ1 S1 v c E1 ⟨e1, e2⟩ => ?_
  subst e1 e2
  refine h L S0 σ _ S1 _ E1 fun Γ2 S2 vy y E2 ⟨l, n, m, hi, ey, hl, q⟩ => ?_
  subst ey
  obtain ⟨a, ea, ha⟩ := E2.pop.ob_at hi
  refine ⟨a, .int m, ea, ?_, k Γ2 S2 _ _ (E2.pop.pop.push (.int m)) q⟩
  have hg := DGet.k (k := Sum.inl n) ha
  rw [lk_val, hl] at hg
  rw [dp_int E2.dt]
  exact hg
theorem ss_dput {i : Nat} {ty tv : TE} {R : DE} (h : ∀ ss, VE K Γ (srcT ss) tv fun Γ1 v => ∃ m : Int, v = .dt (.int m) ∧ (∃ p, Γ1[i]? = some (.ob p)) ∧ VE K Γ1 (.br i :: .dt (.int m) :: srcT ss) ty fun Γ2 y => ∃ (l : List (Int × Int)) (n : Int), Γ2[i]? = some (.ob (dI l)) ∧ y = .dt (.int n) ∧ l.length < sizeLine ∧ lk l n = none ∧ R.nx (Γ2.set i (.ob (dI (l ++ [(n, m)]))))) :
    VSs K Γ (sDPut (tVar i) ty tv) R := fun ss L S0 σ τ S D E kn kr kb kc =>
  h ss L S0 σ τ S _ E fun Γ1 S1 v x E1 ⟨m, ex, ⟨p, h0⟩, h1⟩ => by
    subst ex
    refine ve_ob (Q := fun Γ2 c => Γ2 = Γ1 ∧ c = .br i) h0 ⟨rfl, rfl⟩ L S0 σ _ S1 _ E1 fun Γ2 S2 vd c E2 ⟨e1, e2⟩ => ?_
    subst e1 e2
    refine h1 L S0 σ _ S2 _ E2 fun Γ3 S3 vy y E3 ⟨l, n, hi, ey, hl, hk, q⟩ => ?_
    subst ey
    obtain ⟨a, ea, ha⟩ := E3.pop.ob_at hi
    obtain ⟨a', e', ha', put⟩ := E3.pop.pop.pop.mutOb hi
    have ev : v = .int m := dp_int E3.pop.pop.dt
    have ey : vy = .int n := dp_int E3.dt
    have eaa : a' = a := by
      obtain ⟨w, h1, z, h2⟩ := E3.pop.ok
      have z' : σ[i]? = some (some vd) := z
      rw [z', ea] at e'
      cases e'
      rfl
    subst eaa
    refine ⟨a', _, ea, ?_, kn _ _ ⟨S3.b, upd S3.h a' (dI (l ++ [(n, m)]))⟩ (put _) q⟩
    have hp := DPut.k (k := Sum.inl n) (v := .int m) ha (by rw [List.length_map]; exact hl)
    rw [putK_new _ (by rw [lk_val, hk]; rfl)] at hp
    rw [ev, ey]
    show DPut S3.h a' (kV (Sum.inl n)) (.int m) (upd S3.h a' (dI (l ++ [(n, m)])))
    unfold dI
    rw [List.map_append]
    exact hp
end
end Ld
namespace Ld
open PySem PySem.W
theorem hu1 {n : Nat} (h : n + 64 < cLine) : n + 1 < cLine := by omega
end Ld
set_option Elab.async false
set_option linter.all false
set_option maxRecDepth 100000
namespace Sh
/-! ### places that change: the count in its closed form -/
end Sh
namespace Sh
open PySem PySem.Spec PyProof.Rows L2 Lx Ld
theorem rng0_eq (n : Nat) : rngD 0 (n : Int) = (List.range n).map fun k : Nat => PyData.int (k : Int) := by
  unfold rngD
  rw [show ((n : Int) - 0).toNat = n by omega]
  refine List.map_congr_left fun k _ => ?_
  rw [Int.zero_add]
theorem nd_take {N : List Int} (h : N.Nodup) {i : Nat} {x : Int} (hx : N[i]? = some x) : x ∉ N.take i := fun z => by
  obtain ⟨j, hj⟩ := List.getElem?_of_mem z
  rw [List.getElem?_take] at hj
  by_cases hji : j < i
  · rw [if_pos hji] at hj
    have := (List.getElem?_inj (List.getElem?_eq_some_iff.mp hx).1 h).mp (hx.trans hj.symm)
    omega
  · rw [if_neg hji] at hj
    cases hj
end Sh
namespace Sh
open PySem PySem.Spec PyProof.Rows L2 Lx Ld
theorem lots_some (N : List Int) : lots (N.map some) = [N] := by
  have := lots_drop [N] (by simp)
  have e : (joinO [N]).dropLast = N.map some := by
    show ((N.map some ++ [none]) ++ []).dropLast = _
    rw [List.append_nil, List.dropLast_concat]
  rwa [e] at this
theorem pastR_some (l : Bool) (n : Nat) (N : List Int) : pastR l n (N.map some) = (pastL l n N).map some := by
  unfold pastR
  rw [lots_some]
  show ((pastL l n N).map some ++ [none] ++ []).dropLast = _
  rw [List.append_nil, List.dropLast_concat]
theorem cut_from (ds : List Dat) (n : Nat) : Ld.cutD ds (some (n : Int)) none = ds.drop n := by
  unfold Ld.cutD
  rw [HT.sIx_none, HT.sIx_nat]
  have e : ds.drop (min n ds.length) = ds.drop n := by
    by_cases h : n ≤ ds.length
    · rw [Nat.min_eq_left h]
    · rw [Nat.min_eq_right (by omega), List.drop_length, List.drop_of_length_le (by omega)]
  rw [e, List.take_of_length_le (by rw [List.length_drop]; omega)]
end Sh
set_option Elab.async false
set_option linter.all false
set_option maxRecDepth 100000
/-! the truth of lists, a name that a comprehension uses again, words -/
namespace Ld
open PySem PySem.Spec PyProof.Rows L2 Lx Sh
def tTru (K : PySem.W.Frag) (ta : TE) : TT := fun σ H Q => ta σ H fun x H' => ∃ k, TruV K x H' k ∧ Q k H'
section
variable {K : PySem.W.Frag} {Γ : List Cell} {Θ : List Tmp}
theorem isEmpty_len {α β : Type} {a : List α} {b : List β} (h : a.length = b.length) : a.isEmpty = b.isEmpty := by
  cases a <;> cases b <;> simp at h <;> rfl
theorem vt_truL {te : TE} {Q : List Cell → Bool → Prop} (h : VE K Γ Θ te fun Γ1 x => ∃ ds, rd Γ1 x (.list ds) ∧ Q Γ1 (!ds.isEmpty)) : VT K Γ Θ (tTru K te) Q := fun L S0 σ τ S Qv E k => h L S0 σ τ S _ E fun Γ1 S1 v x E1 ⟨ds, hx, q⟩ => by
  obtain ⟨a, us, ev, ha, pa⟩ := rdB_l E1 hx
  subst ev
  refine ⟨!us.isEmpty, .inl ⟨us, .of ha, rfl⟩, ?_⟩
  rw [isEmpty_len pa.len]
  exact k Γ1 S1 _ E1.pop q
theorem vt_truT {te : TE} {Q : List Cell → Bool → Prop} (h : VE K Γ Θ te fun Γ1 x => ∃ ds, x = .dt (.tuple ds) ∧ Q Γ1 (!ds.isEmpty)) : VT K Γ Θ (tTru K te) Q := fun L S0 σ τ S Qv E k => h L S0 σ τ S _ E fun Γ1 S1 v x E1 ⟨ds, hx, q⟩ => by
  subst hx
  obtain ⟨a, o, us, ev, _, ha, pa⟩ := dp_tup E1.dt
  subst ev
  refine ⟨!us.isEmpty, .inr (.inl ⟨us, sqt_f (E1.sub _ _ ha), rfl⟩), ?_⟩
  rw [isEmpty_len pa.len]
  exact k Γ1 S1 _ E1.pop q
theorem wd_eq (a b : Bool) : decide (wd a = wd b) = decide (a = b) := by cases a <;> cases b <;> decide +kernel
theorem r2_eqWW {a b : Bool} {Q : List Cell → Tmp → Prop} (q : Q Γ (.dt (.bool (decide (a = b))))) : R2V K (rEqD K) Γ Θ (.dt (.str (wd a))) (.dt (.str (wd b))) Q := r2_eqD rd_dt rd_dt (wd_s a) (wd_s b) (by rw [eqv_ss, wd_eq]; exact q)
end
end Ld
namespace Ld
open PySem PySem.Spec PyProof.Rows L2 Lx
/-- what a name holds is forgotten -/
theorem Env.fgt {K : PySem.W.Frag} {L : Addr → Prop} {S0 S : Hs} {Γ : List Cell} {Θ : List Tmp} {σ : L2.St} {τ : List V} (v : Nat) (E : Env K L S0 Γ Θ σ τ S) : Env K L S0 (Γ.set v .no) Θ σ τ S := E.forget (List.length_set ..) fun i c e => by
  by_cases hi : v = i
  · subst hi
    by_cases hl : v < Γ.length
    · rw [List.getElem?_set_self hl] at e
      cases e
      exact .inl rfl
    · have := (List.getElem?_eq_some_iff.mp e).1
      rw [List.length_set] at this
      omega
  · rw [List.getElem?_set_ne hi] at e
    exact .inr e
theorem ve_drop {K : PySem.W.Frag} {Γ : List Cell} {Θ : List Tmp} (v : Nat) {te : TE} {Q : List Cell → Tmp → Prop} (h : VE K (Γ.set v .no) Θ te Q) : VE K Γ Θ te Q := fun L S0 σ τ S Qv E k => h L S0 σ τ S Qv (E.fgt v) k
end Ld
namespace Ld
open PySem PySem.Spec PyProof.Rows L2 Lx
theorem vg_three {K : PySem.W.Frag} {Γ : List Cell} {pr : Bool} {i j l : Nat} {x y z : Dat} {Q : List Cell → Prop} (q : Q (((Γ.set i (.dt x)).set j (.dt y)).set l (.dt z))) : VG K pr Γ (gTup K 3 (gCons (gName i) (gCons (gName j) (gCons (gName l) gNil)))) (.tuple [x, y, z]) Q := fun L S0 Θ σ τ S v R nb E hd k => by
  obtain ⟨a, xs, e, h, p⟩ : ∃ a xs, v = .ref a ∧ SqT K S.h a xs ∧ DqAll S.b xs [x, y, z] := by
    cases pr with
    | false =>
      obtain ⟨a, o, xs, e, _, h, p⟩ := dp_tup (show Dq S.b v (.tuple [x, y, z]) from hd)
      exact ⟨a, xs, e, sqt_f (E.sub _ _ h), p⟩
    | true =>
      obtain ⟨a, xs, ds, e, e2, h, p⟩ := hd
      cases e2
      exact ⟨a, xs, e, .of (E.sub _ _ h), p⟩
  cases p with
  | cons p1 p =>
    cases p with
    | cons p2 p =>
      cases p with
      | cons p3 p =>
        cases p
        exact ⟨a, _, e, h, rfl, _, _, rfl, _, _, rfl, _, _, rfl, rfl, k _ _ (((E.setDt (nb i) p1).setDt (nb j) p2).setDt (nb l) p3) q⟩
end Ld
namespace Ld
open PySem PySem.Spec PyProof.Rows L2 Lx
/-- a test at which the walk stops -/
def tStop (t : TT) : TT := t
theorem pt_stop {X : Cx} {a : Expr} {t : TT} (h : PT X a t) : PT X a (tStop t) := h
/-- .. whose outcome is known -/
theorem vt_cut {K : PySem.W.Frag} {Γ : List Cell} {Θ : List Tmp} {t : TT} {Q : List Cell → Bool → Prop} (b : Bool) (h : VT K Γ Θ t fun Γ1 c => c = b ∧ Γ1 = Γ) (q : Q Γ b) : VT K Γ Θ (tStop t) Q := vt_mono h fun Γ1 c ⟨e1, e2⟩ => by rw [e1, e2]; exact q
end Ld
set_option Elab.async false
set_option linter.all false
set_option maxRecDepth 100000
namespace Sh
open PySem PySem.Spec PyProof.Rows L2 Lx Ld
/-! ### several shelves -/
end Sh
namespace Sh
end Sh
set_option Elab.async false
set_option linter.all false
set_option maxRecDepth 100000
namespace Sh
open PySem PySem.Spec PyProof.Rows L2 Lx Ld
/-! ### how far each number is moved -/
/-- how many lesser ones that stand behind come out ahead -/
def gone (n : Nat) (N : List Int) (x : Int) : Nat := ((N.drop (N.idxOf x + 1)).filter fun z => decide (z < x) && decide ((pastL true n N).idxOf z < (pastL true n N).idxOf x)).length
end Sh
namespace Sh
open PySem PySem.Spec PyProof.Rows L2 Lx Ld
/-! with stretches and marks -/
/-- a number's place in a row -/
def ixO (r : List (Option Int)) (x : Int) : Nat := r.idxOf (some x)
end Sh
namespace Ld
open PySem PySem.Spec PyProof.Rows L2 Lx
def tTIdxO (ta te : TE) : TE := tTIdx ta te
end Ld
namespace Sh
open PySem PySem.Spec PyProof.Rows L2 Lx Ld
theorem oL_fl (r : List (Option Int)) : (oL r).all flD = true := by
  rw [List.all_eq_true]
  intro d hd
  obtain ⟨o, _, rfl⟩ := List.mem_map.mp hd
  cases o <;> simp [oD, flD]
theorem ixO_at {r : List (Option Int)} {x : Int} (h : some x ∈ r) : (oL r)[ixO r x]? = some (.int x) := by
  have hi := List.idxOf_lt_length_iff.mpr h
  unfold ixO
  rw [List.getElem?_map, List.getElem?_eq_getElem hi]
  simp [oD]
theorem eqF_o {o : Option Int} {x : Int} : eqF (oD o) (.int x) = decide (o = some x) := by
  cases o with
  | none => simp [oD, eqF]
  | some a =>
    show eqF (.int a) (.int x) = _
    rw [eqF_ii]
    by_cases h : a = x <;> simp [h]
theorem ixO_no {r : List (Option Int)} {x : Int} {m : Nat} {z : Dat} (hm : m < ixO r x) (hz : (oL r)[m]? = some z) : eqF z (.int x) = false := by
  rw [List.getElem?_map] at hz
  obtain ⟨k, hk, rfl⟩ := Option.map_eq_some_iff.mp hz
  rw [eqF_o]
  refine decide_eq_false fun e => ?_
  subst e
  obtain ⟨hl, e2⟩ := List.getElem?_eq_some_iff.mp hk
  have := List.not_of_lt_findIdx (xs := r) (p := (· == some x)) (i := m) hm
  simp [e2] at this
theorem ve_tidxO {K : PySem.W.Frag} {Γ : List Cell} {Θ : List Tmp} {ta te : TE} {Q : List Cell → Tmp → Prop}
    (h : VE K Γ Θ ta fun Γ1 x => ∃ r, x = .dt (.tuple (oL r)) ∧ VE K Γ1 (x :: Θ) te fun Γ2 y => ∃ n, y = .dt (.int n) ∧ some n ∈ r ∧ Q Γ2 (.dt (.int (ixO r n)))) :
    VE K Γ Θ (tTIdxO ta te) Q := ve_tidx (ve_mono h fun Γ1 x ⟨r, hx, h2⟩ => ⟨oL r, hx, ve_mono h2 fun Γ2 y ⟨n, g2, g3, g4⟩ => by
  subst g2
  exact ⟨.int n, ixO r n, .int n, rd_dt, rfl, oL_fl r, ixO_at g3, by rw [eqF_ii]; simp, fun m z hm hz => ixO_no hm hz, g4⟩⟩)
end Sh
namespace Sh
open PySem PySem.Spec PyProof.Rows L2 Lx Ld
end Sh
set_option Elab.async false
set_option linter.all false
set_option maxRecDepth 100000
/-! max(xs, default=d) -/
namespace Lx
open PySem PySem.Spec PyProof.Rows L2 PySem.W
def rMaxD (K : PySem.W.Frag) : List V → List V → Hp → VK → Prop := fun vs zs H Q => ∃ (a : Addr) (ns : List Int) (d : Int), vs = [V.ref a] ∧ zs = [V.int d] ∧ SqL K H a (ns.map V.int) ∧ (ns = [] → Q (.int d) H) ∧ ∀ m, m ∈ ns → (∀ y ∈ ns, y ≤ m) → Q (.int m) H
end Lx
namespace Ld
open PySem PySem.Spec PyProof.Rows L2 Lx
theorem ve_maxD {K : PySem.W.Frag} {Γ : List Cell} {Θ : List Tmp} {d : Int} {ta : TE} {Q : List Cell → Tmp → Prop} (h : VE K Γ Θ ta fun Γ1 x => ∃ ns : List Int, rd Γ1 x (.list (ns.map .int)) ∧ (ns = [] → Q Γ1 (.dt (.int d))) ∧ ∀ m, m ∈ ns → (∀ y ∈ ns, y ≤ m) → Q Γ1 (.dt (.int m))) :
    VE K Γ Θ (tCKw (rMaxD K) (tCons ta tNil) (tCons (tC (.int d)) tNil)) Q := fun L S0 σ τ S Qv E k => h L S0 σ τ S _ E fun Γ1 S1 v x E1 ⟨ns, hx, q0, q⟩ => by
  obtain ⟨a, e, h⟩ := intsL E1 hx
  exact ⟨a, ns, d, by rw [e], rfl, h, fun e => k Γ1 S1 _ _ (E1.pop.push (.int d)) (q0 e), fun m h1 h2 => k Γ1 S1 _ _ (E1.pop.push (.int m)) (q m h1 h2)⟩
end Ld
/-! zip of a list and a tuple -/
set_option maxHeartbeats 2000000
namespace Ld
open PySem PySem.Spec PyProof.Rows L2 Lx
/-- a tuple at a, a list at b, as they stand at each turn; the items in new pairs -/
def ItzLT (K : PySem.W.Frag) (a b : Addr) : It := ⟨fun i H => ∃ (xs ys : List V) (x y : V), SqL K H a xs ∧ SqT K H b ys ∧ xs[i]? = some x ∧ ys[i]? = some y, fun i H v H' => ∃ T x y, v = .ref T ∧ H T = none ∧ H' = upd H T (.tup [x, y]) ∧ (∀ xs, SqL K H a xs → xs[i]? = some x) ∧ ∀ ys, SqT K H b ys → ys[i]? = some y, fun i H => ∃ xs ys : List V, SqL K H a xs ∧ SqT K H b ys ∧ (xs.length ≤ i ∨ ys.length ≤ i)⟩
def iZipLT (K : PySem.W.Frag) (ta : TA) : TI := fun σ H R => ta σ H fun vs H1 => ∃ a b xs ys, vs = [.ref a, .ref b] ∧ SqL K H1 a xs ∧ SqT K H1 b ys ∧ R (ItzLT K a b) H1
section
variable {K : PySem.W.Frag} {Γ : List Cell} {Θ : List Tmp}
theorem vi_zipLT {ta tb : TE} {Q : List Cell → Bool → List Dat → Prop} (h : VD K Γ Θ ta fun Γ1 d => VD K Γ1 (.dt d :: Θ) tb fun Γ2 e => ∃ ds es, d = .list ds ∧ e = .tuple es ∧ Q Γ2 true (zipD ds es)) : VI K Γ Θ (iZipLT K (tCons ta (tCons tb tNil))) Q := fun L S0 σ τ S R E k =>
  h L S0 σ τ S _ E fun Γ1 S1 u d E1 h1 => h1 L S0 σ _ S1 _ E1 fun Γ2 S2 v e E2 ⟨ds, es, ed, ee, q⟩ => by
  subst ed ee
  obtain ⟨b, ob, zs, eb, _, hb, pb⟩ := dp_tup E2.dt
  obtain ⟨a, xs, ea, hx, p⟩ := dp_list E2.pop.dt
  subst ea eb
  refine ⟨a, b, xs, zs, rfl, .of (E2.sub _ _ hx), sqt_f (E2.sub _ _ hb), k Γ2 [.tuple es, .list ds] [.ref b, .ref a] S2 _ true (zipD ds es) E2 rfl ⟨fun S i sub hs hi => ?_, fun S sub hs => ?_, fun S i x H' sub hs hi y => ?_⟩ q⟩
  · obtain ⟨ws, hw', pw⟩ := src_t (K := K) sub (dqa_two hs).1
    obtain ⟨ys, hy', py⟩ := src_l (K := K) sub (dqa_two hs).2
    rw [zipD_len] at hi
    have i1 : i < ds.length := by omega
    have i2 : i < es.length := by omega
    obtain ⟨z, hz, _⟩ := py.get (List.getElem?_eq_getElem i1)
    obtain ⟨z', hz', _⟩ := pw.get (List.getElem?_eq_getElem i2)
    exact ⟨ys, ws, z, z', hy', hw', hz, hz'⟩
  · obtain ⟨ws, hw', pw⟩ := src_t (K := K) sub (dqa_two hs).1
    obtain ⟨ys, hy', py⟩ := src_l (K := K) sub (dqa_two hs).2
    refine ⟨ys, ws, hy', hw', ?_⟩
    rw [zipD_len, py.len, pw.len]
    omega
  · obtain ⟨ws, hw', pw⟩ := src_t (K := K) sub (dqa_two hs).1
    obtain ⟨ys, hy', py⟩ := src_l (K := K) sub (dqa_two hs).2
    obtain ⟨T, z, z', rfl, hT, rfl, y1, y2⟩ := y
    obtain ⟨d, hd, gd⟩ := py.getV (y1 ys hy')
    obtain ⟨e, he, ge⟩ := pw.getV (y2 ws hw')
    obtain ⟨S', e1, g1, s1, q1⟩ := gr_pair sub hT gd ge
    exact ⟨S', _, e1, g1, s1, zipD_at hd he, q1⟩
end
end Ld
namespace Lx
open PySem PySem.Spec PyProof.Rows L2 PySem.W
end Lx
namespace Ld
open PySem PySem.Spec PyProof.Rows L2 Lx
def tTruT (K : PySem.W.Frag) (ta : TE) : TT := tTru K ta
section
variable {K : PySem.W.Frag} {Γ : List Cell} {Θ : List Tmp}
theorem vt_truTp {te : TE} {Q : List Cell → Bool → Prop} (h : VE K Γ Θ te fun Γ1 x => ∃ ds, x = .dt (.tuple ds) ∧ Q Γ1 (!ds.isEmpty)) : VT K Γ Θ (tTruT K te) Q := vt_truT h
theorem eqv_bb (a b : Bool) : PyData.eqv (.bool a) (.bool b) = decide (a = b) := by
  cases a <;> cases b <;> simp [PyData.eqv]
theorem r2_eqB {a b : Bool} {Q : List Cell → Tmp → Prop} (q : Q Γ (.dt (.bool (decide (a = b))))) : R2V K (rEqD K) Γ Θ (.dt (.bool a)) (.dt (.bool b)) Q := r2_eqD rd_dt rd_dt rfl rfl (by rw [eqv_bb]; exact q)
theorem r2_neB {a b : Bool} {Q : List Cell → Tmp → Prop} (q : Q Γ (.dt (.bool (!decide (a = b))))) : R2V K (rNeD K) Γ Θ (.dt (.bool a)) (.dt (.bool b)) Q := r2_neD rd_dt rd_dt rfl rfl (by rw [eqv_bb]; exact q)
theorem eqv_nil (ds : List Dat) : PyData.eqv (.list ds) (.list []) = ds.isEmpty := by
  simp only [PyData.eqv]
  cases ds <;> simp [PyData.eqvAll]
theorem r2_neNil {n : Nat} {x y : Tmp} {ds : List Dat} {Q : List Cell → Tmp → Prop} (hx : rd Γ x (.list ds)) (hy : rd Γ y (.list [])) (hs : ∀ d ∈ ds, Sh.Shp n d) (hn : n + 1 ≤ 64) (q : Q Γ (.dt (.bool (!ds.isEmpty)))) : R2V K (rNeD K) Γ Θ x y Q := r2_neD hx hy (Sh.shp_ok (Sh.shp_list hs) hn) (by rfl) (by rw [eqv_nil]; exact q)
end
end Ld
set_option Elab.async false
set_option linter.all false
set_option maxRecDepth 100000
namespace Sh
open PySem PySem.Spec PyProof.Rows L2 Lx Ld
/-! ### places needed -/
def nd (N : List Int) (k : Nat) : Nat := ((N.take (k + 1)).filter fun y => (N.drop (k + 1)).any fun z => decide (z < y)).length
theorem gc_take {N : List Int} {i : Nat} {x : Int} (hN : N.Nodup) (h : N[i]? = some x) : gc N x = cntG (N.take i) x := by
  unfold gc
  rw [← take_idx, idx_nd hN h]
end Sh
namespace Sh
end Sh
namespace Sh
open PySem PySem.Spec PyProof.Rows L2 Lx Ld
end Sh
set_option Elab.async false
set_option linter.all false
set_option maxRecDepth 100000
/-! defs with a default; x *= e -/
namespace Ld
open PySem PySem.Spec PyProof.Rows L2 Lx
section
variable {P : Program} {w : World} {K : PySem.W.Frag} {mg : Str → Option Value} {base : Heap}
theorem ok_Gd {α : Type} {x qual : Str} {st : Stmt} {dvs : List V} {f : Addr} {fd : FuncData} {N ps : List Str} {k : Nat} {Ar : α → List Arg} {pre : α → Prop} {post : α → Dat → Prop} (F : FunD K x qual (defArgs st) (defBody st) (defScope st) dvs [] f fd) (Sc : FnScope N ps (defScope st)) (hl : ∀ x, (Ar x).length = ps.length) (hN : ps.length ≤ N.length)
    (hb : ∀ (cdv : Value) (A : Around) (outer : List PySem.Env) (s : Shared) (H : Hp) (E : XK), Room k (A.deeper (envOfC qual (defScope st) s.heap.objs.size f cdv)) →
      ∃ t, PSs (Bx P w K mg base N qual st f cdv A outer s H E) (defBody st) t ∧ ∀ x, pre x → VSs K (cells0 N ((Ar x).map Arg.cell)) t ⟨fun _ => post x .none, fun _ d => post x d, fun _ => False, fun _ => False⟩) : FnOk P w K mg base CX0 (k + 1) f fd ps (spG K Ar pre post) := by
  refine F.ok Sc (fun vs H Q E h => ?_) (fun cdv A outer s H vs Q E hr h => ?_)
  · obtain ⟨B, x, _, p, hp, _⟩ := h
    rw [p.len, hl x]
  · obtain ⟨t, ht, hv⟩ := hb cdv A outer s H E hr
    obtain ⟨B, x, sub, p, hp, q⟩ := h
    have hlv : vs.length ≤ N.length := by rw [p.len, hl x]; exact hN
    refine ⟨t, ht.nox, ?_⟩
    refine hv x hp [] L0 ⟨B, H⟩ (L2.start N vs) [] ⟨B, H⟩ _ (env_start sub p hlv) (fun Γ' σ' S' E' z => ?_) (fun Γ' σ' S' v d E' hd z => ?_) (fun Γ' σ' S' E' z => z.elim) (fun Γ' σ' S' E' z => z.elim)
    · exact q .non S' .none E'.gr E'.sub .non z
    · exact q v S' d E'.gr E'.sub hd z
/-- a def whose last parameter has the default d -/
structure DfD (K : PySem.W.Frag) (mg : Str → Option Value) (x : Str) (st : Stmt) (ps : List Str) (d : Int) (f : Addr) (fd : FuncData) : Prop where
  F : FunD K x x (defArgs st) (defBody st) (defScope st) [.int d] [] f fd
  g : mg x = some (.ref f)
  b0 : ∃ ds, Vals [] ds ∧ Binds K fd ps ds
  b1 : ∃ ds, Vals [V.int d] ds ∧ Binds K fd ps ds
structure CalD (P : Program) (w : World) (K : PySem.W.Frag) (mg : Str → Option Value) (base : Heap) (k : Nat) (x : Str) (ps : List Str) (sp : Sp) (d : Int) (f : Addr) (fd : FuncData) : Prop where
  G : FnOk P w K mg base CX0 k f fd ps sp
  g : mg x = some (.ref f)
  kp : PySem.W.keepIn K (.ref f) = true
  b0 : ∃ ds, Vals [] ds ∧ Binds K fd ps ds
  b1 : ∃ ds, Vals [V.int d] ds ∧ Binds K fd ps ds
theorem DfD.cal {k : Nat} {x : Str} {st : Stmt} {ps : List Str} {sp : Sp} {d : Int} {f : Addr} {fd : FuncData} (D : DfD K mg x st ps d f fd) (G : FnOk P w K mg base CX0 k f fd ps sp) : CalD P w K mg base k x ps sp d f fd := ⟨G, D.g, D.F.kp, D.b0, D.b1⟩
theorem DfD.of {x : Str} {st : Stmt} {ps : List Str} {d : Int} {f : Addr} {fd : FuncData} (n : Nat) (F : FunD K x x (defArgs st) (defBody st) (defScope st) [.int d] [] f fd) (g : mg x = some (.ref f)) (hn : n + 1 = ps.length)
    (h0 : ∀ (T : Addr) (kV doc pm : Value) (an : Option Addr) (cdv ct : Value) (us its : List Value), us.length = n + 1 → its.length = 1 →
      ∃ k, bindArgs (PySem.W.fnOf x x (defArgs st) (defBody st) (defScope st) (.ref T) kV doc pm an cdv ct) ⟨us, []⟩ = seqItems? (.ref T) >>= k ∧ k (some its.toArray) = pure (ps.zip (us ++ its.drop 1)))
    (h1 : ∀ (T : Addr) (kV doc pm : Value) (an : Option Addr) (cdv ct : Value) (us its : List Value), us.length = n → its.length = 1 →
      ∃ k, bindArgs (PySem.W.fnOf x x (defArgs st) (defBody st) (defScope st) (.ref T) kV doc pm an cdv ct) ⟨us, []⟩ = seqItems? (.ref T) >>= k ∧ k (some its.toArray) = pure (ps.zip (us ++ its.drop 0))) : DfD K mg x st ps d f fd :=
  ⟨F, g, F.binds1 (n + 1) 1 (by simp) (by simp; omega) h0, F.binds1 n 0 (by simp) (by simp; omega) h1⟩
end
section
variable {K : PySem.W.Frag} {Γ : List Cell} {Θ : List Tmp}
theorem argsOk_app {B : Hp} : ∀ {vs us : List V} {as bs : List Arg}, ArgsOk K B vs as → ArgsOk K B us bs → ArgsOk K B (vs ++ us) (as ++ bs)
  | _, _, _, _, .nil, h => h
  | _, _, _, _, .cons h t, h2 => .cons h (argsOk_app t h2)
theorem ve_callFd {α : Type} {d : Int} {A : α → List Arg} {pre : α → Prop} {g : α → Dat} {X : XK} {t : TA} {Q : List Cell → Tmp → Prop} (h : VAX K Γ Θ t fun Γ1 as => ∃ x, as ++ [.dt (.int d)] = A x ∧ pre x ∧ Q Γ1 (.dt (g x))) : VE K Γ Θ (tCall (spF K A pre g) [V.int d] X t) Q := fun L S0 σ τ S Qv E k => h L S0 σ τ S _ E fun Γ1 S1 vs as E1 p ⟨x, ex, hp, q⟩ => by
  refine ⟨S1.b, x, E1.sub, ?_, hp, fun v S' d g s hd hq => k Γ1 S' v _ ((E1.grow g s).push hd) (by rw [hq]; exact q)⟩
  rw [← ex]
  exact argsOk_app p (.cons (.int d) .nil)
theorem ss_augI {i : Nat} {te : TE} {C : Int → Int → Prop} {f : Int → Int → Int} {R : DE} (h0 : ∃ m : Int, Γ[i]? = some (.dt (.int m))) (h : ∀ ss, VE K Γ (srcT ss) te fun Γ1 y => ∃ m n : Int, Γ1[i]? = some (.dt (.int m)) ∧ y = .dt (.int n) ∧ C m n ∧ R.nx (Γ1.set i (.dt (.int (f m n))))) :
    VSs K Γ (tAug i te (rI C fun i j => .int (f i j))) R := fun ss L S0 σ τ S D E kn kr kb kc => by
  obtain ⟨m0, h0⟩ := h0
  obtain ⟨w, g1, g2⟩ := id E.ok
  obtain ⟨v, ev, qv⟩ := g1 i _ h0
  refine ⟨v, ev, h ss L S0 σ τ S _ E fun Γ1 S1 vy y E1 ⟨m, n, hi, ey, hc, q⟩ => ?_⟩
  subst ey
  obtain ⟨w', g1', g2'⟩ := id E1.ok
  obtain ⟨v', ev', qv'⟩ := g1' i _ hi
  rw [ev] at ev'
  cases ev'
  have e1 : v = .int m := dp_int qv'
  have e2 : vy = .int n := dp_int E1.dt
  refine ⟨m, n, e1, e2, hc, ?_⟩
  exact kn _ _ S1 (E1.pop.setDt nb_src (.int _)) q
end
end Ld
namespace Ld
open PySem PySem.Spec PyProof.Rows L2 Lx
/-- a statement at which the walk stops -/
def tStopS (t : TS) : TS := t
theorem ps_stop {X : Cx} {a : Stmt} {t : TS} (h : PS X a t) : PS X a (tStopS t) := h
section
variable {K : PySem.W.Frag} {Γ : List Cell} {t : TS} {R : DE}
theorem ss_mono {R' : DE} (h : VSs K Γ t R') (f1 : ∀ Γ', R'.nx Γ' → R.nx Γ') (f2 : ∀ Γ' d, R'.rt Γ' d → R.rt Γ' d) (f3 : ∀ Γ', R'.bk Γ' → R.bk Γ') (f4 : ∀ Γ', R'.ct Γ' → R.ct Γ') : VSs K Γ t R := fun ss L S0 σ τ S D E kn kr kb kc =>
  h ss L S0 σ τ S D E (fun Γ' σ' S' E' q => kn Γ' σ' S' E' (f1 _ q)) (fun Γ' σ' S' v d E' hd q => kr Γ' σ' S' v d E' hd (f2 _ _ q)) (fun Γ' σ' S' E' q => kb Γ' σ' S' E' (f3 _ q)) (fun Γ' σ' S' E' q => kc Γ' σ' S' E' (f4 _ q))
/-- .. behind which all is as it was -/
theorem ss_same (h : VSs K Γ t ⟨fun Γ' => Γ' = Γ, fun _ _ => False, fun _ => False, fun _ => False⟩) (q : R.nx Γ) : VSs K Γ (tStopS t) R := ss_mono h (fun Γ' e => by rw [e]; exact q) (fun _ _ z => z.elim) (fun _ z => z.elim) (fun _ z => z.elim)
theorem ss_frz {i : Nat} {ds : List Dat} (hi : Γ[i]? = some (.ow ds)) (h : VSs K (Γ.set i (.dt (.list ds))) t R) : VSs K Γ t R := fun ss L S0 σ τ S D E kn kr kb kc => by
  obtain ⟨S', e, E'⟩ := E.frzSlot hi
  rw [← e]
  exact h ss L S0 σ τ S' D E' kn kr kb kc
end
end Ld
set_option Elab.async false
set_option linter.all false
set_option maxRecDepth 100000
namespace Sh
open PySem PySem.Spec PyProof.Rows L2 Lx Ld
/-! ### how few places sort a row; how many rows are sorted -/
theorem flat_take {α β : Type} (f : α → List β) (l : List α) (j : Nat) : ((l.take j).flatMap f).length ≤ (l.flatMap f).length := by
  have h : l.flatMap f = (l.take j).flatMap f ++ (l.drop j).flatMap f := by rw [← List.flatMap_append, List.take_append_drop]
  rw [h, List.length_append]
  omega
end Sh
namespace Sh
end Sh
set_option Elab.async false
set_option linter.all false
set_option maxRecDepth 100000
set_option maxHeartbeats 4000000
/-! dict(zip(t, l)): t a tuple, l a list -/
namespace Lx
open PySem PySem.Spec PyProof.Rows
open PySem.Sem (wp)
section
variable {prog : Program} {w : World} {A : Around} {E : Value → Shared → Prop} {s : Shared} {z TI TO T i1 i2 l1 l2 : Addr} {S1 S2 : Nat → Heap → Prop} {n1 n2 : Nat} {f1 f2 : Nat → Option Value} {f : Bool} {oT : Obj}
theorem heldI {k1 k2 : Nat} {x y : Value} {Q : Value → Shared → Prop} (D : ZipApart z TI TO i1 i2 l1 l2) (T1 : Stp prog w i1 l1 S1 n1 f1) (T2 : Stp prog w i2 l2 S2 n2 f2) (hz : IsZipHeld s.heap z TI TO T f) (hT : s.heap.get? T = some oT) (hTI : IsPair s.heap TI (.ref i1) (.ref i2)) (h1 : S1 k1 s.heap) (h2 : S2 k2 s.heap) (hx : f1 k1 = some x) (hy : f2 k2 = some y)
    (hQ : ∀ h', IsZipHeld h' z TI TO T true → S1 (k1 + 1) h' → S2 (k2 + 1) h' → IsPair h' s.heap.objs.size x y → (∀ c o, c ≠ z → c ≠ i1 → c ≠ i2 → s.heap.get? c = some o → h'.get? c = some o) → Q (.ref s.heap.objs.size) { s with heap := h' }) :
    wpAny (model prog w) A (Builtin.«zip.__next__» ⟨[.ref z], []⟩) (fun fin s' => ∃ v, fin = .done (.ret v) ∧ Q v s') E s := by
  show wpAny _ _ (field (.ref z) 2 >>= _) _ _ _; refine wpAny_bind (wpAny_field hz rfl (x := .bool false) rfl ?_); show wpAny _ _ (field (.ref z) 3 >>= _) _ _ _; refine wpAny_bind (wpAny_field hz rfl (x := .ref TI) rfl ?_); refine wpAny_bind (wpAny_seqItems hTI rfl ?_)
  show wpAny _ _ (Builtin.SmallTypes.ownedTupleIsFree (.ref z) >>= _) _ _ _; refine wpAny_bind (wpAny_tupleHeld_zip hz hT fun g1 z1 s1 => ?_); simp only [Bool.false_eq_true, if_false]
  refine wpAny_bind ?_; rw [← Array.forIn_toList]; simp only [List.forIn_cons, List.forIn_nil]; refine wpAny_bind (wpAny_bind (wpAny_holding ?_)); show wpAny _ _ (Builtin.SmallTypes.nextOf (.ref i1) >>= _) _ _ _
  refine wpAny_bind (T1.go _ _ _ k1 x _ (T1.mv _ _ _ _ h1 s1.extBut D.i1z D.l1z) hx fun g2 q1 s2 => wpAny_pure ?_)
  refine wpAny_pure ?_; refine wpAny_bind (wpAny_bind (wpAny_holding ?_)); show wpAny _ _ (Builtin.SmallTypes.nextOf (.ref i2) >>= _) _ _ _
  refine wpAny_bind (T2.go _ _ _ k2 y _ (T2.mv _ _ _ _ (T2.mv _ _ _ _ h2 s1.extBut D.i2z D.l2z) s2.extBut D.i12.symm D.l2i1) hy fun g3 q2 s3 => wpAny_pure ?_)
  refine wpAny_pure (wpAny_pure ?_); show wpAny _ _ (newTuple [x, y] >>= _) _ _ _; refine wpAny_bind (wpAny_newTuple ?_)
  have sz : g3.objs.size = s.heap.objs.size := by rw [s3.1, s2.1, s1.1]
  have z3 : IsZipHeld g3 z TI TO T true := s3.extBut _ _ D.i2z.symm (s2.extBut _ _ D.i1z.symm z1)
  have up : ∀ c o, c ≠ z → c ≠ i1 → c ≠ i2 → s.heap.get? c = some o → g3.get? c = some o := fun c o c1 c2 c3 e => s3.extBut _ _ c3 (s2.extBut _ _ c2 (s1.extBut _ _ c1 e))
  have a1 : S1 (k1 + 1) g3 := T1.mv _ _ _ _ q1 s3.extBut D.i12 D.l1i2
  refine wpAny_pure ⟨_, rfl, ?_⟩; show Q (.ref g3.objs.size) _
  have pushed : ∀ c o, g3.get? c = some o → (g3.push { cls := .type "tuple", data := .seq #[x, y] }).get? c = some o := fun c o e => Heap.get?_push_of_some _ e
  have t4 : IsPair (g3.push { cls := .type "tuple", data := .seq #[x, y] }) g3.objs.size x y := Heap.get?_push_size _ rfl
  have b1 : S1 (k1 + 1) (g3.push { cls := .type "tuple", data := .seq #[x, y] }) := T1.mv _ z _ _ a1 (fun c o _ e => pushed c o e) D.i1z D.l1z
  have b2 : S2 (k2 + 1) (g3.push { cls := .type "tuple", data := .seq #[x, y] }) := T2.mv _ z _ _ q2 (fun c o _ e => pushed c o e) D.i2z D.l2z
  rw [sz] at t4 ⊢
  exact hQ _ (pushed _ _ z3) b1 b2 t4 fun c o c1 c2 c3 e => pushed _ _ (up c o c1 c2 c3 e)
theorem heldE {k1 k2 : Nat} {Q : Fin → Shared → Prop} (hh : A.handled = none) (D : ZipApart z TI TO i1 i2 l1 l2) (T1 : Stp prog w i1 l1 S1 n1 f1) (T2 : Stp prog w i2 l2 S2 n2 f2) (hz : IsZipHeld s.heap z TI TO T f) (hT : s.heap.get? T = some oT) (hTI : IsPair s.heap TI (.ref i1) (.ref i2)) (h1 : S1 k1 s.heap) (h2 : S2 k2 s.heap) (hend : f1 k1 = none ∨ f2 k2 = none)
    (hE : ∀ h' e, (∀ c o, c ≠ z → c ≠ i1 → c ≠ i2 → s.heap.get? c = some o → h'.get? c = some o) → (∃ o, h'.get? e = some o ∧ o.cls = .type "StopIteration") → E (.ref e) { s with heap := h' }) : wpAny (model prog w) A (Builtin.«zip.__next__» ⟨[.ref z], []⟩) Q E s := by
  show wpAny _ _ (field (.ref z) 2 >>= _) _ _ _; refine wpAny_bind (wpAny_field hz rfl (x := .bool false) rfl ?_); show wpAny _ _ (field (.ref z) 3 >>= _) _ _ _; refine wpAny_bind (wpAny_field hz rfl (x := .ref TI) rfl ?_); refine wpAny_bind (wpAny_seqItems hTI rfl ?_)
  show wpAny _ _ (Builtin.SmallTypes.ownedTupleIsFree (.ref z) >>= _) _ _ _; refine wpAny_bind (wpAny_tupleHeld_zip hz hT fun g1 z1 s1 => ?_); simp only [Bool.false_eq_true, if_false]
  refine wpAny_bind ?_; rw [← Array.forIn_toList]; simp only [List.forIn_cons, List.forIn_nil]; refine wpAny_bind (wpAny_bind (wpAny_holding ?_)); show wpAny _ _ (Builtin.SmallTypes.nextOf (.ref i1) >>= _) _ _ _
  have p1 := T1.mv _ _ _ _ h1 s1.extBut D.i1z D.l1z
  cases hx : f1 k1 with
  | none => exact wpAny_bind (T1.stop _ _ _ k1 _ hh p1 hx fun g2 e s2 he => hE g2 e (fun c o c1 c2 _ x => s2 _ _ c2 (s1.extBut _ _ c1 x)) he)
  | some x =>
    have hy : f2 k2 = none := hend.resolve_left (by rw [hx]; exact fun z => nomatch z)
    refine wpAny_bind (T1.go _ _ _ k1 x _ p1 hx fun g2 q1 s2 => wpAny_pure ?_)
    refine wpAny_pure ?_; refine wpAny_bind (wpAny_bind (wpAny_holding ?_)); show wpAny _ _ (Builtin.SmallTypes.nextOf (.ref i2) >>= _) _ _ _
    exact wpAny_bind (T2.stop _ _ _ k2 _ hh (T2.mv _ _ _ _ (T2.mv _ _ _ _ h2 s1.extBut D.i2z D.l2z) s2.extBut D.i12.symm D.l2i1) hy fun g3 e s3 he => hE g3 e (fun c o c1 c2 c3 x => s3 _ _ c3 (s2.extBut _ _ c2 (s1.extBut _ _ c1 x))) he)
theorem nextI {k1 k2 : Nat} {x y : Value} {Q : Option Value → Shared → Prop} (D : ZipApart z TI TO i1 i2 l1 l2) (T1 : Stp prog w i1 l1 S1 n1 f1) (T2 : Stp prog w i2 l2 S2 n2 f2) (hz : IsZipHeld s.heap z TI TO T f) (hT : s.heap.get? T = some oT) (hTI : IsPair s.heap TI (.ref i1) (.ref i2)) (h1 : S1 k1 s.heap) (h2 : S2 k2 s.heap) (hx : f1 k1 = some x) (hy : f2 k2 = some y)
    (hQ : ∀ h', IsZipHeld h' z TI TO T true → S1 (k1 + 1) h' → S2 (k2 + 1) h' → IsPair h' s.heap.objs.size x y → (∀ c o, c ≠ z → c ≠ i1 → c ≠ i2 → s.heap.get? c = some o → h'.get? c = some o) → Q (some (.ref s.heap.objs.size)) { s with heap := h' }) : wpAny (model prog w) A (pyNext (.ref z)) Q E s := by
  have ty : s.TypeIs (.ref z) "zip" := ⟨_, hz, rfl⟩
  unfold pyNext; exact wpAny_bind (wpAny_attempt (wpAny_callSpecial?_slot (name := Str.ofString "__next__") ty F.slot_zip_next (wpAny_call_entry F.slot_zip_next ty F.entry_zip_next (heldI D T1 T2 hz hT hTI h1 h2 hx hy fun h' b1 b2 b3 b4 b5 => wpAny_pure (hQ h' b1 b2 b3 b4 b5)) (F.args_zip_next_1 _))))
theorem nextE {k1 k2 : Nat} {Q : Option Value → Shared → Prop} (hh : A.handled = none) (D : ZipApart z TI TO i1 i2 l1 l2) (T1 : Stp prog w i1 l1 S1 n1 f1) (T2 : Stp prog w i2 l2 S2 n2 f2) (hz : IsZipHeld s.heap z TI TO T f) (hT : s.heap.get? T = some oT) (hTI : IsPair s.heap TI (.ref i1) (.ref i2)) (h1 : S1 k1 s.heap) (h2 : S2 k2 s.heap) (hend : f1 k1 = none ∨ f2 k2 = none)
    (hQ : ∀ h', (∀ c o, c ≠ z → c ≠ i1 → c ≠ i2 → s.heap.get? c = some o → h'.get? c = some o) → Q none { s with heap := h' }) : wpAny (model prog w) A (pyNext (.ref z)) Q E s := by
  have ty : s.TypeIs (.ref z) "zip" := ⟨_, hz, rfl⟩
  unfold pyNext; refine wpAny_bind (wpAny_attempt (wpAny_callSpecial?_slot (name := Str.ofString "__next__") ty F.slot_zip_next (wpAny_call_entry F.slot_zip_next ty F.entry_zip_next (heldE hh D T1 T2 hz hT hTI h1 h2 hend fun h' e hk he => ?_) (F.args_zip_next_1 _))))
  obtain ⟨o, ho, hc⟩ := he; exact wpAny_bind (wpAny_isInstance (T := "StopIteration") (b := true) ⟨o, ho, hc⟩ isSubtype_stop (wpAny_pure (hQ _ hk)))
end
section
variable {prog : Program} {w : World}
theorem mem7 {c z TI TO i1 i2 l1 l2 : Addr} (h : c ∈ [z, TI, TO, i1, i2, l1, l2]) : c = z ∨ c = TI ∨ c = TO ∨ c = i1 ∨ c = i2 ∨ c = l1 ∨ c = l2 := by simpa using h
/-- zip of a tuple at l1 and a list at l2, as pairs -/
theorem argTL (z TI TO i1 i2 l1 l2 : Addr) (D : ZipApart z TI TO i1 i2 l1 l2) (xs ys : Array Value) :
    PairArg prog w "zip" z [z, TI, TO, i1, i2, l1, l2] [z, TO, i1, i2] (min xs.size ys.size) (fun i k v => xs[i]? = some k ∧ ys[i]? = some v)
      (fun h => IsZip h z TI TO .none ∧ IsPair h TI (.ref i1) (.ref i2) ∧ (∃ a b, IsPair h TO a b) ∧ (h.IsTupleIter i1 l1 0 ∧ h.IsTuple l1 xs) ∧ (h.IsListIter i2 l2 0 ∧ h.IsList l2 ys)) where
  type := fun s ok => ⟨_, ok.1, rfl⟩
  notDict := by decide
  keep := fun h h' ⟨q1, q2, ⟨a, b, q3⟩, ⟨q4, q5⟩, q6, q7⟩ k => ⟨k _ _ q1, k _ _ q2, ⟨a, b, k _ _ q3⟩, ⟨q4.at fun o e => k _ o e, q5.at fun o e => k _ o e⟩, q6.at fun o e => k _ o e, q7.at fun o e => k _ o e⟩
  there := fun h ⟨q1, q2, ⟨a, c, q3⟩, ⟨⟨o1, q4, _⟩, ⟨o3, q5, _⟩⟩, ⟨o2, q6, _⟩, ⟨o4, q7, _⟩⟩ b hb => by
    rcases mem7 hb with e | e | e | e | e | e | e <;> rw [e]
    · exact ⟨_, q1⟩
    · exact ⟨_, q2⟩
    · exact ⟨_, q3⟩
    · exact ⟨_, q4⟩
    · exact ⟨_, q6⟩
    · exact ⟨_, q5⟩
    · exact ⟨_, q7⟩
  sub := fun b hb => by
    have : b = z ∨ b = TO ∨ b = i1 ∨ b = i2 := by simpa using hb
    rcases this with e | e | e | e <;> simp [e]
  noKeys := fun A s Q E hA ok h => getAttrOr_miss_zip ok.1 rfl rfl rfl zip_no_keys (by decide +kernel) hA h
  iter := fun A s d Q E hA ⟨q1, q2, ⟨a, b, q3⟩, q4, q5⟩ hd hdf h => by
    have ne : ∀ c ∈ [z, TI, TO, i1, i2, l1, l2], c ≠ d := fun c hc e => hdf (e ▸ hc)
    refine wpAny_pyIter_zip q1 (h z [z, TO, i1, i2] (fun i h => IsPair h TI (.ref i1) (.ref i2) ∧ (h.IsTupleIter i1 l1 i ∧ h.IsTuple l1 xs) ∧ (h.IsListIter i2 l2 i ∧ h.IsList l2 ys) ∧ ((IsZip h z TI TO .none ∧ ∃ a b, IsPair h TO a b) ∨ ∃ T f oT, IsZipHeld h z TI TO T f ∧ h.get? T = some oT ∧ T ≠ z ∧ T ≠ i1 ∧ T ≠ i2 ∧ T ≠ d)) s.heap s.toks ?_ ⟨q2, q4, q5, .inl ⟨q1, a, b, q3⟩⟩ (fun _ _ e => e) fun b hb => .inl hb)
    have T1 := stp_t (prog := prog) (w := w) (i := i1) (l := l1) (xs := xs)
    have T2 := stp_l (prog := prog) (w := w) (i := i2) (l := l2) (xs := ys)
    have out : ∀ {c : Addr}, c ∉ [z, TO, i1, i2] → c ≠ z ∧ c ≠ TO ∧ c ≠ i1 ∧ c ≠ i2 := fun hc => ⟨fun e => hc (by simp [e]), fun e => hc (by simp [e]), fun e => hc (by simp [e]), fun e => hc (by simp [e])⟩
    refine { off := fun hm => ?_, frame := fun i h1 h2 st k => ?_, item := fun i s1 Q1 E1 hi st hds hQ => ?_, done := fun s1 Q1 E1 st hQ => ?_ }
    · have : d = z ∨ d = TO ∨ d = i1 ∨ d = i2 := by simpa using hm
      rcases this with e | e | e | e
      · exact ne z (by simp) e.symm
      · exact ne TO (by simp) e.symm
      · exact ne i1 (by simp) e.symm
      · exact ne i2 (by simp) e.symm
    · obtain ⟨p, ⟨a1, a2⟩, ⟨a3, a4⟩, hz⟩ := st
      refine ⟨k _ _ (ne TI (by simp)) p, ⟨a1.at fun o e => k _ o (ne i1 (by simp)) e, a2.at fun o e => k _ o (ne l1 (by simp)) e⟩, ⟨a3.at fun o e => k _ o (ne i2 (by simp)) e, a4.at fun o e => k _ o (ne l2 (by simp)) e⟩, ?_⟩
      rcases hz with ⟨hz, a, b, hTO⟩ | ⟨T, f, oT, hz, hT, r1, r2, r3, r4⟩
      · exact .inl ⟨k _ _ (ne z (by simp)) hz, a, b, k _ _ (ne TO (by simp)) hTO⟩
      · exact .inr ⟨T, f, oT, k _ _ (ne z (by simp)) hz, k _ _ r4 hT, r1, r2, r3, r4⟩
    · obtain ⟨p, a1, a2, hz⟩ := st
      have ex := Array.getElem?_eq_getElem (Nat.lt_of_lt_of_le hi (Nat.min_le_left xs.size ys.size))
      have ey := Array.getElem?_eq_getElem (Nat.lt_of_lt_of_le hi (Nat.min_le_right xs.size ys.size))
      have lt : ∀ {c o}, s1.heap.get? c = some o → s1.heap.objs.size ≠ c := fun e => Nat.ne_of_gt (Heap.lt_size e)
      have n1 : s1.heap.objs.size ≠ i1 := let ⟨_, e, _⟩ := a1.1; lt e
      have n2 : s1.heap.objs.size ≠ i2 := let ⟨_, e, _⟩ := a2.1; lt e
      rcases hz with ⟨hz, a, b, hTO⟩ | ⟨T, f, oT, hz, hT, r1, r2, r3, r4⟩
      · refine pyNext_zipG_item D T1 T2 hz p hTO a1 a2 ex ey fun h' c1 c2 c3 c4 c5 c6 k => ?_
        exact hQ s1.heap.objs.size _ _ h' s1.toks ⟨ex, ey⟩ (.inl ⟨_, c5, rfl, _, rfl⟩) ⟨k _ _ D.TIz D.TITO D.TIi1 D.TIi2 p, c3, c4, .inr ⟨s1.heap.objs.size, false, _, c1, c5, lt hz, n1, n2, Nat.ne_of_gt hds⟩⟩ fun c o hc e => k c o (out hc).1 (out hc).2.1 (out hc).2.2.1 (out hc).2.2.2 e
      · refine nextI D T1 T2 hz hT p a1 a2 ex ey fun h' c1 c3 c4 c5 k => ?_
        exact hQ s1.heap.objs.size _ _ h' s1.toks ⟨ex, ey⟩ (.inl ⟨_, c5, rfl, _, rfl⟩) ⟨k _ _ D.TIz D.TIi1 D.TIi2 p, c3, c4, .inr ⟨T, true, oT, c1, k _ _ r1 r2 r3 hT, r1, r2, r3, r4⟩⟩ fun c o hc e => k c o (out hc).1 (out hc).2.2.1 (out hc).2.2.2 e
    · obtain ⟨p, a1, a2, hz⟩ := st
      have hend : xs[min xs.size ys.size]? = none ∨ ys[min xs.size ys.size]? = none := (Nat.le_total xs.size ys.size).imp (fun q => Array.getElem?_eq_none (by omega)) (fun q => Array.getElem?_eq_none (by omega))
      rcases hz with ⟨hz, a, b, hTO⟩ | ⟨T, f, oT, hz, hT, r1, r2, r3, r4⟩
      · exact pyNext_zipG_end hA D T1 T2 hz p hTO a1 a2 hend fun h' k => hQ h' s1.toks fun c o hc e => k c o (out hc).1 (out hc).2.1 (out hc).2.2.1 (out hc).2.2.2 e
      · exact nextE hA D T1 T2 hz hT p a1 a2 hend fun h' k => hQ h' s1.toks fun c o hc e => k c o (out hc).1 (out hc).2.2.1 (out hc).2.2.2 e
end
end Lx
namespace Lx
open PySem PySem.Spec PyProof.Rows L2
open PySem.Sem (wp)
def tDZip (K : PySem.W.Frag) (ta : TA) : TE := fun σ H Q => ta σ H fun vs H1 => ∃ (a b : Addr) (ns ms : List Int), vs = [.ref a, .ref b] ∧ SqT K H1 a (ns.map V.int) ∧ SqL K H1 b (ms.map V.int) ∧ ms.length = ns.length ∧ ns.Nodup ∧ ns.length ≤ 4000 ∧ ∀ p, H1 p = none → Q (.ref p) (upd H1 p (Ld.dI (ns.zip ms)))
theorem merge_new : ∀ (l acc : List (Int × Int)), ((acc ++ l).map (·.1)).Nodup → mergeK (acc.map fun p => ((Sum.inl p.1 : Key), V.int p.2)) (l.map fun p => ((Sum.inl p.1 : Key), V.int p.2)) = (acc ++ l).map fun p => ((Sum.inl p.1 : Key), V.int p.2)
  | [], acc, _ => by rw [List.append_nil]; rfl
  | p :: l, acc, h => by
    have hk : Ld.lk acc p.1 = none := by
      rw [List.map_append, List.nodup_append] at h
      unfold Ld.lk
      rw [Option.map_eq_none_iff, List.find?_eq_none]
      intro q hq
      have := h.2.2 q.1 (List.mem_map_of_mem hq) p.1 (by simp)
      simpa using this
    have ih := merge_new l (acc ++ [p]) (by rw [List.append_assoc]; exact h)
    have e : putK (acc.map fun p => ((Sum.inl p.1 : Key), V.int p.2)) (Sum.inl p.1) (V.int p.2) = (acc ++ [p]).map fun p => ((Sum.inl p.1 : Key), V.int p.2) := by
      rw [putK_new _ (by rw [Ld.lk_val, hk]; rfl), List.map_append]
      rfl
    show mergeK (putK (acc.map fun p => ((Sum.inl p.1 : Key), V.int p.2)) (Sum.inl p.1) (V.int p.2)) (l.map fun p => ((Sum.inl p.1 : Key), V.int p.2)) = _
    rw [e, ih, List.append_assoc]
    rfl
end Lx
namespace Lx
open PySem PySem.Spec PyProof.Rows L2
open PySem.Sem (wp)
theorem kv_zip {P : Program} {w : World} : ∀ {ns ms : List Int} {its its2 : List Value}, Vals (ns.map V.int) its → Vals (ms.map V.int) its2 → ms.length = ns.length →
    ∃ prs : List (Key × Value), KV ((ns.zip ms).map fun p => ((Sum.inl p.1 : Key), V.int p.2)) prs ∧ prs.length = its.length ∧ its2.length = its.length ∧ ∀ (i : Nat) (k v : Value), its[i]? = some k → its2[i]? = some v → ∃ key, prs[i]? = some (key, v) ∧ (mixKind P w).is key k = true
  | [], [], _, _, .nil, .nil, _ => ⟨[], .nil, rfl, rfl, fun i k v h => by simp at h⟩
  | n :: ns, m :: ms, _, _, .cons (b := u) r rs, .cons (b := u2) r2 rs2, h => by
    obtain ⟨prs, g1, g2, g3, g4⟩ := kv_zip (P := P) (w := w) rs rs2 (by simpa using h)
    refine ⟨(Sum.inl n, u2) :: prs, .cons ⟨rfl, r2⟩ g1, by simp [g2], by simp [g3], fun i k v h1 h2 => ?_⟩
    cases i with
    | zero =>
      cases h1
      cases h2
      exact ⟨_, rfl, kV_is (k := Sum.inl n) r⟩
    | succ i => exact g4 i k v h1 h2
  | [], _ :: _, _, _, _, _, h => by cases h
  | _ :: _, [], _, _, _, _, h => by cases h
theorem pe_dictZip {X : Cx} {e e2 : Expr} {ta : TA} {p p2 q pos : Pos} (hg : Gl X "dict") (hm : X.mg "dict" = none) (hg2 : Gl X "zip") (hm2 : X.mg "zip" = none) (ha : PA X [e, e2] ta) (hc : X.calm = true := by rfl)
    (hs : starEach [e, e2] X.env = (false, eval e X.env) :: starEach [e2] X.env := by rfl) (hpl : (backTo q (starEach [e2] X.env)).any (·.1) = false := by rfl) : PE X (.Call (.Name "dict" p) [.Call (.Name "zip" p2) [e, e2] [] q] [] pos) (tDZip X.K ta) := by
  refine ⟨fun pins s σ H Q I h => ?_⟩
  refine Call_ (ld_blt I hg hm boot_dict ?_)
  refine PyProof.Rows.callWith_type1 (PyProof.Rows.args_cons ?_ rfl) rfl rfl
  refine Call_ (ld_blt I hg2 hm2 PyProof.Rows.boot_zip (PyProof.Rows.callWith_type1 (thn (ha.run q pins s σ H _ I h) fun us s1 ⟨vs, H1, I1, r1, q1⟩ => ?_) hs hpl))
  obtain ⟨a, b, ns, ms, ex, hqx, hqy, hlen, hnd, hsz, q1⟩ := q1; subst ex
  cases r1 with
  | cons r rr =>
    cases rr with
    | cons r' rr =>
      cases rr; cases r; cases r'
      obtain ⟨its, rv, p1, _⟩ := I1.tuple hqx; obtain ⟨its2, rv2, p2', _⟩ := I1.list hqy; obtain ⟨o1, ho1, _⟩ := id p1
      obtain ⟨prs, kv, l1, l2, at_⟩ := kv_zip (P := X.prog) (w := X.w) rv rv2 hlen
      have li : its.length = ns.length := by rw [← rv.length, List.length_map]
      have D := PySem.W.ktu_apart s1.heap.objs.size a b (Heap.lt_size ho1) p2'.lt
      refine call_zipG (begins_tuple a its.toArray) (begins_list b its2.toArray) (fun h z => Heap.IsList.push z _) p1 p2'.isList fun h' hz hTI hTO h1 h2 hk => PyProof.Rows.args_nil ?_
      have t1 : h'.IsTuple a its.toArray := let ⟨o, e, r⟩ := p1; ⟨o, hk _ _ e, r⟩
      have t2 : h'.IsList b its2.toArray := let ⟨o, e, r⟩ := p2'.isList; ⟨o, hk _ _ e, r⟩
      have mn : min its.toArray.size its2.toArray.size = prs.length := by simp only [List.size_toArray]; omega
      refine PySem.call_dict_pairs (knd := mixKind X.prog X.w) (kvs := prs) (argTL _ _ _ _ _ a b D its.toArray its2.toArray) (I1.ok.hd hc) ⟨hz, hTI, ⟨_, _, hTO⟩, ⟨⟨_, h1, rfl, rfl⟩, t1⟩, ⟨⟨_, h2, rfl, rfl⟩, t2⟩⟩ ⟨mn.symm, fun i k v ⟨g1, g2⟩ => at_ i k v (by simpa using g1) (by simpa using g2)⟩ (by rw [mn, l1, li, sizeLine_eq]; omega) fun h'' tk hd' k => ?_
      have hle : s1.heap.objs.size ≤ h'.objs.size := Nat.le_trans (Nat.le_add_right _ 4) (Nat.le_of_lt (Heap.lt_size hz))
      have hm0 : (h'.objs.size == sysModules) = false := beq_eq_false_iff_ne.mpr (Nat.ne_of_gt (Nat.lt_of_lt_of_le I1.big hle))
      have em := merge_new (ns.zip ms) [] (by
        rw [List.nil_append, List.map_fst_zip (by omega)]
        exact hnd)
      rw [List.nil_append] at em
      have nz : ∀ c o, s1.heap.get? c = some o → c ∉ [s1.heap.objs.size + 4, s1.heap.objs.size + 3, s1.heap.objs.size, s1.heap.objs.size + 1] := fun c o e hcm => by
        have hlt := Heap.lt_size e
        simp only [List.mem_cons, List.not_mem_nil, or_false] at hcm
        rcases hcm with g | g | g | g
        · rw [g] at hlt; exact absurd hlt (Nat.not_lt.mpr (Nat.le_add_right _ _))
        · rw [g] at hlt; exact absurd hlt (Nat.not_lt.mpr (Nat.le_add_right _ _))
        · rw [g] at hlt; exact absurd hlt (Nat.lt_irrefl _)
        · rw [g] at hlt; exact absurd hlt (Nat.not_lt.mpr (Nat.le_add_right _ _))
      refine ⟨.ref h'.objs.size, upd H1 h'.objs.size (Ld.dI (ns.zip ms)), I1.laid (t' := tk) (fun c o e => k c o (nz c o e) (hk c o e)) hle (show ObjOk X.prog X.w _ _ _ (Ld.dI (ns.zip ms)) from ⟨?_, hm0, merged [] prs, ?_, hd'⟩), rfl, q1 _ (I1.hok.fresh hle)⟩
      · rw [List.length_map, List.length_zip, sizeLine_eq]
        omega
      · have := KV.merge kv (kvs := []) (vs := []) .nil
        rw [show mergeK [] ((ns.zip ms).map fun p => ((Sum.inl p.1 : Key), V.int p.2)) = (ns.zip ms).map fun p => ((Sum.inl p.1 : Key), V.int p.2) from em] at this
        exact this
end Lx
namespace Ld
open PySem PySem.Spec PyProof.Rows L2 Lx
theorem ve_dictZip {K : PySem.W.Frag} {Γ : List Cell} {Θ : List Tmp} {ta tb : TE} {Q : List Cell → Tmp → Prop} (h : VE K Γ Θ ta fun Γ1 x => VE K Γ1 (x :: Θ) tb fun Γ2 y => ∃ ns ms : List Int, x = .dt (.tuple (ns.map .int)) ∧ rd Γ2 y (.list (ms.map .int)) ∧ ms.length = ns.length ∧ ns.Nodup ∧ ns.length ≤ 4000 ∧ Q Γ2 (.ob (dI (ns.zip ms)))) :
    VE K Γ Θ (tDZip K (tCons ta (tCons tb tNil))) Q := fun L S0 σ τ S Qv E k => h L S0 σ τ S _ E fun Γ1 S1 vx x E1 h1 => h1 L S0 σ _ S1 _ E1 fun Γ2 S2 vy y E2 ⟨ns, ms, ex, hy, hl, hn, hz, q⟩ => by
  subst ex
  obtain ⟨b, eb, hb⟩ := intsL E2 hy
  obtain ⟨a, o, xs, ea, _, hx, p⟩ := dp_tup E2.pop.dt
  rw [dpa_ints p] at hx
  exact ⟨a, b, ns, ms, by rw [ea, eb], sqt_f (E2.sub _ _ hx), hb, hl, hn, hz, fun p hp => k Γ2 _ _ _ (E2.pop.pop.newOb hp) q⟩
end Ld
set_option Elab.async false
set_option linter.all false
set_option maxRecDepth 100000
namespace Sh
open PySem PySem.Spec PyProof.Rows L2 Lx Ld
/-! ### lettings: none is "on", some n is n let off -/
structure LSt where
  i : Nat
  S : List Int
  O : List Int
def stepF (N : List Int) (b : Nat) (st : LSt) : Option Int → Option LSt
  | none => if st.S.length ≤ b then (N[st.i]?).map fun x => ⟨st.i + 1, st.S ++ [x], st.O⟩ else none
  | some n => if n ∈ st.S then some ⟨st.i, st.S.erase n, st.O ++ [n]⟩ else none
def runF (N : List Int) (b : Nat) (W : List (Option Int)) : Option LSt := W.foldl (fun acc s => acc.bind fun st => stepF N b st s) (some ⟨0, [], []⟩)
theorem runF_snoc (N : List Int) (b : Nat) (W : List (Option Int)) (s : Option Int) : runF N b (W ++ [s]) = (runF N b W).bind fun st => stepF N b st s := by unfold runF; rw [List.foldl_append]; rfl
theorem runF_pre {N : List Int} {b : Nat} {W : List (Option Int)} {s : Option Int} {st : LSt} (h : runF N b (W ++ [s]) = some st) : ∃ st0, runF N b W = some st0 ∧ stepF N b st0 s = some st := by
  rw [runF_snoc] at h
  cases e : runF N b W with
  | none => rw [e] at h; cases h
  | some st0 => rw [e] at h; exact ⟨st0, rfl, h⟩
structure LOk (N : List Int) (b : Nat) (W : List (Option Int)) (st : LSt) : Prop where
  le : st.i ≤ N.length
  perm : (st.S ++ st.O).Perm (N.take st.i)
  out : st.O = W.filterMap id
  len : W.length = st.i + st.O.length
  few : st.S.length ≤ b + 1
  gain : ∀ j x, j < st.i → N[j]? = some x → ∃ O1 O2, st.O = O1 ++ O2 ∧ x ∉ O1 ∧ cntG (N.take j) x ≤ b + cntG O1 x
theorem lok {N : List Int} {b : Nat} (hN : N.Nodup) : ∀ (W : List (Option Int)) {st : LSt}, runF N b W = some st → LOk N b W st := fun W => by
  have h : ∀ (n : Nat) (W : List (Option Int)) {st : LSt}, W.length = n → runF N b W = some st → LOk N b W st := by
    intro n
    induction n with
    | zero =>
      intro W st hl h
      rw [List.length_eq_zero_iff.mp hl] at h ⊢
      cases h
      exact ⟨Nat.zero_le _, .refl _, rfl, rfl, Nat.zero_le _, fun j x h => by cases h⟩
    | succ n ih =>
      intro W st hl h
      obtain ⟨W', s, rfl⟩ : ∃ W' s, W = W' ++ [s] := ⟨W.dropLast, W.getLast (List.ne_nil_of_length_pos (by omega)), (List.dropLast_concat_getLast _).symm⟩
      simp only [List.length_append, List.length_singleton] at hl
      obtain ⟨st0, e0, hs⟩ := runF_pre h
      have ok := ih W' (by omega) e0
      cases s with
      | none =>
        unfold stepF at hs
        by_cases hb : st0.S.length ≤ b
        · simp only [if_pos hb] at hs
          obtain ⟨x, hx, rfl⟩ := Option.map_eq_some_iff.mp hs
          have hi := (List.getElem?_eq_some_iff.mp hx).1
          refine ⟨by show st0.i + 1 ≤ _; omega, ?_, ?_, ?_, ?_, fun j y hj hy => ?_⟩
          · show (st0.S ++ [x] ++ st0.O).Perm (N.take (st0.i + 1))
            rw [take_snoc hx]
            have := (ok.perm.append_right [x])
            refine List.Perm.trans ?_ this
            rw [List.append_assoc, List.append_assoc]
            exact List.Perm.append_left _ List.perm_append_comm
          · show st0.O = _
            rw [List.filterMap_append, ok.out]
            simp
          · show (W' ++ [none]).length = st0.i + 1 + st0.O.length
            rw [List.length_append, ok.len]
            simp only [List.length_singleton]
            omega
          · show (st0.S ++ [x]).length ≤ b + 1
            simp
            omega
          · by_cases hj2 : j < st0.i
            · exact ok.gain j y hj2 hy
            · have : j = st0.i := by have : j < st0.i + 1 := hj; omega
              subst this
              rw [hx] at hy
              cases hy
              refine ⟨st0.O, [], by rw [List.append_nil], fun z => ?_, ?_⟩
              · exact nd_take hN hx (ok.perm.mem_iff.mp (List.mem_append_right _ z))
              · rw [← cntG_perm ok.perm, cntG_app]
                have : cntG st0.S x ≤ st0.S.length := List.length_filter_le _ _
                omega
        · simp only [if_neg hb] at hs
          cases hs
      | some m =>
        unfold stepF at hs
        by_cases hm : m ∈ st0.S
        · simp only [if_pos hm] at hs
          cases hs
          refine ⟨ok.le, ?_, ?_, ?_, ?_, fun j y hj hy => ?_⟩
          · show (st0.S.erase m ++ (st0.O ++ [m])).Perm (N.take st0.i)
            refine List.Perm.trans ?_ ok.perm
            rw [← List.append_assoc]
            refine (List.perm_append_comm (l₁ := st0.S.erase m ++ st0.O) (l₂ := [m])).trans ?_
            show (m :: (st0.S.erase m ++ st0.O)).Perm _
            exact ((List.perm_cons_erase hm).symm.append_right st0.O)
          · show st0.O ++ [m] = _
            rw [List.filterMap_append, ok.out]
            simp
          · show (W' ++ [some m]).length = st0.i + (st0.O ++ [m]).length
            rw [List.length_append, List.length_append, ok.len]
            simp only [List.length_singleton]
            omega
          · show (st0.S.erase m).length ≤ b + 1
            rw [List.length_erase_of_mem hm]
            have := ok.few
            omega
          · obtain ⟨O1, O2, e, hn, hc⟩ := ok.gain j y hj hy
            exact ⟨O1, O2 ++ [m], by show st0.O ++ [m] = _; rw [e, List.append_assoc], hn, hc⟩
        · simp only [if_neg hm] at hs
          cases hs
  exact fun {st} h' => h _ W rfl h'
/-- a whole letting -/
structure Whole (N : List Int) (b : Nat) (W : List (Option Int)) (O : List Int) : Prop where
  run : runF N b W = some ⟨N.length, [], O⟩
theorem Whole.perm {N O : List Int} {b : Nat} {W : List (Option Int)} (hN : N.Nodup) (h : Whole N b W O) : O.Perm N := by
  have := (lok hN W h.run).perm
  rwa [List.nil_append, List.take_length] at this
theorem Whole.len {N O : List Int} {b : Nat} {W : List (Option Int)} (hN : N.Nodup) (h : Whole N b W O) : W.length = 2 * N.length := by
  have h1 := (lok hN W h.run).len
  have h2 := (h.perm hN).length_eq
  dsimp only at h1
  omega
theorem Whole.out {N O : List Int} {b : Nat} {W : List (Option Int)} (hN : N.Nodup) (h : Whole N b W O) : O = W.filterMap id := (lok hN W h.run).out
theorem Whole.gain {N O : List Int} {b : Nat} {W : List (Option Int)} (hN : N.Nodup) (h : Whole N b W O) {x : Int} (hx : x ∈ N) : gc N x ≤ b + gc O x := by
  obtain ⟨j, hj⟩ := List.getElem?_of_mem hx
  obtain ⟨O1, O2, e, hn, hc⟩ := (lok hN W h.run).gain j x (List.getElem?_eq_some_iff.mp hj).1 hj
  dsimp only at e
  rw [gc_take hN hj, e, gc_out hn]
  omega
end Sh
namespace Sh
open PySem PySem.Spec PyProof.Rows L2 Lx Ld
/-! the shelf's own way -/
theorem lk_zip : ∀ {N M : List Int}, N.Nodup → ∀ {i : Nat} {x v : Int}, N[i]? = some x → M[i]? = some v → lk (N.zip M) x = some v
  | a :: N, m :: M, h, 0, x, v, h1, h2 => by
    cases h1
    cases h2
    simp [lk]
  | a :: N, m :: M, h, i + 1, x, v, h1, h2 => by
    rw [List.nodup_cons] at h
    have hxN : x ∈ N := List.mem_of_getElem? (by simpa using h1)
    have hax : ¬ a = x := fun e => h.1 (e ▸ hxN)
    have ih := lk_zip h.2 (i := i) (x := x) (v := v) (by simpa using h1) (by simpa using h2)
    unfold lk at ih ⊢
    rw [List.zip_cons_cons, List.find?_cons]
    simpa [hax] using ih
theorem lk_gr {O : List Int} (h : O.Nodup) {x : Int} (hx : x ∈ O) : lk (O.zip (gr O)) x = some (gc O x : Int) := lk_zip h (by
  have hi := List.idxOf_lt_length_iff.mpr hx
  rw [List.getElem?_eq_getElem hi]
  simp) (gr_idx hx)
end Sh
namespace Ld
open PySem PySem.Spec PyProof.Rows L2 Lx
section
variable {K : PySem.W.Frag} {Γ : List Cell} {Θ : List Tmp}
/-- xs.pop(0) -/
theorem ve_pop0 {i : Nat} {te : TE} {Q : List Cell → Tmp → Prop} (h0 : ∃ ds, IsLs Γ i ds) (h : VE K Γ Θ te fun Γ1 y => ∃ (d : Dat) (ds : List Dat), y = .dt (.int 0) ∧ IsLs Γ1 i (d :: ds) ∧ ds.length < sizeLine ∧ Q (putC Γ1 i ds) (.dt d)) : VE K Γ Θ (tBM K "list" rPopAt (tVar i) (tCons te tNil)) Q := fun L S0 σ τ S Qv E k => by
  obtain ⟨ds0, c0, hc0, hl0⟩ := h0
  obtain ⟨a, ea, nb, us, hu, pu⟩ := E.own hc0 hl0
  refine ⟨_, ea, .inl ⟨rfl, us, .of hu⟩, h L S0 σ τ S _ E fun Γ1 S1 v y E1 ⟨d, ds, ey, ⟨c, hc, hl⟩, hz, q⟩ => ?_⟩
  subst ey
  obtain ⟨a', vs, ea', hv, pv, put⟩ := E1.pop.mutSlot hc hl
  rw [ea] at ea'
  cases ea'
  cases pv with
  | cons p1 p2 =>
    rename_i v0 vs0
    refine ⟨a, v0 :: vs0, 0, 0, v0, rfl, by rw [dp_int E1.dt], hv, by decide, by decide, ?_, rfl, ?_⟩
    · simp [seqIndex?]
    · have E2 := put vs0 ds p2
      rw [putC_eq hc] at q
      exact k _ _ _ _ (E2.push p1) q
theorem ss_augI0 {i : Nat} {te : TE} {f : Int → Int → Int} {R : DE} (h0 : ∃ m : Int, Γ[i]? = some (.dt (.int m))) (h : ∀ ss, VE K Γ (srcT ss) te fun Γ1 y => ∃ m n : Int, Γ1[i]? = some (.dt (.int m)) ∧ y = .dt (.int n) ∧ R.nx (Γ1.set i (.dt (.int (f m n))))) :
    VSs K Γ (tAug i te (rI0 fun i j => .int (f i j))) R := fun ss L S0 σ τ S D E kn kr kb kc => by
  obtain ⟨m0, h0⟩ := h0
  obtain ⟨w, g1, g2⟩ := id E.ok
  obtain ⟨v, ev, qv⟩ := g1 i _ h0
  refine ⟨v, ev, h ss L S0 σ τ S _ E fun Γ1 S1 vy y E1 ⟨m, n, hi, ey, q⟩ => ?_⟩
  subst ey
  obtain ⟨w', g1', g2'⟩ := id E1.ok
  obtain ⟨v', ev', qv'⟩ := g1' i _ hi
  rw [ev] at ev'
  cases ev'
  have e1 : v = .int m := dp_int qv'
  have e2 : vy = .int n := dp_int E1.dt
  exact ⟨m, n, e1, e2, kn _ _ S1 (E1.pop.setDt nb_src (.int _)) q⟩
end
end Ld
namespace Sh
open PySem PySem.Spec PyProof.Rows L2 Lx Ld
end Sh
namespace Sh
open PySem PySem.Spec PyProof.Rows L2 Lx Ld
end Sh
namespace Ld
theorem sto_ob {Γ : List Cell} {i : Nat} {p : L2.HO} {Q : List Cell → Prop} (q : Q (Γ.set i (.ob p))) : Sto Γ i Q (.ob p) := q
end Ld
namespace Ld
open PySem PySem.Spec PyProof.Rows L2 Lx
theorem st1_nbr {Γ : List Cell} {i : Nat} {c : Tmp} {Γ' : List Cell} (h : St1 Γ i c = some Γ') : ∀ k, c ≠ .br k := fun k z => by subst z; cases h
/-- a, b, c, d = e, f, g, h -/
theorem ss_asg4 {K : PySem.W.Frag} {Γ : List Cell} {i j k l : Nat} {ta tb tc td : TE} {R : DE} (hd : i ≠ j ∧ i ≠ k ∧ i ≠ l ∧ j ≠ k ∧ j ≠ l ∧ k ≠ l) (h : ∀ ss, VE K Γ (srcT ss) ta fun Γ1 x => VE K Γ1 (x :: srcT ss) tb fun Γ2 y => VE K Γ2 (y :: x :: srcT ss) tc fun Γ3 z => VE K Γ3 (z :: y :: x :: srcT ss) td fun Γ4 u =>
      ∃ Γ5 Γ6 Γ7 Γ8, St1 Γ4 l u = some Γ5 ∧ St1 Γ5 k z = some Γ6 ∧ St1 Γ6 j y = some Γ7 ∧ St1 Γ7 i x = some Γ8 ∧ R.nx Γ8) :
    VSs K Γ (tAsg (tTupF (tCons ta (tCons tb (tCons tc (tCons td tNil))))) (gTup K 4 (gCons (gName i) (gCons (gName j) (gCons (gName k) (gCons (gName l) gNil)))))) R := fun ss L S0 σ τ S D E kn kr kb kc =>
  h ss L S0 σ τ S _ E fun Γ1 S1 u x E1 h1 => h1 L S0 σ _ S1 _ E1 fun Γ2 S2 v y E2 h2 => h2 L S0 σ _ S2 _ E2 fun Γ3 S3 w z E3 h3 => h3 L S0 σ _ S3 _ E3 fun Γ4 S4 r t E4 ⟨Γ5, Γ6, Γ7, Γ8, e5, e6, e7, e8, q⟩ => by
    refine ⟨by show 4 ≤ sizeLine; decide +kernel, fun p o hd0 hp => ?_⟩
    have E5 := E4.grow (gr_new (o := .frz o (.tup [u, v, w, r])) hp E4.sub) (sub_new hp E4.sub)
    have nx := st1_nbr e8
    have ny := st1_nbr e7
    have nz := st1_nbr e6
    have E6 := E5.st1 (fun t ht => by
      rcases List.mem_cons.mp ht with rfl | ht
      · exact nz l
      rcases List.mem_cons.mp ht with rfl | ht
      · exact ny l
      rcases List.mem_cons.mp ht with rfl | ht
      · exact nx l
      · exact nb_src t ht) e5
    have E7 := E6.st1 (fun t ht => by
      rcases List.mem_cons.mp ht with rfl | ht
      · exact ny k
      rcases List.mem_cons.mp ht with rfl | ht
      · exact nx k
      · exact nb_src t ht) e6
    have E8 := E7.st1 (fun t ht => by
      rcases List.mem_cons.mp ht with rfl | ht
      · exact nx j
      · exact nb_src t ht) e7
    have E9 := E8.st1 nb_src e8
    obtain ⟨d1, d2, d3, d4, d5, d6⟩ := hd
    have es : ((((σ.set l (some r)).set k (some w)).set j (some v)).set i (some u)) = ((((σ.set i (some u)).set j (some v)).set k (some w)).set l (some r)) := by
      rw [List.set_comm _ _ d1.symm, List.set_comm _ _ d2.symm, List.set_comm _ _ d3.symm, List.set_comm _ _ d4.symm, List.set_comm _ _ d5.symm, List.set_comm _ _ d6.symm]
    rw [es] at E9
    exact ⟨p, _, rfl, sqt_f upd_same, rfl, _, _, rfl, _, _, rfl, _, _, rfl, _, _, rfl, rfl, kn _ _ _ E9 q⟩
end Ld
namespace Ld
open PySem PySem.Spec PyProof.Rows L2 Lx
end Ld
namespace Sh
open PySem PySem.Spec PyProof.Rows L2 Lx Ld
end Sh
namespace Ld
open PySem PySem.Spec PyProof.Rows L2 Lx
end Ld
set_option Elab.async false
set_option linter.all false
set_option maxRecDepth 100000
namespace Ld
open PySem PySem.Spec PyProof.Rows L2 Lx
section
variable {K : PySem.W.Frag} {Γ : List Cell} {Θ : List Tmp}
theorem argsOk_dts {B : Hp} : ∀ {vs : List V} {ds : List Dat}, DqAll B vs ds → ArgsOk K B vs (ds.map Arg.dt)
  | _, _, .nil => .nil
  | _, _, .cons h t => .cons h (argsOk_dts t)
theorem argsOk_apd {B : Hp} : ∀ {vs ws : List V} {as bs : List Arg}, ArgsOk K B vs as → ArgsOk K B ws bs → ArgsOk K B (vs ++ ws) (as ++ bs)
  | _, _, _, _, .nil, h => h
  | _, _, _, _, .cons h t, g => .cons h (argsOk_apd t g)
theorem dts_app : ∀ (ds : List Dat) {as : List Arg} {es : List Dat}, dts as = some es → dts (ds.map Arg.dt ++ as) = some (ds ++ es)
  | [], _, _, h => h
  | d :: ds, as, es, h => by show (dts (ds.map Arg.dt ++ as)).map (d :: ·) = _; rw [dts_app ds h]; rfl
theorem Env.pushD {L : Addr → Prop} {S0 S : Hs} {σ : L2.St} {τ : List V} : ∀ {xs : List V} {ds : List Dat}, DqAll S.b xs ds → Env K L S0 Γ Θ σ τ S → Env K L S0 Γ (ds.map Tmp.dt ++ Θ) σ (xs ++ τ) S
  | _, _, .nil, E => E
  | _, _, .cons h t, E => (Env.pushD t E).push h
theorem Env.popD {L : Addr → Prop} {S0 S : Hs} {σ : L2.St} {τ : List V} : ∀ {xs : List V} {ds : List Dat}, xs.length = ds.length → Env K L S0 Γ (ds.map Tmp.dt ++ Θ) σ (xs ++ τ) S → DqAll S.b xs ds ∧ Env K L S0 Γ Θ σ τ S
  | [], [], _, E => ⟨.nil, E⟩
  | _ :: xs, _ :: ds, h, E => by
    have E' : Env K L S0 Γ (.dt _ :: (ds.map Tmp.dt ++ Θ)) σ (_ :: (xs ++ τ)) S := E
    obtain ⟨p, E2⟩ := Env.popD (xs := xs) (ds := ds) (by simpa using h) E'.pop
    exact ⟨.cons E'.dt p, E2⟩
  | [], _ :: _, h, _ => nomatch h
  | _ :: _, [], h, _ => nomatch h
/-- *e ahead of further items -/
theorem vax_star {te : TE} {t : TA} {Q : List Cell → List Arg → Prop} (h : VE K Γ Θ te fun Γ1 x => ∃ ds, x = .dt (.list ds) ∧ VAX K Γ1 (ds.map Tmp.dt ++ Θ) t fun Γ2 as => Q Γ2 (ds.map Arg.dt ++ as)) : VAX K Γ Θ (StX.tStar K te t) Q := fun L S0 σ τ S Qv E k =>
  h L S0 σ τ S _ E fun Γ1 S1 v x E1 ⟨ds, ex, h1⟩ => by
    subst ex
    obtain ⟨a, xs, ea, hx, p⟩ := dp_list E1.dt
    subst ea
    refine ⟨a, xs, rfl, .inr (E1.sub.seq (.inl (.of hx))), h1 L S0 σ _ S1 _ (E1.pop.pushD p) fun Γ2 S2 vs as E2 p2 q => ?_⟩
    obtain ⟨pd, E3⟩ := E2.popD p.len
    exact k Γ2 S2 _ _ E3 (argsOk_apd (argsOk_dts pd) p2) q
end
section
variable {K : PySem.W.Frag} {Γ : List Cell} {Θ : List Tmp}
theorem dqa_rg {B : Hp} (a : Int) : ∀ (l : List Nat), DqAll B (l.map fun i => V.int (a + (i : Nat))) (l.map fun i => PyData.int (a + (i : Nat)))
  | [] => .nil
  | _ :: l => .cons (.int _) (dqa_rg a l)
/-- list(range(n)) -/
theorem ve_lstRg1 {te : TE} {Q : List Cell → Tmp → Prop} (h : VE K Γ Θ te fun Γ1 x => ∃ n : Nat, x = .dt (.int n) ∧ n ≤ 16777216 ∧ Q Γ1 (.fr ((List.range n).map fun i => .int (i : Nat)))) : VE K Γ Θ (tLstRg (tRg1 te)) Q := fun L S0 σ τ S Qv E k =>
  h L S0 σ τ S _ E fun Γ1 S1 v x E1 ⟨n, ex, hn, q⟩ => by
    subst ex
    refine ⟨(n : Int), dp_int E1.dt, RgOk.of_le (by omega) (by omega) (by omega) (by omega), fun q0 hq => ?_⟩
    have e : (List.range n).map (fun i : Nat => PyData.int (i : Nat)) = (List.range ((n : Int) - 0).toNat).map fun i : Nat => PyData.int (0 + (i : Nat)) := by
      rw [show ((n : Int) - 0).toNat = n by omega]
      exact List.map_congr_left fun i _ => by rw [Int.zero_add]
    rw [e] at q
    exact k Γ1 _ _ _ (E1.pop.newLst hq (dqa_rg 0 _)) q
/-- list(range(a, b)) -/
theorem ve_lstRg2 {ta tb : TE} {Q : List Cell → Tmp → Prop} (h : VE K Γ Θ ta fun Γ1 x => VE K Γ1 (x :: Θ) tb fun Γ2 y => ∃ a b : Nat, x = .dt (.int a) ∧ y = .dt (.int b) ∧ a ≤ 16777216 ∧ b ≤ 16777216 ∧ Q Γ2 (.fr ((List.range (b - a)).map fun i => .int ((a + i : Nat))))) : VE K Γ Θ (tLstRg (tRg2 ta tb)) Q := fun L S0 σ τ S Qv E k =>
  h L S0 σ τ S _ E fun Γ1 S1 v x E1 h1 => h1 L S0 σ _ S1 _ E1 fun Γ2 S2 u y E2 ⟨a, b, ex, ey, ha, hb, q⟩ => by
    subst ex ey
    refine ⟨(a : Int), (b : Int), dp_int E2.pop.dt, dp_int E2.dt, RgOk.of_le (by omega) (by omega) (by omega) (by omega), fun q0 hq => ?_⟩
    have e : (List.range (b - a)).map (fun i : Nat => PyData.int ((a + i : Nat))) = (List.range ((b : Int) - (a : Int)).toNat).map fun i : Nat => PyData.int ((a : Int) + (i : Nat)) := by
      rw [show ((b : Int) - (a : Int)).toNat = b - a by omega]
      exact List.map_congr_left fun i _ => by rw [Int.natCast_add]
    rw [e] at q
    exact k Γ2 _ _ _ (E2.pop.pop.newLst hq (dqa_rg _ _)) q
end
section
variable {X : Cx} {K : PySem.W.Frag}
theorem pa_starK {e : Expr} {es : List Expr} {te : TE} {t : TA} {p : Pos} (eK : X.K = K) (he : PE X e te) (hr : PA X es t) (hs : starEach (.Starred e p :: es) X.env = (true, eval e X.env) :: starEach es X.env := by rfl) : PA X (.Starred e p :: es) (StX.tStar K te t) := eK ▸ StX.pa_star he hr hs
end
end Ld
namespace Sh
open PySem PySem.Spec PyProof.Rows L2 Lx Ld
/-! rows ahead -/
/-- the counts a number can have ahead, by its count, its rank, the places -/
def canL (c r b : Nat) : List Int := if c = 0 then (List.range (min r b + 1)).map Int.ofNat else if c + b ≤ r then [((c + b : Nat) : Int)] else []
theorem canL_len {c r b : Nat} : (canL c r b).length ≤ b + 1 := by
  unfold canL
  by_cases h1 : c = 0
  · rw [if_pos h1, List.length_map, List.length_range]; omega
  · rw [if_neg h1]
    by_cases h2 : c + b ≤ r
    · rw [if_pos h2]; simp
    · rw [if_neg h2]; simp
theorem gc_len {N : List Int} {x : Int} : gc N x ≤ N.length := by
  unfold gc cntG
  refine Nat.le_trans (List.length_filter_le _ _) ?_
  rw [← take_idx, List.length_take]
  omega
def cansA (N : List Int) (b : Nat) : List (List Int) := (dsc N).zipIdx.map fun q => canL (gc N q.1) q.2 b
def manyA (N : List Int) (b : Nat) : Nat := (cansA N b).foldl (fun m l => m * l.length) 1
end Sh
set_option Elab.async false
set_option linter.all false
set_option maxRecDepth 100000
namespace Ld
open PySem PySem.Spec PyProof.Rows L2 Lx
open PySem.W (AllAlike Sortable dataLe EachIs sorted_data)
def rSortedD (K : PySem.W.Frag) : List V → Hp → VK → Prop := fun vs H Q => ∃ (a : Addr) (xs : List V) (ds : List PyData), vs = [V.ref a] ∧ SqL K H a xs ∧ xs.length = ds.length ∧ (∀ p ∈ xs.zip ds, Dp K H p.1 p.2) ∧ AllAlike ds ∧ Sortable ds ∧ (∀ d ∈ ds, d.depth ≤ 60) ∧
  ∀ p, H p = none → Q (.ref p) (upd H p (.lst (((xs.zip ds).mergeSort (dataLe false Prod.snd)).map Prod.fst)))
theorem each_zip {R : Value → V × PyData → Prop} : ∀ {xs : List V} {its : List Value} {ds : List PyData}, Vals xs its → xs.length = ds.length → (∀ x v d, (x, d) ∈ xs.zip ds → RelV x v → R v (x, d)) → EachIs R its (xs.zip ds)
  | [], _, [], r, _, _ => by cases r; exact .nil
  | _ :: _, _, _ :: _, .cons r t, h, f => .cons (f _ _ _ (by simp) r) (each_zip t (by simpa using h) fun x v d hm hr => f x v d (by rw [List.zip_cons_cons]; exact List.mem_cons_of_mem _ hm) hr)
  | [], _, _ :: _, _, h, _ => nomatch h
  | _ :: _, _, [], _, h, _ => nomatch h
theorem vals_each : ∀ {out : List Value} {bs : List (V × PyData)}, EachIs (fun v b => RelV b.1 v) out bs → Vals (bs.map Prod.fst) out
  | _, _, .nil => .nil
  | _, _, .cons h t => .cons h (vals_each t)
theorem cr_sortedD {X : Cx} (hu : X.A.units + 64 < cLine) : CallR X (.builtin "sorted") (rSortedD X.K) := by
  intro pins s σ H vs us Q I r h
  obtain ⟨a, xs, ds, rfl, hs, hl, hp, ha, hk, hd, q⟩ := h
  obtain rfl := Vals.ref1 r
  obtain ⟨its, rv, pl, hz⟩ := I.list hs
  have em : (xs.zip ds).map Prod.snd = ds := List.map_snd_zip (by omega)
  have hzl : (xs.zip ds).length = xs.length := by rw [List.length_zip]; omega
  refine sorted_data (β := V × PyData) (vs := its) (bs := xs.zip ds) (enc := Prod.snd) (R := fun v b => RelV b.1 v) pl.isList (each_zip rv hl fun x v d _ hr => hr) (each_zip rv hl fun x v d hm hr => Dp.reads I d x v (hp _ hm) hr) (by rw [em]; exact ha) (by rw [em]; exact hk) (by rw [hzl]; omega) (fun b hb => ?_) fun out h1 h2 => ?_
  · have := hd b.2 (List.of_mem_zip hb).2
    omega
  · obtain ⟨ep, he'⟩ := PyProof.Rows.sortedAll_at s.heap its out.toArray
    have hlen : (((xs.zip ds).mergeSort (dataLe false Prod.snd)).map Prod.fst).length ≤ sizeLine := by
      rw [List.length_map, List.length_mergeSort, hzl]
      omega
    have e0 : (out.toArray.toList).toArray = out.toArray := by rw [Array.toArray_toList]
    exact ⟨.ref _, upd H (s.heap.objs.size + 1) (.lst (((xs.zip ds).mergeSort (dataLe false Prod.snd)).map Prod.fst)), I.laid (t' := s.toks) (fun _ _ => PyProof.Rows.sortedAll_old) (Nat.le_succ _) ⟨hlen, _, ep, vals_each h2, he'⟩, rfl, q _ (I.hok.fresh (Nat.le_succ _))⟩
end Ld
namespace Ld
open PySem PySem.Spec PyProof.Rows L2 Lx
open PySem.W (AllAlike Sortable dataLe EachIs sorted_data)
theorem dqa_zip {B : Hp} : ∀ {xs : List V} {ds : List Dat}, DqAll B xs ds → ∀ p ∈ xs.zip ds, Dq B p.1 p.2
  | _, _, .nil, p, h => by cases h
  | _, _, .cons h t, p, hm => by
    rw [List.zip_cons_cons] at hm
    rcases List.mem_cons.mp hm with e | hm
    · rw [e]; exact h
    · exact dqa_zip t p hm
theorem dqa_pairs {B : Hp} : ∀ (ps : List (V × Dat)), (∀ p ∈ ps, Dq B p.1 p.2) → DqAll B (ps.map Prod.fst) (ps.map Prod.snd)
  | [], _ => .nil
  | p :: ps, h => .cons (h p (by simp)) (dqa_pairs ps fun q hq => h q (List.mem_cons_of_mem _ hq))
section
variable {K : PySem.W.Frag} {Γ : List Cell} {Θ : List Tmp}
/-- sorted(..) of a new list of data -/
theorem c1_sortedD {ds : List Dat} {Q : List Cell → Tmp → Prop} (ha : AllAlike ds) (hk : Sortable ds) (hd : ∀ d ∈ ds, PyData.depth d ≤ 60) (q : Q Γ (.fr (ds.mergeSort (dataLe false id)))) : C1V K (rSortedD K) Γ Θ (.fr ds) Q := fun L S0 σ τ S vx Qv E k => by
  obtain ⟨a, us, ea, hu, pu, _⟩ := E.mutTop
  have em : (us.zip ds).map Prod.snd = ds := List.map_snd_zip (by rw [pu.len]; omega)
  have e2 : ((us.zip ds).mergeSort (dataLe false Prod.snd)).map Prod.snd = ds.mergeSort (dataLe false id) := by
    have h9 := List.map_mergeSort (l := us.zip ds) (r := dataLe false Prod.snd) (s := dataLe false id) (f := Prod.snd) (fun a _ b _ => rfl)
    rw [em] at h9
    exact h9
  refine ⟨a, us, ds, by rw [ea], .inl (.of hu), pu.len, fun p hp => dq_dp _ _ (dp_mono E.sub _ _ (dqa_zip pu p hp)), ha, hk, hd, fun p hp => k Γ _ _ _ (E.pop.newLst hp ?_) q⟩
  rw [← e2]
  exact dqa_pairs _ fun p hp => dqa_zip pu p (List.mem_mergeSort.mp hp)
end
end Ld
namespace Sh
open PySem PySem.Spec PyProof.Rows L2 Lx Ld
/-- all ways to choose the counts ahead -/
def allF (told : List (List Int)) (cs : List (List Int)) : List (List Int) := cs.foldl (fun t c => t.flatMap fun o => c.map fun x => o ++ [x]) told
def allA (N : List Int) (b : Nat) : List (List Int) := allF [[]] (cansA N b)
theorem allF_snoc (t : List (List Int)) (cs : List (List Int)) (c : List Int) : allF t (cs ++ [c]) = (allF t cs).flatMap fun o => c.map fun x => o ++ [x] := by unfold allF; rw [List.foldl_append]; rfl
theorem fl_len {t : List (List Int)} {c : List Int} : (t.flatMap fun o => c.map fun x => o ++ [x]).length = t.length * c.length := by
  induction t with
  | nil => simp
  | cons a t ih => rw [List.flatMap_cons, List.length_append, ih, List.length_map, List.length_cons, Nat.succ_mul, Nat.add_comm]
theorem allF_len : ∀ (cs : List (List Int)) (t : List (List Int)), (allF t cs).length = cs.foldl (fun m l => m * l.length) t.length
  | [], t => rfl
  | c :: cs, t => by
    show (allF (t.flatMap fun o => c.map fun x => o ++ [x]) cs).length = _
    rw [allF_len cs, fl_len]
    rfl
theorem allA_len {N : List Int} {b : Nat} : (allA N b).length = manyA N b := by unfold allA manyA; rw [allF_len]; rfl
end Sh
namespace Sh
open PySem PySem.Spec PyProof.Rows L2 Lx Ld
theorem allF_in : ∀ (n : Nat) (cs : List (List Int)), cs.length = n → ∀ o ∈ allF [[]] cs, o.length = cs.length ∧ ∀ (k : Nat) (v : Int), o[k]? = some v → ∃ c, cs[k]? = some c ∧ v ∈ c
  | 0, cs, h, o, ho => by
    rw [List.length_eq_zero_iff.mp h] at ho ⊢
    have : o = [] := by simpa [allF] using ho
    subst this
    exact ⟨rfl, fun k v e => by simp at e⟩
  | n + 1, cs, h, o, ho => by
    obtain ⟨cs', c, rfl⟩ : ∃ cs' c, cs = cs' ++ [c] := ⟨cs.dropLast, cs.getLast (List.ne_nil_of_length_pos (by omega)), (List.dropLast_concat_getLast _).symm⟩
    rw [allF_snoc] at ho
    obtain ⟨o', ho', hm⟩ := List.mem_flatMap.mp ho
    obtain ⟨x, hx, rfl⟩ := List.mem_map.mp hm
    obtain ⟨h1, h2⟩ := allF_in n cs' (by simpa using h) o' ho'
    refine ⟨by simp [h1], fun k v e => ?_⟩
    rcases Nat.lt_or_ge k o'.length with hk | hk
    · rw [List.getElem?_append_left hk] at e
      obtain ⟨c', e', hv⟩ := h2 k v e
      exact ⟨c', by rw [List.getElem?_append_left (by omega)]; exact e', hv⟩
    · rw [List.getElem?_append_right hk] at e
      have hk0 : k - o'.length = 0 := by
        rcases Nat.eq_zero_or_pos (k - o'.length) with z | z
        · exact z
        · rw [List.getElem?_eq_none (by simp; omega)] at e; cases e
      rw [hk0] at e
      cases e
      exact ⟨c, by rw [List.getElem?_append_right (by omega), ← h1, hk0]; rfl, hx⟩
theorem fm_zero : ∀ (cs : List (List Int)), cs.foldl (fun m l => m * l.length) 0 = 0
  | [] => rfl
  | c :: cs => by rw [List.foldl_cons, Nat.zero_mul]; exact fm_zero cs
theorem fm_le : ∀ (cs : List (List Int)) (m : Nat), m ≤ cs.foldl (fun m l => m * l.length) m ∨ cs.foldl (fun m l => m * l.length) m = 0
  | [], m => .inl (Nat.le_refl _)
  | c :: cs, m => by
    rw [List.foldl_cons]
    by_cases h : c.length = 0
    · rw [h, Nat.mul_zero]; exact .inr (fm_zero cs)
    · rcases fm_le cs (m * c.length) with h1 | h1
      · exact .inl (Nat.le_trans (Nat.le_mul_of_pos_right m (by omega)) h1)
      · exact .inr h1
theorem fm_part {N : List Int} {b k : Nat} (h : manyA N b ≠ 0) : ((cansA N b).take k).foldl (fun m l => m * l.length) 1 ≤ manyA N b := by
  have e : manyA N b = ((cansA N b).drop k).foldl (fun m l => m * l.length) (((cansA N b).take k).foldl (fun m l => m * l.length) 1) := by
    unfold manyA
    rw [← List.foldl_append, List.take_append_drop]
  rw [e] at h ⊢
  rcases fm_le ((cansA N b).drop k) (((cansA N b).take k).foldl (fun m l => m * l.length) 1) with h1 | h1
  · exact h1
  · exact absurd h1 h
theorem canL_in {c r b : Nat} {v : Int} (h : v ∈ canL c r b) : 0 ≤ v ∧ v ≤ r := by
  unfold canL at h
  by_cases h1 : c = 0
  · rw [if_pos h1] at h
    obtain ⟨i, hi, rfl⟩ := List.mem_map.mp h
    have := List.mem_range.mp hi
    constructor
    · exact Int.natCast_nonneg _
    · show (i : Int) ≤ r
      omega
  · rw [if_neg h1] at h
    by_cases h2 : c + b ≤ r
    · rw [if_pos h2] at h
      rw [List.mem_singleton.mp h]
      omega
    · rw [if_neg h2] at h
      cases h
theorem cansA_len {N : List Int} {b : Nat} : (cansA N b).length = N.length := by unfold cansA; rw [List.length_map, List.length_zipIdx]; exact (dsc_perm N).length_eq
theorem allA_ok {N : List Int} {b : Nat} {o : List Int} (h : o ∈ allA N b) : CntOk o N.length := by
  obtain ⟨h1, h2⟩ := allF_in _ _ rfl o h
  refine ⟨h1.trans cansA_len, fun k v e => ?_⟩
  obtain ⟨c, hc, hv⟩ := h2 k v e
  unfold cansA at hc
  rw [List.getElem?_map] at hc
  obtain ⟨p, hp, rfl⟩ := Option.map_eq_some_iff.mp hc
  rw [List.getElem?_zipIdx] at hp
  obtain ⟨q, hq, rfl⟩ := Option.map_eq_some_iff.mp hp
  have := canL_in hv
  dsimp only at this
  omega
end Sh
namespace Sh
open PySem PySem.Spec PyProof.Rows L2 Lx Ld
theorem alikeAll_ints : ∀ (a b : List Int), PySem.W.alikeAll (iL a) (iL b) = true := fun a b => PySem.W.alikeAll_map a b
theorem alike_ti (a b : List Int) : PySem.W.alike (.tuple (iL a)) (.tuple (iL b)) = true := by
  unfold PySem.W.alike
  exact alikeAll_ints a b
end Sh
set_option Elab.async false
set_option linter.all false
set_option maxRecDepth 100000
namespace Sh
open PySem PySem.Spec PyProof.Rows L2 Lx Ld
/-! known rows -/
end Sh
namespace Sh
open PySem PySem.Spec PyProof.Rows L2 Lx Ld
end Sh
set_option Elab.async false
set_option linter.all false
set_option maxRecDepth 100000
namespace Ld
open PySem PySem.Spec PyProof.Rows L2 Lx
theorem dqa_set {B : Hp} {v : V} {d : Dat} (h : Dq B v d) : ∀ (i : Nat) {vs : List V} {ds : List Dat}, DqAll B vs ds → DqAll B (vs.set i v) (ds.set i d)
  | _, _, _, .nil => .nil
  | 0, _, _, .cons _ t => .cons h t
  | i + 1, _, _, .cons g t => .cons g (dqa_set h i t)
/-- x[i], x[j] = a, b -/
theorem ss_swap {K : PySem.W.Frag} {Γ : List Cell} {k : Nat} {ta tb ti tj : TE} {R : DE}
    (h : ∀ ss, VE K Γ (srcT ss) ta fun Γ1 x => VE K Γ1 (x :: srcT ss) tb fun Γ2 y => ∃ dx dy ds, x = .dt dx ∧ y = .dt dy ∧ IsLs Γ2 k ds ∧
      VE K Γ2 (y :: x :: srcT ss) ti fun Γ3 z => ∃ (i : Nat) (ds3 : List Dat), z = .dt (.int i) ∧ IsLs Γ3 k ds3 ∧ i < ds3.length ∧
        (∃ es, IsLs (putC Γ3 k (ds3.set i dx)) k es) ∧ VE K (putC Γ3 k (ds3.set i dx)) (y :: x :: srcT ss) tj fun Γ4 u => ∃ (j : Nat) (ds4 : List Dat), u = .dt (.int j) ∧ IsLs Γ4 k ds4 ∧ j < ds4.length ∧ R.nx (putC Γ4 k (ds4.set j dy))) :
    VSs K Γ (tAsg (tTupF (tCons ta (tCons tb tNil))) (gTup K 2 (gCons (gSub (tVar k) ti rSetL) (gCons (gSub (tVar k) tj rSetL) gNil)))) R := fun ss L S0 σ τ S D E kn kr kb kc =>
  h ss L S0 σ τ S _ E fun Γ1 S1 v x E1 h1 => h1 L S0 σ _ S1 _ E1 fun Γ2 S2 u y E2 ⟨dx, dy, ds, ex, ey, ⟨c, hc, hl⟩, h2⟩ => by
    subst ex ey
    refine ⟨by show 2 ≤ sizeLine; decide +kernel, fun p o hd0 hp => ?_⟩
    have E5 := E2.grow (gr_new (o := .frz o (.tup [v, u])) hp E2.sub) (sub_new hp E2.sub)
    obtain ⟨a, ea, _⟩ := E5.own hc hl
    refine ⟨p, _, rfl, sqt_f upd_same, rfl, _, _, rfl, _, ea, ?_⟩
    refine h2 L S0 σ _ _ _ E5 fun Γ3 S3 w z E3 ⟨i, ds3, ez, ⟨c3, hc3, hl3⟩, hi, ⟨es, c9, hc9, hl9⟩, h3⟩ => ?_
    subst ez
    obtain ⟨a', vs, ea', hv, pv, put⟩ := E3.pop.mutSlot hc3 hl3
    rw [ea] at ea'
    cases ea'
    have E6 := put (vs.set i v) (ds3.set i dx) (dqa_set E3.pop.pop.dt i pv)
    have hi' : i < vs.length := by rw [pv.len]; exact hi
    rw [putC_eq hc3] at h3 hc9
    refine ⟨a, vs, i, i, rfl, dp_int E3.dt, hv, ?_, ?_⟩
    · unfold ixN
      rw [if_pos (Int.natCast_nonneg i), if_pos (by omega)]
      rfl
    refine ⟨_, _, rfl, _, ea, ?_⟩
    refine h3 L S0 σ _ _ _ E6 fun Γ4 S4 w2 z2 E7 ⟨j, ds4, ez, ⟨c4, hc4, hl4⟩, hj, q⟩ => ?_
    subst ez
    obtain ⟨a', vs2, ea', hv2, pv2, put2⟩ := E7.pop.mutSlot hc4 hl4
    rw [ea] at ea'
    cases ea'
    have E8 := put2 (vs2.set j u) (ds4.set j dy) (dqa_set E7.pop.dt j pv2)
    have hj' : j < vs2.length := by rw [pv2.len]; exact hj
    rw [putC_eq hc4] at q
    refine ⟨a, vs2, j, j, rfl, dp_int E7.dt, hv2, ?_, ?_⟩
    · unfold ixN
      rw [if_pos (Int.natCast_nonneg j), if_pos (by omega)]
      rfl
    exact ⟨rfl, kn _ _ _ E8.pop.pop q⟩
end Ld
set_option Elab.async false
set_option linter.all false
set_option maxRecDepth 100000
namespace Ld
open PySem PySem.Spec PyProof.Rows L2 Lx
section
variable {K : PySem.W.Frag} {Γ : List Cell} {Θ : List Tmp}
/-- list.count of whole numbers -/
theorem ve_lcount {ta te : TE} {Q : List Cell → Tmp → Prop}
    (h : VE K Γ Θ ta fun Γ1 x => (∃ ds, rd Γ1 x (.list ds)) ∧ VE K Γ1 (x :: Θ) te fun Γ2 y => ∃ (ns : List Int) (n : Int), rd Γ2 x (.list (ns.map .int)) ∧ y = .dt (.int n) ∧ Q Γ2 (.dt (.int (ns.count n : Nat)))) :
    VE K Γ Θ (tBM K "list" (rCntI K) ta (tCons te tNil)) Q := fun L S0 σ τ S Qv E k => h L S0 σ τ S _ E fun Γ1 S1 vx x E1 ⟨⟨ds0, hx0⟩, h1⟩ => by
  obtain ⟨a, us, ea, hu, _⟩ := rdB_l E1 hx0
  subst ea
  refine ⟨.inl ⟨rfl, us, .of hu⟩, h1 L S0 σ _ S1 _ E1 fun Γ2 S2 vy y E2 ⟨ns, n, hx, hy, q⟩ => ?_⟩
  subst hy
  obtain ⟨a', zs, ea, hs, p⟩ := dp_list (E2.pop.rd hx)
  cases ea
  have ez := dpa_ints p
  subst ez
  exact ⟨a, ns, n, rfl, by rw [dp_int E2.dt], .of hs, k Γ2 S2 _ _ (E2.pop.pop.push (.int _)) q⟩
end
end Ld
namespace Sh
open PySem PySem.Spec PyProof.Rows L2 Lx Ld
/-! how many rows need just so many places -/
end Sh
set_option Elab.async false
set_option linter.all false
set_option maxRecDepth 100000
namespace Sh
open PySem PySem.Spec PyProof.Rows L2 Lx Ld
/-! pairs the wrong way round -/
end Sh
set_option Elab.async false
set_option linter.all false
set_option maxRecDepth 100000
namespace Sh
open PySem PySem.Spec PyProof.Rows L2 Lx Ld
/-! known rows: falling ones, one number behind all -/
/-! a pass of exchanges -/
/-! one number behind all -/
end Sh
set_option Elab.async false
set_option linter.all false
set_option maxRecDepth 100000
namespace Ld
open PySem PySem.Spec PyProof.Rows L2 Lx
section
variable {K : PySem.W.Frag} {Γ : List Cell} {Θ : List Tmp}
theorem dqa_erase {B : Hp} : ∀ (i : Nat) {vs : List V} {ds : List Dat}, DqAll B vs ds → DqAll B (vs.eraseIdx i) (ds.eraseIdx i) := fun i _ _ h => DqAll.eraseIdx i h
/-- xs.pop(i) -/
theorem ve_popAt {i : Nat} {te : TE} {Q : List Cell → Tmp → Prop} (h0 : ∃ ds, IsLs Γ i ds) (h : VE K Γ Θ te fun Γ1 y => ∃ (j : Nat) (d : Dat) (ds : List Dat), y = .dt (.int j) ∧ IsLs Γ1 i ds ∧ ds[j]? = some d ∧ j < 100000 ∧ Q (putC Γ1 i (ds.eraseIdx j)) (.dt d)) : VE K Γ Θ (tBM K "list" rPopAt (tVar i) (tCons te tNil)) Q := fun L S0 σ τ S Qv E k => by
  obtain ⟨ds0, c0, hc0, hl0⟩ := h0
  obtain ⟨a, ea, nb, us, hu, pu⟩ := E.own hc0 hl0
  refine ⟨_, ea, .inl ⟨rfl, us, .of hu⟩, h L S0 σ τ S _ E fun Γ1 S1 v y E1 ⟨j, d, ds, ey, ⟨c, hc, hl⟩, hd, hj, q⟩ => ?_⟩
  subst ey
  obtain ⟨a', vs, ea', hv, pv, put⟩ := E1.pop.mutSlot hc hl
  rw [ea] at ea'
  cases ea'
  obtain ⟨u, hu2, pu2⟩ := pv.get hd
  have hlt : j < vs.length := (List.getElem?_eq_some_iff.mp hu2).1
  refine ⟨a, vs, (j : Int), j, u, rfl, by rw [dp_int E1.dt], hv, by omega, by omega, ?_, hu2, ?_⟩
  · have h1 : ¬ ((j : Int) < 0) := by omega
    unfold seqIndex?
    simp only [h1, if_false]
    simp [hlt]
  · have E2 := put (vs.eraseIdx j) (ds.eraseIdx j) (dqa_erase j pv)
    rw [putC_eq hc] at q
    exact k _ _ _ _ (E2.push pu2) q
end
end Ld
namespace Lx
open PySem PySem.Spec PyProof.Rows L2 PySem.W
end Lx
namespace Ld
open PySem PySem.Spec PyProof.Rows L2 Lx
end Ld
namespace Sh
open PySem PySem.Spec PyProof.Rows L2 Lx Ld
open PySem.W (DatumOrd minOf minD Tup Datum listLt)
/-! the least of tuples -/
/-- three whole numbers -/
structure T where
  v : Int
  i : Int
  j : Int
def T.l (t : T) : List Int := [t.v, t.i, t.j]
def T.d (t : T) : Dat := .tuple (iL t.l)
structure T.ok (t : T) : Prop where
  v0 : 0 ≤ t.v
  v1 : t.v ≤ 90
  i0 : -1 ≤ t.i
  i1 : t.i ≤ 90
  j0 : -1 ≤ t.j
  j1 : t.j ≤ 90
end Sh
set_option Elab.async false
set_option linter.all false
set_option maxRecDepth 100000
namespace Sh
open PySem PySem.Spec PyProof.Rows L2 Lx Ld
/-! moves that mend -/
end Sh
set_option Elab.async false
set_option linter.all false
set_option maxRecDepth 100000
namespace Sh
open PySem PySem.Spec PyProof.Rows L2 Lx Ld
/-! blocks -/
/-! stretches between places -/
end Sh
namespace Sh
open PySem PySem.Spec PyProof.Rows L2 Lx Ld
/-! marks put at some of the places -/
end Sh
set_option Elab.async false
set_option linter.all false
set_option maxRecDepth 100000
namespace Lx
open PySem PySem.Spec PyProof.Rows L2 PySem.W
end Lx
namespace Ld
open PySem PySem.Spec PyProof.Rows L2 Lx
section
variable {K : PySem.W.Frag} {Γ : List Cell} {Θ : List Tmp}
/-- not t, t a tuple -/
theorem ve_notTp {te : TE} {Q : List Cell → Tmp → Prop} (h : VE K Γ Θ te fun Γ1 x => ∃ ds, x = .dt (.tuple ds) ∧ Q Γ1 (.dt (.bool ds.isEmpty))) : VE K Γ Θ (tNotT K te) Q := fun L S0 σ τ S Qv E k => h L S0 σ τ S _ E fun Γ1 S1 v x E1 ⟨ds, hx, q⟩ => by
  subst hx
  obtain ⟨a, o, us, ev, _, ha, pa⟩ := dp_tup E1.dt
  subst ev
  refine ⟨!us.isEmpty, .inr (.inl ⟨us, sqt_f (E1.sub _ _ ha), rfl⟩), ?_⟩
  rw [isEmpty_len pa.len, Bool.not_not]
  exact k Γ1 S1 _ _ (E1.pop.push (.bl _)) q
end
end Ld
namespace Sh
open PySem PySem.Spec PyProof.Rows L2 Lx Ld
theorem kb_bb : kitB "bool" "bool" = some true := by decide +kernel
end Sh
namespace Ld
open PySem PySem.Spec PyProof.Rows L2 Lx
end Ld
namespace Sh
open PySem PySem.Spec PyProof.Rows L2 Lx Ld
end Sh
namespace Sh
open PySem PySem.Spec PyProof.Rows L2 Lx Ld
end Sh
namespace Sh
open PySem PySem.Spec PyProof.Rows L2 Lx Ld
end Sh
namespace Sh
open PySem PySem.Spec PyProof.Rows L2 Lx Ld
end Sh
set_option Elab.async false
set_option linter.all false
set_option maxRecDepth 100000
/-! defs called in an except suite that are handed the caught exception -/
namespace Xa
open PySem PySem.Spec PyProof.Rows L2
structure FnE (P : Program) (w : World) (K : PySem.W.Frag) (mg : Str → Option Value) (base : Heap) (k : Nat) (f : Addr) (fd : FuncData) (ps : List Str) (sp : Addr → Value → Option Addr → Sp) : Prop where
  len : ∀ a c d vs H Q E, sp a c d vs H Q E → vs.length = ps.length
  run : ∀ (A : Around) (outer : List Env) (s : Shared) (H : Hp) (args : Args) (us : List Value) (vs : List V) (Q : VK) (E : XK) (p : Addr × Obj) (cls : Value) (d : Option Addr), L2H.RoomH k A → L2H.Hot1 A p → L2N.Zn cls d p.2 → L2H.PinOk outer H s p → Env0 P w K mg base A outer s H → BindsTo s fd args (ps.zip us) → Vals vs us → sp p.1 cls d vs H Q E →
    codeAny (model P w) A (.call (.ref f) args) (CR CX0 outer P w H s Q E) s
theorem fn_ofE {P : Program} {w : World} {K : PySem.W.Frag} {mg : Str → Option Value} {base : Heap} {k : Nat} {f : Addr} {name qual : Str} {params : Arguments} {body : List Stmt} {scope : Scope} {dV kV doc pm cdv ct oc : Value} {an od : Option Addr}
    {osl : Array (Option Value)} {N ps : List Str} {sp : Addr → Value → Option Addr → Sp} (lk : K.lookup f = some ⟨oc, od, .func (PySem.W.fnOf name qual params body scope dV kV doc pm an cdv ct), osl⟩) (hcd : PySem.W.codeIn K cdv qual = true) (S : FnScope N ps scope)
    (len : ∀ a c d vs H Q E, sp a c d vs H Q E → vs.length = ps.length)
    (hbody : ∀ (A : Around) (outer : List Env) (s : Shared) (H : Hp) (vs : List V) (Q : VK) (E : XK) (p : Addr × Obj) (cls : Value) (d : Option Addr), L2H.Hot1 A p → L2N.Zn cls d p.2 → L2H.RoomH k (A.deeper (envOfC qual scope s.heap.objs.size f cdv)) → sp p.1 cls d vs H Q E →
      ∃ t, PSs (L2H.cxH CX0 P w K mg base N qual scope f cdv A outer s H E p) body t ∧ t { nx := fun _ H' => Q .non H', rt := Q } (L2.start N vs) H) :
    FnE P w K mg base (k + 1) f (PySem.W.fnOf name qual params body scope dV kV doc pm an cdv ct) ps sp := by
  refine ⟨len, fun A outer s H args us vs Q E p cls d hr hot hz hpin e0 hb r hsp => ?_⟩
  have hl := len _ _ _ _ _ _ _ hsp
  have KX : K.In s.heap := e0.mod.kin.keeps fun b o e => (e0.bs b o e).1
  have lim : s.heap.NoLimit := e0.mod.nolimit.keeps fun b o e => (e0.bs b o e).1
  have hkind : ∀ y ∈ ps.zip us, scope.names.lookup y.1 = some .local ∨ (scope.names.lookup y.1 = some .cell ∧ ((cellsFrom (s.heap.objs.size + 1) scope.names []).lookup y.1).isSome = true) := fun ⟨n, v⟩ hy => by
    rcases S.par n (List.of_mem_zip hy).1 with q | q
    · exact .inl q
    · exact .inr ⟨q, PySem.W.cellsFrom_some _ _ _ (.inl q)⟩
  refine codeAny_call_function hr.depth (KX _ _ lk) rfl S.co S.gen rfl (PySem.W.codeRec_of KX hcd) (hb _ _ _ _ ?_)
  refine wpAny_newFunctionEnv_cells S.kind hkind fun env he s1 x => ?_
  subst he
  refine ⟨lim.keeps x.toInCall.keep, codeAny_func ?_⟩
  obtain ⟨t, ht, hq⟩ := hbody A outer s H vs Q E p cls d hot hz (hr.deeper _) hsp
  have I : Inv (L2H.cxH CX0 P w K mg base N qual scope f cdv A outer s H E p) [] (L2.start N vs) H s1 := L2H.inv_startH S hpin e0 hl r x
  refine wpAny_mono (ht.run [] s1 (L2.start N vs) H _ I hq) (fun fl s' hs => ?_) fun e s' hs => hs
  have fin : ∀ {σ' : L2.St} {H' : Hp} {v : V} {u : Value}, Inv (L2H.cxH CX0 P w K mg base N qual scope f cdv A outer s H E p) [] σ' H' s' → RelV v u → Q v H' → CE outer P w H s Q u s' :=
    fun {σ' H' v u} J rv q => ⟨v, H', J.os, J.bare, J.base, J.hok, rv, q⟩
  cases fl with
  | ret u =>
    obtain ⟨v, σ', H', J, rv, q⟩ := hs
    exact fin J rv q
  | next =>
    obtain ⟨σ', H', J, q⟩ := hs
    exact fin (v := V.non) (u := Value.none) J rfl q
  | brk =>
    obtain ⟨_, _, _, q⟩ := hs
    exact False.elim q
  | cont =>
    obtain ⟨_, _, _, q⟩ := hs
    exact False.elim q
section
variable {X : Cx} {k : Nat} {f : Addr} {fd : FuncData} {ps : List Str} {sp : Addr → Value → Option Addr → Sp} {x : Str} {q pos : Pos} {e : Expr} {es : List Expr} {t : TA}
/-- g(e), e the caught exception, in the suite -/
theorem pe_callE {p : Addr × Obj} {cls : Value} {d : Option Addr} (F : FnE X.prog X.w X.K X.mg X.base k f fd ps sp) (hr : L2H.RoomH k X.A) (hot : L2H.Hot1 X.A p) (hp : p ∈ X.pn) (hz : L2N.Zn cls d p.2) (hg : Gl X x) (hm : X.mg x = some (.ref f)) (hk : PySem.W.keepIn X.K (.ref f) = true) (hb : Binds X.K fd ps [])
    (ha : PA X (e :: es) t) (hdb : (x == ("__debug__" : Str)) = false := by decide) (he : starEach (e :: es) X.env = (false, eval e X.env) :: starEach es X.env := by rfl) (hpl : (backTo pos (starEach es X.env)).any (·.1) = false := by rfl) :
    PE X (.Call (.Name x q) (e :: es) [] pos) (tCall (sp p.1 cls d) [] E0 t) := by
  refine ⟨fun pins s σ H Q I h => ?_⟩
  refine wpAny_Call_Name_kw (ld_glob I hg hm ?_ hdb)
  refine PySem.W.callWith_K (h₀ := X.base) I.ok.mod.kin hk (thn (ha.run pos pins s σ H _ I h) fun us s1 ⟨vs, H1, I1, r, qq⟩ => ⟨I1.kIn, ?_⟩) he hpl
  have qq : sp p.1 cls d vs H1 Q E0 := by
    have z : sp p.1 cls d (vs ++ []) H1 Q E0 := qq
    rwa [List.append_nil] at z
  have hl : us.length = ps.length := by rw [← r.length]; exact F.len _ _ _ _ _ _ _ qq
  have b := hb s1 us I1.kIn (by rw [List.append_nil]; exact hl)
  rw [List.append_nil] at b
  have P1 := I1.pin p (List.mem_append_left _ hp)
  have hpin : L2H.PinOk X.stack H1 s1 p := ⟨P1.1, P1.2.1, fun hm => (List.mem_cons.mp (I1.stkSub p.1 hm)).elim P1.2.2.1 P1.2.2.2.1, P1.2.2.2.2⟩
  refine wpAny_call (codeAny_mono (F.run X.A X.stack s1 H1 ⟨us, []⟩ us vs Q E0 p cls d hr hot hz hpin I1.env0 b r qq) fun r s' hq => ?_)
  cases r with
  | error e => exact (hq : False).elim
  | ok fl =>
    cases fl with
    | ret u => exact I1.after hq
    | next => exact False.elim hq
    | brk => exact False.elim hq
    | cont => exact False.elim hq
end
/-- isinstance(e, c), e the exception that is handled here -/
theorem call_isX {X : Cx} {a D : Addr} {oe : Obj} (hm : (a, oe) ∈ X.pn) (C : ExcC X.K D) (hz : Zc (.ref D) none oe) (hf : ∃ vs, oe.data = .fields vs) : CallR X (.builtin "isinstance") (rIsE X.K D a) := by
  intro pins s σ H xs us Q I r h
  obtain ⟨c, cv, b, rfl, hcv, e, q⟩ := h
  cases r with
  | cons rx rr =>
    cases rr with
    | cons rt rr =>
      cases rr
      cases rx
      have ec := hcv _ rt
      subst ec
      obtain ⟨hget, _⟩ := I.pin (a, oe) (List.mem_append.mpr (.inl hm))
      obtain ⟨vs, hv⟩ := hf
      have J : PySem.W.InstAt s.heap a oe D none := by
        obtain ⟨oc, od, oda, osl⟩ := oe
        obtain ⟨h1, h2⟩ := hz
        dsimp only at h1 h2 hv
        subst h1 h2 hv
        exact ⟨hget, rfl, rfl, trivial⟩
      exact PySem.W.kia_one (PySem.W.handS_kitx_exc C.hg C.hk C.hs C.hd C.ha C.hn C.ht C.hm) I.kIn J e (fun z => nomatch z) fun tk => ⟨.bl b, H, I.kept (t' := tk) fun _ _ z => z, rfl, q⟩
/-! list.count of flat values -/
def rCntV (K : PySem.W.Frag) : V → List V → Hp → VK → Prop := fun x xs H Q => ∃ (a : Addr) (ys : List V) (y : V), x = .ref a ∧ xs = [y] ∧ SqL K H a ys ∧ flatV y = true ∧ ys.all flatV = true ∧ Q (.int (ys.countP (fun z => eqV z y) : Nat)) H
theorem cnt_eq {y : V} : ∀ {ys : List V} {us : List Value}, Vals ys us → ys.all flatV = true → us.countP (eqU y) = ys.countP fun z => eqV z y
  | _, _, .nil, _ => rfl
  | z :: ys, u :: us, .cons r t, f => by
    rw [List.all_cons, Bool.and_eq_true] at f
    rw [List.countP_cons, List.countP_cons, cnt_eq t f.2, eqU_of r f.1]
theorem mt_lcountV {X : Cx} : MtR X "list.count" (rCntV X.K) := by
  intro pins s σ H x xs v us Q I rx rxs h
  obtain ⟨a, ys, y, rfl, rfl, hs, fy, fys, q⟩ := h
  cases rx
  cases rxs with
  | cons ry rt =>
    rename_i uy ut
    cases rt
    obtain ⟨its, rv, ⟨⟨cls, dd, data, sl⟩, n, ho, hc, hdn, hd⟩, hlen⟩ := I.list hs
    simp only at hc hd
    subst hc hd
    refine call_meets PySem.F.slot_list_count ⟨_, ho, rfl⟩ PySem.F.entry_list_count (PySem.F.args_list_count_2 _ _)
      (SeqAt.list_countAt a its.toArray n dd sl uy (eqU y)) ⟨ho, fun u' hu' => mem_eqAt ry fy rv fys u' (by simpa using hu'), ?_⟩
    have ec : its.toArray.toList.countP (eqU y) = ys.countP fun z => eqV z y := cnt_eq rv fys
    refine ⟨.int (ys.countP (fun z => eqV z y) : Nat), H, I.tok _, ⟨s.toks, ?_⟩, q⟩
    show Value.int ((its.toArray.toList.countP (eqU y) : Nat) : Int) s.toks = _
    rw [ec]
/-! exceptions made where nothing is handled -/
section
variable {X : Cx}
theorem takes0N : L2N.Takes X (fun _ _ _ _ => False) := fun _ _ x => by
  obtain ⟨_, _, _, _, _, _, _, _, _, _, _, _, _, _, _, _, z⟩ := x
  exact z.elim
theorem pmk_n1 {C : Addr} {bmB : List Value} {B newId initId : String} {x : Str} {e : Expr} {ta : TE} {p pos : Pos} (F : ExcBaseFacts B newId initId bmB) (q : PySem.W.excIn X.K C bmB newId = true) (gC : X.mg x = some (.ref C)) (kC : PySem.W.keepIn X.K (.ref C) = true) (r : Raises X (.ref C)) (hg : Gl X x)
    (he : PE X e ta) (hs : starEach [e] X.env = (false, eval e X.env) :: starEach [] X.env := by rfl) (hdb : (x == ("__debug__" : Str)) = false := by decide) :
    L2N.PMk X (.Call (.Name x p) [e] [] pos) (fun σ H Q => ta σ H fun _ H1 => Q (.ref C) none H1) := by
  intro pins s σ H Q I h
  refine wpAny_Call_Name_kw (ld_glob I hg gC ?_ hdb)
  refine PySem.W.callWith_K (h₀ := X.base) I.ok.mod.kin kC ?_ hs (by rfl)
  rw [hs]
  show wpAny _ _ (spliced ((false, eval e X.env) :: backTo pos (starEach [] X.env))) _ _ s
  refine Calls.spliced_cons (thn (he.run pins s σ H _ I h) fun u s1 ⟨v, H1, I1, r1, q1⟩ => ?_)
  refine Calls.spliced_nil ⟨I1.kIn, ?_⟩
  show wpAny _ _ (call (.ref C) [u]) _ _ _
  obtain ⟨bm, N, nm, qn, bs, hdct, sn, sub, ab, col, dd, k0, k1, k2, k3, k5, mN, hC, hN, hni, T⟩ := exc_obj I1.kIn q
  refine wpAny_call_exc_subT F T hC hN hni (fun h' e hm => ?_) (by show 1 ≤ sizeLine; rw [sizeLine_eq]; omega)
  exact L2N.mk_of I1 hm r q1 (I1.hok.gone hm.new)
end
end Xa
set_option Elab.async false
set_option linter.all false
set_option maxRecDepth 100000
namespace Ld
open PySem PySem.Spec PyProof.Rows L2 Lx
/-! defs that raise -/
abbrev BxN (P : Program) (w : World) (K : PySem.W.Frag) (mg : Str → Option Value) (base : Heap) (N : List Str) (qual : Str) (st : Stmt) (f : Addr) (cdv : Value) (A : Around) (outer : List PySem.Env) (s : Shared) (H : Hp) (E : XK) : Cx := cxOf (L2N.CX P w) P w K mg base N qual (defScope st) f cdv A outer s H E
/-- an own exception class over ValueError -/
structure ExcF (K : PySem.W.Frag) (mg : Str → Option Value) (x : Str) (C : Addr) : Prop where
  g : mg x = some (.ref C)
  x : PySem.W.excIn K C He.veBase "ValueError.__new__" = true
  k : PySem.W.keepIn K (.ref C) = true
  b : PySem.W.subIn K (.ref C) (.type "BaseException") = some true
  t : PySem.W.typeIn K (.ref C) = some (.type "type")
def spR {α : Type} (K : PySem.W.Frag) (A : α → List Arg) (pre : α → Prop) (C : α → Addr) : Sp := fun vs H _ E => ∃ (B : Hp) (x : α), Same B H ∧ ArgsOk K B vs (A x) ∧ pre x ∧
  ∀ S', Gr L0 ⟨B, H⟩ S' → Same S'.b S'.h → E (.ref (C x)) none S'.h
def XF (E : XK) (L : Addr → Prop) (S0 : Hs) (C : Addr) : Prop := ∀ S', Gr L S0 S' → Same S'.b S'.h → E (.ref C) none S'.h
section
variable (K : PySem.W.Frag) (L : Addr → Prop) (S0 : Hs) (Γ : List Cell)
def VSr (t : TS) : Prop := ∀ (ss : List Dat) (σ : L2.St) (τ : List V) (S : Hs) (D : Ends), Env K L S0 Γ (srcT ss) σ τ S → t D σ S.h
end
section
variable {K : PySem.W.Frag} {L : Addr → Prop} {S0 : Hs} {Γ : List Cell} {Θ : List Tmp}
theorem sr_first {s1 s2 : TS} (h : VSr K L S0 Γ s1) : VSr K L S0 Γ (tSeq s1 s2) := fun ss σ τ S D E => h ss σ τ S _ E
theorem sr_seq {s1 s2 : TS} (h : VSs K Γ s1 ⟨fun Γ' => VSr K L S0 Γ' s2, fun _ _ => False, fun _ => False, fun _ => False⟩) : VSr K L S0 Γ (tSeq s1 s2) := fun ss σ τ S D E =>
  h ss L S0 σ τ S _ E (fun Γ' σ' S' E' q => q ss σ' τ S' _ E') (fun _ _ _ _ _ _ _ z => z.elim) (fun _ _ _ _ z => z.elim) (fun _ _ _ _ z => z.elim)
theorem sr_if {tt : TT} {ta tb : TS} (h : ∀ ss, VT K Γ (srcT ss) tt fun Γ1 b => (b = true → VSr K L S0 Γ1 ta) ∧ (b = false → VSr K L S0 Γ1 tb)) : VSr K L S0 Γ (tIfS tt ta tb) := fun ss σ τ S D E => h ss L S0 σ τ S _ E fun Γ1 S1 b E1 q => by
  cases b with
  | true => rw [if_pos rfl]; exact q.1 rfl ss σ τ S1 D E1
  | false => rw [if_neg Bool.false_ne_true]; exact q.2 rfl ss σ τ S1 D E1
theorem sr_raise {ta : TE} {E : XK} {C : Addr} (hE : XF E L S0 C) (ha : ∀ ss σ τ S, Env K L S0 Γ (srcT ss) σ τ S → ∀ Q : VK, (∀ v, Q v S.h) → ta σ S.h Q) :
    VSr K L S0 Γ (fun _ σ H => ta σ H fun _ H1 => E (.ref C) none H1) := fun ss σ τ S D Ev => ha ss σ τ S Ev _ fun _ => hE S Ev.gr Ev.sub
end
section
variable {P : Program} {w : World} {K : PySem.W.Frag} {mg : Str → Option Value} {base : Heap}
theorem ok_R {α : Type} {x qual : Str} {st : Stmt} {f : Addr} {fd : FuncData} {N ps : List Str} {k : Nat} {Ar : α → List Arg} {pre : α → Prop} {C : α → Addr} (F : Fun K x qual st f fd) (Sc : FnScope N ps (defScope st)) (hl : ∀ x, (Ar x).length = ps.length) (hN : ps.length ≤ N.length)
    (hb : ∀ (cdv : Value) (A : Around) (outer : List PySem.Env) (s : Shared) (H : Hp) (E : XK), Room k (A.deeper (envOfC qual (defScope st) s.heap.objs.size f cdv)) →
      ∃ t, PSs (BxN P w K mg base N qual st f cdv A outer s H E) (defBody st) t ∧ ∀ x S0, pre x → XF E L0 S0 (C x) → VSr K L0 S0 (cells0 N ((Ar x).map Arg.cell)) t) : FnOk P w K mg base (L2N.CX P w) (k + 1) f fd ps (spR K Ar pre C) := by
  have hlen : ∀ vs H Q E, spR K Ar pre C vs H Q E → vs.length = ps.length := fun vs H Q E h => by
    obtain ⟨B, x, _, p, hp, _⟩ := h
    rw [p.len, hl x]
  obtain ⟨oc, od, kV, doc, pm, an, cdv, ct, osl, rfl, lk, hcd⟩ := F.ex
  refine fn_of lk hcd Sc hlen fun A outer s H vs Q E hr h => ?_
  obtain ⟨t, ht, hv⟩ := hb cdv A outer s H E hr
  obtain ⟨B, x, sub, p, hp, q⟩ := h
  have hlv : vs.length ≤ N.length := by rw [p.len, hl x]; exact hN
  exact ⟨t, ht, hv x ⟨B, H⟩ hp q [] (L2.start N vs) [] ⟨B, H⟩ _ (env_start sub p hlv)⟩
/-- .. and what is called -/
structure CalR (P : Program) (w : World) (K : PySem.W.Frag) (mg : Str → Option Value) (base : Heap) (k : Nat) (x : Str) (ps : List Str) (sp : Sp) (f : Addr) (fd : FuncData) : Prop where
  G : FnOk P w K mg base (L2N.CX P w) k f fd ps sp
  g : mg x = some (.ref f)
  kp : PySem.W.keepIn K (.ref f) = true
  b : Binds K fd ps []
theorem Df.calR {k : Nat} {x : Str} {st : Stmt} {ps : List Str} {sp : Sp} {f : Addr} {fd : FuncData} (D : Df K mg x st ps f fd) (G : FnOk P w K mg base (L2N.CX P w) k f fd ps sp) : CalR P w K mg base k x ps sp f fd := ⟨G, D.g, D.F.kp, D.b⟩
/-- one promise or the other -/
theorem FnOk_or {CX : CXT} {k : Nat} {f : Addr} {fd : FuncData} {ps : List Str} {sp sp' : Sp} (F : FnOk P w K mg base CX k f fd ps sp) (G : FnOk P w K mg base CX k f fd ps sp') : FnOk P w K mg base CX k f fd ps (fun vs H Q E => sp vs H Q E ∨ sp' vs H Q E) :=
  ⟨fun vs H Q E h => h.elim (F.len vs H Q E) (G.len vs H Q E), fun A outer s H args us vs Q E hr he hb hv h => h.elim (fun h => F.run A outer s H args us vs Q E hr he hb hv h) fun h => G.run A outer s H args us vs Q E hr he hb hv h⟩
end
section
variable {K : PySem.W.Frag} {Γ : List Cell} {Θ : List Tmp}
theorem ve_callOr {α β : Type} {A : α → List Arg} {pre : α → Prop} {post : α → Dat → Prop} {A' : β → List Arg} {pre' : β → Prop} {post' : β → Dat → Prop} {X : XK} {t : TA} {Q : List Cell → Tmp → Prop}
    (h : VAX K Γ Θ t fun Γ1 as => (∃ x, as = A x ∧ pre x ∧ ∀ d, post x d → Q Γ1 (.dt d)) ∨ ∃ x, as = A' x ∧ pre' x ∧ ∀ d, post' x d → Q Γ1 (.dt d)) : VE K Γ Θ (tCall (fun vs H Q E => spG K A pre post vs H Q E ∨ spG K A' pre' post' vs H Q E) [] X t) Q := fun L S0 σ τ S Qv E k => h L S0 σ τ S _ E fun Γ1 S1 vs as E1 p hx => by
  show spG K A pre post (vs ++ []) S1.h Qv X ∨ spG K A' pre' post' (vs ++ []) S1.h Qv X
  rw [List.append_nil]
  rcases hx with ⟨x, ex, hp, q⟩ | ⟨x, ex, hp, q⟩
  · subst ex
    exact .inl ⟨S1.b, x, E1.sub, p, hp, fun v S' d g s hd hq => k Γ1 S' v _ ((E1.grow g s).push hd) (q d hq)⟩
  · subst ex
    exact .inr ⟨S1.b, x, E1.sub, p, hp, fun v S' d g s hd hq => k Γ1 S' v _ ((E1.grow g s).push hd) (q d hq)⟩
/-- what a def is told that is handed a caught exception, and tells -/
def spE (idx : Addr → Option Int) : Addr → Value → Option Addr → Sp := fun a cl d vs H Q _ => vs = [V.ref a] ∧ H a = none ∧ d = none ∧ ∃ (D : Addr) (n : Int), cl = .ref D ∧ idx D = some n ∧ ∃ B, Same B H ∧
  ∀ v S', Gr L0 ⟨B, H⟩ S' → Same S'.b S'.h → Dq S'.b v (.tuple [.str "refused", .int n]) → Q v S'.h
/-- try: return f(..) except C as e: return g(e), f raises -/
theorem ss_tryR {α : Type} {A : α → List Arg} {pre : α → Prop} {C : α → Addr} {c : Value} {i : Nat} {idx : Addr → Option Int} {args : TA} {R : DE} (hi : i < Γ.length)
    (h : ∀ ss, VAX K Γ (srcT ss) args fun Γ1 as => ∃ x n, as = A x ∧ pre x ∧ PySem.W.exmOne K (.ref (C x)) c = some true ∧ idx (C x) = some n ∧ R.rt Γ1 (.tuple [.str "refused", .int n])) :
    VSs K Γ (fun D σ H => tRet (L2.tCallS (spR K A pre C) (fun σ' cls d H' => L2.wAs K c i (fun a cl d => tRet (tCall (spE idx a cl d) [] E0 (tCons (tVar i) tNil))) (fun _ _ _ _ => False) D cls d σ' H') args) D σ H) R := fun ss L S0 σ τ S D E kn kr kb kc => by
  refine h ss L S0 σ τ S _ E fun Γ1 S1 vs as E1 p ⟨x, n, ex, hp, hc, hn, hq⟩ => ?_
  subst ex
  refine ⟨S1.b, x, E1.sub, p, hp, fun S' g s => ⟨true, hc, fun _ a ha => ?_, fun z => nomatch z⟩⟩
  have hl : i < σ.length := by rw [E.len]; exact hi
  refine ⟨.ref a, List.getElem?_set_self hl, ?_⟩
  refine ⟨rfl, ha, rfl, C x, n, rfl, hn, S'.b, s, fun v S2 g2 s2 hd => ?_⟩
  exact kr Γ1 σ S2 v _ (E1.grow (g.trans0 g2) s2) hd hq
end
end Ld
set_option Elab.async false
set_option linter.all false
set_option maxRecDepth 100000
namespace Ld
open PySem PySem.Spec PyProof.Rows L2 Lx
/-- what is known of a class of errors: it is the n-th of these -/
structure KitF (K : PySem.W.Frag) (X : Addr) (n : Int) (cs : List Addr) : Prop where
  e : ExcC K X
  v : PySem.W.kitOne K (.ref X) (.type "ValueError") = some true
  o : ∀ (j : Nat) C, cs[j]? = some C → PySem.W.kitOne K (.ref X) (.ref C) = some (decide ((j : Int) = n))
  n0 : 0 ≤ n
  n1 : n < 12
theorem is_rd {K : PySem.W.Frag} {X a C : Addr} {b : Bool} {σ : L2.St} {H : Hp} {Q : VK} (h0 : σ[0]? = some (some (.ref a))) (hk : PySem.W.kitOne K (.ref X) (.ref C) = some b) (q : Q (.bl b) H) : tCB (rIsE K X a) (tCons (tVar 0) (tCons (tC (.ref C)) tNil)) σ H Q :=
  ⟨_, h0, ⟨.ref C, .ref C, b, rfl, fun u r => r, hk, q⟩⟩
theorem is_rdV {K : PySem.W.Frag} {X a : Addr} {b : Bool} {σ : L2.St} {H : Hp} {Q : VK} (h0 : σ[0]? = some (some (.ref a))) (hk : PySem.W.kitOne K (.ref X) (.type "ValueError") = some b) (q : Q (.bl b) H) : tCB (rIsE K X a) (tCons (tVar 0) (tCons (tC (.ty "ValueError")) tNil)) σ H Q :=
  ⟨_, h0, ⟨.ty "ValueError", .type "ValueError", b, rfl, fun u r => r, hk, q⟩⟩
end Ld
namespace Ld
open PySem PySem.Spec PyProof.Rows L2 Lx
theorem idx_pre {ys : List V} {y : V} {j : Nat} (h : (ys.take j).all (fun z => !eqV z y) = true) : ∀ (m : Nat) (z' : V), m < j → ys[m]? = some z' → eqV z' y = false := fun m z' hm hz => by
  have hz2 : (ys.take j)[m]? = some z' := by rw [List.getElem?_take_of_lt hm]; exact hz
  have := List.all_eq_true.mp h z' (List.mem_of_getElem? hz2)
  simpa using this
end Ld
namespace Ld
open PySem PySem.Spec PyProof.Rows L2 Lx
theorem ite_f {c : Bool} {A B : Prop} (h : c = false) (q : B) : if c = true then A else B := by rw [h, if_neg Bool.false_ne_true]; exact q
end Ld
namespace He
open PySem PySem.Spec PyProof.Rows L2
theorem xcB_ok {x : Str} {K : PySem.W.Frag} (c : xcB x K = true) : ExcC K (ga K x) := by
  obtain ⟨c1, c⟩ := ba c
  obtain ⟨c2, c⟩ := ba c
  obtain ⟨c3, c⟩ := ba c
  obtain ⟨c4, c⟩ := ba c
  obtain ⟨c5, c⟩ := ba c
  obtain ⟨c6, c⟩ := ba c
  obtain ⟨c7, c8⟩ := ba c
  exact ⟨eqO_ok c1, eqO_ok c2, of_decide_eq_true c3, c4, eqO_ok c5, eqO_ok c6, of_decide_eq_true c7, of_decide_eq_true c8⟩
theorem ktB_ok {x y : Str} {b : Bool} {K : PySem.W.Frag} (c : ktB x y b K = true) : PySem.W.kitOne K (.ref (ga K x)) (.ref (ga K y)) = some b := of_decide_eq_true c
theorem kvB_ok {x : Str} {K : PySem.W.Frag} (c : kvB x K = true) : PySem.W.kitOne K (.ref (ga K x)) (.type "ValueError") = some true := of_decide_eq_true c
theorem klB_ok {x : Str} {n : Nat} {ys : List Str} {K : PySem.W.Frag} (hn : n < 12) (c : klB x n ys K = true) : Ld.KitF K (ga K x) n (ys.map (ga K)) := by
  obtain ⟨c1, c⟩ := ba c
  obtain ⟨c2, c3⟩ := ba c
  refine ⟨xcB_ok c1, kvB_ok c2, fun j C h => ?_, by omega, by omega⟩
  rw [List.getElem?_map] at h
  obtain ⟨y, hy, rfl⟩ := Option.map_eq_some_iff.mp h
  have := List.all_eq_true.mp c3 (y, j) (List.mem_zipIdx_iff_getElem?.mpr hy)
  exact ktB_ok this
end He
namespace Ld
open PySem PySem.Spec PyProof.Rows L2 Lx
theorem ExcF.of {K : PySem.W.Frag} {h : Heap} {mg : Str → Option Value} (X : K.In h) (G : h.Ns mainGlobals mg) {x : Str} (g : (He.Fa.glo x).ok K = true) (c : (He.Fa.exc x).ok K = true) : ExcF K mg x (He.ga K x) := by
  obtain ⟨h1, h2, h3, h4⟩ := He.exc_ok c
  exact ⟨He.glo_ok X G g, h1, h2, h3, h4⟩
end Ld
set_option Elab.async false
set_option linter.all false
set_option maxRecDepth 100000
/-! an error's number among its classes -/
namespace Ld
open PySem PySem.Spec PyProof.Rows L2 Lx
theorem KitF.one {K : PySem.W.Frag} {X : Addr} {n m : Int} {cs : List Addr} (h : KitF K X n cs) (g : KitF K X m cs) (hl : cs.length = 12) : m = n := by
  have h0 := h.n0
  have h1 := h.n1
  have hi : n.toNat < cs.length := by omega
  have e1 := h.o n.toNat _ (List.getElem?_eq_getElem hi)
  have e2 := g.o n.toNat _ (List.getElem?_eq_getElem hi)
  rw [e1] at e2
  have e3 := Option.some.inj e2
  rw [decide_eq_true (by omega : ((n.toNat : Nat) : Int) = n)] at e3
  have e4 := of_decide_eq_true e3.symm
  omega
open Classical in
noncomputable def idxK (K : PySem.W.Frag) (cs : List Addr) (X : Addr) : Option Int := if h : ∃ n, KitF K X n cs then some h.choose else none
theorem idxK_kit {K : PySem.W.Frag} {cs : List Addr} {X : Addr} {n : Int} (h : idxK K cs X = some n) : KitF K X n cs := by
  unfold idxK at h
  split at h
  · rename_i w
    cases h
    exact w.choose_spec
  · cases h
theorem idxK_of {K : PySem.W.Frag} {cs : List Addr} {X : Addr} {n : Int} (hl : cs.length = 12) (h : KitF K X n cs) : idxK K cs X = some n := by
  have w : ∃ n, KitF K X n cs := ⟨n, h⟩
  unfold idxK
  rw [dif_pos w, h.one w.choose_spec hl]
end Ld
set_option Elab.async false
set_option linter.all false
set_option maxRecDepth 100000
namespace Ld
open PySem PySem.Spec PyProof.Rows L2 Lx
open PySem.W (AllAlike Sortable dataLe EachIs sorted_data)
/-! sorted of data, one item of any kind too -/
def rSortedD1 (K : PySem.W.Frag) : List V → Hp → VK → Prop := fun vs H Q => (∃ (a : Addr) (xs : List V), vs = [V.ref a] ∧ SqL K H a xs ∧ xs.length ≤ 1 ∧ ∀ p, H p = none → Q (.ref p) (upd H p (.lst xs))) ∨ rSortedD K vs H Q
theorem perm_le1 {α : Type} : ∀ {its out : List α}, its.length ≤ 1 → out.Perm its → out = its
  | [], _, _, hp => List.perm_nil.mp hp
  | [_], _, _, hp => List.perm_singleton.mp hp
  | _ :: _ :: _, _, h, _ => absurd h (by simp)
theorem cr_sortedD1 {X : Cx} (hu : X.A.units + 64 < cLine) : CallR X (.builtin "sorted") (rSortedD1 X.K) := by
  intro pins s σ H vs us Q I r h
  rcases h with ⟨a, xs, rfl, hs, h1, q⟩ | h
  · obtain rfl := Vals.ref1 r
    obtain ⟨its, rv, pl, hz⟩ := I.list hs
    have el : its.length = xs.length := by first | exact rv.length | exact rv.length.symm | exact rv.len | exact rv.len.symm
    have hl1 : its.length ≤ 1 := by omega
    have hz1 : its.length ≤ sizeLine := by rw [el]; first | exact hz | omega
    have hz2 : xs.length ≤ sizeLine := by rw [← el]; exact hz1
    refine Srt.sorted_any (vs := its) pl.isList hz1 (fun h2 => absurd h2 (Nat.not_le.mpr (Nat.lt_succ_of_le hl1))) fun out hp => ?_
    have eo : out = its := perm_le1 hl1 hp
    subst eo
    obtain ⟨ep, he'⟩ := PyProof.Rows.sortedAll_at s.heap out out.toArray
    have e0 : (out.toArray.toList).toArray = out.toArray := by rw [Array.toArray_toList]
    exact ⟨.ref _, upd H (s.heap.objs.size + 1) (.lst xs), I.laid (t' := s.toks) (fun _ _ => PyProof.Rows.sortedAll_old) (Nat.le_succ _) ⟨hz2, _, ep, rv, he'⟩, rfl, q _ (I.hok.fresh (Nat.le_succ _))⟩
  · exact cr_sortedD hu pins s σ H vs us Q I r h
section
variable {K : PySem.W.Frag} {Γ : List Cell} {Θ : List Tmp}
theorem c1_sortedD1 {ds : List Dat} {Q : List Cell → Tmp → Prop} (h : ds.length ≤ 1 ∨ (AllAlike ds ∧ Sortable ds)) (hd : ∀ d ∈ ds, PyData.depth d ≤ 60) (q : Q Γ (.fr (ds.mergeSort (dataLe false id)))) : C1V K (rSortedD1 K) Γ Θ (.fr ds) Q := by
  rcases h with h | ⟨ha, hk⟩
  · intro L S0 σ τ S vx Qv E k
    obtain ⟨a, us, ea, hu, pu, _⟩ := E.mutTop
    have em : ds.mergeSort (dataLe false id) = ds := by
      match ds, h with
      | [], _ => exact List.mergeSort_nil
      | [x], _ => exact List.mergeSort_singleton _
    rw [em] at q
    exact .inl ⟨a, us, by rw [ea], .inl (.of hu), by rw [pu.len]; exact h, fun p hp => k Γ _ _ _ (E.pop.newLst hp pu) q⟩
  · intro L S0 σ τ S vx Qv E k
    exact .inr (c1_sortedD ha hk hd q L S0 σ τ S vx Qv E k)
end
/-! t < u of tuples of ints; d not in l -/
theorem op_ltTK {X : Cx} {K : PySem.W.Frag} (e : X.K = K) (hu : X.A.units < cLine) : OpR X (compareOp .Lt) (rLtT K) := e ▸ op_ltT hu
section
variable {K : PySem.W.Frag} {Γ : List Cell} {Θ : List Tmp}
theorem dqa_int {B : Hp} : ∀ {xs : List V} {ns : List Int}, DqAll B xs (ns.map PyData.int) → xs = ns.map V.int
  | _, [], h => by cases h; rfl
  | _, n :: ns, h => by
    cases h with
    | cons h t =>
      cases h
      rw [dqa_int t]
      rfl
theorem dq_tupI {B H : Hp} {v : V} {ns : List Int} (sub : Same B H) (h : Dq B v (.tuple (ns.map PyData.int))) : ∃ a, v = .ref a ∧ SqT K H a (ns.map V.int) := by
  cases h with
  | tup hd hp hh =>
    rw [dqa_int hh] at hp
    exact ⟨_, rfl, .inl (.inr ⟨_, sub _ _ hp⟩)⟩
theorem r2_ltT {x y : Tmp} {ns ms : List Int} {Q : List Cell → Tmp → Prop} (hx : rd Γ x (.tuple (ns.map PyData.int))) (hy : rd Γ y (.tuple (ms.map PyData.int))) (q : Q Γ (.dt (.bool (HT.lexLt ns ms)))) : R2V K (rLtT K) Γ Θ x y Q := fun L S0 σ τ S vx vy Qv E k => by
  obtain ⟨a, ea, ha⟩ := dq_tupI (K := K) (fun _ _ e => e) (E.pop.rd hx)
  obtain ⟨b, eb, hb⟩ := dq_tupI (K := K) (fun _ _ e => e) (E.rd hy)
  exact ⟨a, b, ns, ms, ea, eb, ha, hb, k Γ S _ _ (E.pop.pop.push (.bl _)) q⟩
theorem r2_notInD {x y : Tmp} {d : Dat} {ds : List Dat} {Q : List Cell → Tmp → Prop} (hx : rd Γ x d) (hy : rd Γ y (.list ds)) (sd : SeqAt.shaped d = true) (se : SeqAt.shaped (.list ds) = true) (q : Q Γ (.dt (.bool (!ds.any fun z => PyData.eqv z d)))) : R2V K (rNotInD K) Γ Θ x y Q := fun L S0 σ τ S vx vy Qv E k =>
  ⟨d, ds, dq_dp _ _ (E.pop.rd hx), dq_dp _ _ (E.rd hy), sd, se, k Γ S _ _ (E.pop.pop.push (.bl _)) q⟩
end
end Ld
namespace Ld
open PySem PySem.Spec PyProof.Rows L2 Lx
theorem roomX {k : Nat} {A : Around} (r : Room k A) (h : Option Value) : L2H.RoomH k (A.mark h) := ⟨r.dp, r.un⟩
end Ld
namespace Ld
open PySem PySem.Spec PyProof.Rows L2 Lx
theorem ve_callOrF {K : PySem.W.Frag} {Γ : List Cell} {Θ : List Tmp} {α β : Type} {A : α → List Arg} {pre : α → Prop} {g : α → Dat} {A' : β → List Arg} {pre' : β → Prop} {g' : β → Dat} {X : XK} {t : TA} {Q : List Cell → Tmp → Prop}
    (h : VAX K Γ Θ t fun Γ1 as => (∃ x, as = A x ∧ pre x ∧ Q Γ1 (.dt (g x))) ∨ ∃ x, as = A' x ∧ pre' x ∧ Q Γ1 (.dt (g' x))) : VE K Γ Θ (tCall (fun vs H Q E => spF K A pre g vs H Q E ∨ spF K A' pre' g' vs H Q E) [] X t) Q := by
  refine ve_callOr (post := fun x d => d = g x) (post' := fun x d => d = g' x) fun L S0 σ τ S Qv E k => h L S0 σ τ S Qv E fun Γ1 S1 vs as E1 p q => k Γ1 S1 vs as E1 p ?_
  rcases q with ⟨x, e, hp, q⟩ | ⟨x, e, hp, q⟩
  · exact .inl ⟨x, e, hp, fun d ed => by rw [ed]; exact q⟩
  · exact .inr ⟨x, e, hp, fun d ed => by rw [ed]; exact q⟩
end Ld
namespace Ld
open PySem PySem.Spec PyProof.Rows L2 Lx
theorem u65 {k : Nat} {A : Around} (r : Room k A) : A.units + 65 < cLine := by have := r.un; omega
end Ld
namespace Ld
open PySem PySem.Spec PyProof.Rows L2 Lx
theorem vt_cutT {K : PySem.W.Frag} {Γ : List Cell} {Θ : List Tmp} {t : TT} {Q : List Cell → Bool → Prop} (b : Bool) (h : VT K Γ Θ t fun Γ1 c => c = b ∧ Γ1 = Γ) (q : Q Γ b) : VT K Γ Θ t Q := vt_mono h fun Γ1 c ⟨e1, e2⟩ => by rw [e1, e2]; exact q
end Ld
set_option Elab.async false
set_option linter.all false
set_option maxRecDepth 100000
set_option autoImplicit false
namespace Sh
open PySem PySem.Spec PyProof.Rows L2 Lx Ld
/-! the rows ahead -/
theorem mem_allF : ∀ (n : Nat) (cs : List (List Int)), cs.length = n → ∀ o : List Int, o.length = cs.length → (∀ (k : Nat) (v : Int), o[k]? = some v → ∃ c, cs[k]? = some c ∧ v ∈ c) → o ∈ allF [[]] cs
  | 0, cs, h, o, ho, _ => by
    have e1 := List.length_eq_zero_iff.mp h
    subst e1
    have e2 := List.length_eq_zero_iff.mp ho
    subst e2
    exact List.mem_singleton.mpr rfl
  | n + 1, cs, h, o, ho, hv => by
    obtain ⟨cs', c, rfl⟩ : ∃ cs' c, cs = cs' ++ [c] := ⟨cs.dropLast, cs.getLast (List.ne_nil_of_length_pos (by omega)), (List.dropLast_concat_getLast _).symm⟩
    obtain ⟨o', a, rfl⟩ : ∃ o' a, o = o' ++ [a] := ⟨o.dropLast, o.getLast (List.ne_nil_of_length_pos (by omega)), (List.dropLast_concat_getLast _).symm⟩
    have hl : o'.length = cs'.length := by simpa using ho
    rw [allF_snoc]
    refine List.mem_flatMap.mpr ⟨o', mem_allF n cs' (by simpa using h) o' hl fun k v e => ?_, List.mem_map.mpr ⟨a, ?_, rfl⟩⟩
    · have hk := (List.getElem?_eq_some_iff.mp e).1
      obtain ⟨c', e', h'⟩ := hv k v (by rw [List.getElem?_append_left hk]; exact e)
      exact ⟨c', by rw [List.getElem?_append_left (by omega)] at e'; exact e', h'⟩
    · obtain ⟨c', e', h'⟩ := hv o'.length a (by rw [List.getElem?_append_right (Nat.le_refl _)]; simp)
      rw [hl, List.getElem?_append_right (Nat.le_refl _)] at e'
      simp at e'
      rw [← e'] at h'
      exact h'
theorem allF_nd : ∀ (n : Nat) (cs : List (List Int)), cs.length = n → (∀ c ∈ cs, c.Nodup) → (allF [[]] cs).Nodup
  | 0, cs, h, _ => by
    have e1 := List.length_eq_zero_iff.mp h
    subst e1
    exact List.pairwise_singleton _ _
  | n + 1, cs, h, hc => by
    obtain ⟨cs', c, rfl⟩ : ∃ cs' c, cs = cs' ++ [c] := ⟨cs.dropLast, cs.getLast (List.ne_nil_of_length_pos (by omega)), (List.dropLast_concat_getLast _).symm⟩
    rw [allF_snoc]
    refine List.pairwise_flatMap.mpr ⟨fun o _ => List.pairwise_map.mpr ((hc c (by simp)).imp fun h e => h (by simpa using e)), ?_⟩
    refine (allF_nd n cs' (by simpa using h) fun c hm => hc c (by simp [hm])).imp fun hne x hx y hy e => hne ?_
    obtain ⟨u, _, rfl⟩ := List.mem_map.mp hx
    obtain ⟨v, _, rfl⟩ := List.mem_map.mp hy
    exact (List.append_inj' e rfl).1
theorem canL_nd {c r b : Nat} : (canL c r b).Nodup := by
  unfold canL
  split
  · exact List.pairwise_map.mpr (List.nodup_range.imp fun h e => h (Int.ofNat.inj e))
  · split
    · exact List.pairwise_singleton _ _
    · exact List.Pairwise.nil
theorem canL_iff {c r b : Nat} {v : Nat} : ((v : Nat) : Int) ∈ canL c r b ↔ v ≤ r ∧ v - b = c := by
  unfold canL
  split
  · constructor
    · intro h
      obtain ⟨k, hk, e⟩ := List.mem_map.mp h
      have := List.mem_range.mp hk
      have : k = v := Int.ofNat.inj e
      omega
    · intro h
      exact List.mem_map.mpr ⟨v, List.mem_range.mpr (by omega), rfl⟩
  · split
    · rw [List.mem_singleton]
      constructor
      · intro h; omega
      · intro h; omega
    · constructor
      · intro h; cases h
      · intro h; omega
def aheadL (N : List Int) (b : Nat) : List (List Int) := (allA N b).map fun o => rowF (dsc N) o
theorem allA_mem {N : List Int} {b : Nat} {o : List Int} : o ∈ allA N b ↔ o.length = N.length ∧ ∀ (k : Nat) (v x : Int), o[k]? = some v → (dsc N)[k]? = some x → v ∈ canL (gc N x) k b := by
  have hl : (dsc N).length = N.length := (dsc_perm N).length_eq
  constructor
  · intro h
    obtain ⟨h1, h2⟩ := allF_in _ _ rfl o h
    rw [cansA_len] at h1
    refine ⟨h1, fun k v x e1 e2 => ?_⟩
    obtain ⟨c, e3, hv⟩ := h2 k v e1
    unfold cansA at e3
    rw [List.getElem?_map, List.getElem?_zipIdx, e2] at e3
    simp at e3
    rw [← e3] at hv
    exact hv
  · intro ⟨h1, h2⟩
    refine mem_allF _ _ rfl o (by rw [cansA_len]; exact h1) fun k v e => ?_
    have hk := (List.getElem?_eq_some_iff.mp e).1
    have e2 : (dsc N)[k]? = some (dsc N)[k] := List.getElem?_eq_getElem (by omega)
    refine ⟨canL (gc N (dsc N)[k]) k b, ?_, h2 k v _ e e2⟩
    unfold cansA
    rw [List.getElem?_map, List.getElem?_zipIdx, e2]
    simp
theorem mem_aheadL {N : List Int} (hN : N.Nodup) {b : Nat} {M : List Int} : M ∈ aheadL N b ↔ M.Perm N ∧ pastL true b M = N := by
  have hD := dsc_pw hN
  have hp := dsc_perm N
  have hl := hp.length_eq
  constructor
  · intro h
    obtain ⟨o, ho, rfl⟩ := List.mem_map.mp h
    have hc := allA_ok ho
    obtain ⟨h1, h2⟩ := allA_mem.mp ho
    have hM : (rowF (dsc N) o).Perm N := (rowF_perm (D := dsc N) (by rw [h1, hl])).trans hp
    refine ⟨hM, ?_⟩
    have hg := gc_rowF (D := dsc N) hl hD hc
    have key : ∀ x ∈ dsc N, gc (rowF (dsc N) o) x - b = gc N x := fun x hx => by
      obtain ⟨k, hk⟩ := List.getElem?_of_mem hx
      have e1 : o[k]? = some ((gc (rowF (dsc N) o) x : Nat) : Int) := by
        have z := congrArg (fun l : List Int => l[k]?) hg
        simp only [List.getElem?_map, hk] at z
        exact z.symm
      exact (canL_iff.mp (h2 k _ x e1 hk)).2
    have hP := (pastL_perm true b (rowF (dsc N) o)).trans hM
    have e1 := (rowF_gc (D := dsc N) hl hD (hP.trans hp.symm)).1
    have e2 := (rowF_gc (D := dsc N) hl hD hp.symm).1
    rw [← e1]
    refine Eq.trans ?_ e2
    congr 1
    refine List.map_congr_left fun x hx => ?_
    rw [gc_past b (hM.mem_iff.mpr (hp.mem_iff.mp hx)), key x hx]
  · intro ⟨hM, hP⟩
    obtain ⟨e1, hc⟩ := rowF_gc (D := dsc N) hl hD (hM.trans hp.symm)
    refine List.mem_map.mpr ⟨_, allA_mem.mpr ⟨by rw [List.length_map, hl], fun k v x ev ex => ?_⟩, e1⟩
    rw [List.getElem?_map, ex] at ev
    simp at ev
    subst ev
    have hx := List.mem_of_getElem? ex
    refine canL_iff.mpr ⟨?_, ?_⟩
    · have h8 : ((gc M x : Nat) : Int) ≤ (k : Int) := (hc.2 k _ (by rw [List.getElem?_map, ex]; rfl)).2
      omega
    · have h9 := gc_past (s := M) (x := x) b (hM.mem_iff.mpr (hp.mem_iff.mp hx))
      rw [hP] at h9
      exact h9.symm
theorem aheadL_nd {N : List Int} (hN : N.Nodup) {b : Nat} : (aheadL N b).Nodup := by
  have hD := dsc_pw hN
  have hl := (dsc_perm N).length_eq
  have h0 : (allA N b).Nodup := allF_nd _ _ rfl fun c hc => by
    unfold cansA at hc
    obtain ⟨p, _, rfl⟩ := List.mem_map.mp hc
    exact canL_nd
  refine List.pairwise_map.mpr (h0.imp_of_mem fun ha hb hne e => hne ?_)
  have e1 := gc_rowF (D := dsc N) hl hD (allA_ok ha)
  have e2 := gc_rowF (D := dsc N) hl hD (allA_ok hb)
  rw [← e1, ← e2, e]
theorem aheadL_len {N : List Int} {b : Nat} : (aheadL N b).length = manyA N b := by unfold aheadL; rw [List.length_map, allA_len]
/-! orders of tuples -/
theorem lex_anti : ∀ {a b : List Int}, HT.lexLt a b = false → HT.lexLt b a = false → a = b
  | [], [], _, _ => rfl
  | [], _ :: _, h, _ => by cases h
  | _ :: _, [], _, h => by cases h
  | x :: a, y :: b, h, g => by
    rw [HT.lexLt_cons] at h g
    by_cases e : x = y
    · subst e
      rw [if_pos rfl] at h g
      rw [lex_anti h g]
    · rw [if_neg e] at h
      rw [if_neg fun z => e z.symm] at g
      simp at h g
      omega
theorem lex_asym : ∀ {a b : List Int}, HT.lexLt a b = true → HT.lexLt b a = false
  | [], [], h => by cases h
  | [], _ :: _, _ => rfl
  | _ :: _, [], h => by cases h
  | x :: a, y :: b, h => by
    rw [HT.lexLt_cons] at h ⊢
    by_cases e : x = y
    · subst e
      rw [if_pos rfl] at h ⊢
      exact lex_asym h
    · rw [if_neg e] at h
      rw [if_neg fun z => e z.symm]
      simp at h ⊢
      omega
theorem lex_tr : ∀ {a b c : List Int}, HT.lexLt b a = false → HT.lexLt c b = false → HT.lexLt c a = false
  | [], _, [], _, _ => rfl
  | [], [], _ :: _, _, _ => rfl
  | [], _ :: _, _ :: _, _, _ => rfl
  | _ :: _, [], _, h, _ => by cases h
  | _ :: _, _ :: _, [], _, h => by cases h
  | x :: a, y :: b, z :: c, h, g => by
    rw [HT.lexLt_cons] at h g ⊢
    by_cases e : y = x
    · subst e
      rw [if_pos rfl] at h
      by_cases e2 : z = y
      · subst e2
        rw [if_pos rfl] at g ⊢
        exact lex_tr h g
      · rw [if_neg e2] at g ⊢
        exact g
    · rw [if_neg e] at h
      simp at h
      by_cases e2 : z = y
      · subst e2
        rw [if_neg e]
        simp
        omega
      · rw [if_neg e2] at g
        simp at g
        rw [if_neg (by omega)]
        simp
        omega
def leL (a b : List Int) : Bool := !HT.lexLt b a
def srtL (l : List (List Int)) : List (List Int) := l.mergeSort leL
theorem srtL_perm (l : List (List Int)) : (srtL l).Perm l := List.mergeSort_perm _ _
theorem srtL_pw (l : List (List Int)) : (srtL l).Pairwise fun a b => leL a b = true := List.pairwise_mergeSort (fun a b c h g => by
  unfold leL at h g ⊢
  simp only [Bool.not_eq_true'] at h g ⊢
  exact lex_tr h g) (fun a b => by
  unfold leL
  cases e : HT.lexLt b a with
  | false => rfl
  | true => rw [lex_asym e]; rfl) l
theorem srt_uniq : ∀ {a b : List (List Int)}, a.Perm b → a.Pairwise (fun a b => leL a b = true) → b.Pairwise (fun a b => leL a b = true) → a = b
  | [], b, h, _, _ => (List.nil_perm.mp h).symm
  | x :: a, [], h, _, _ => absurd h.length_eq (by simp)
  | x :: a, y :: b, h, pa, pb => by
    have e : x = y := by
      rcases List.mem_cons.mp (h.mem_iff.mp (List.mem_cons_self (a := x) (l := a))) with e | hx
      · exact e
      · rcases List.mem_cons.mp (h.mem_iff.mpr (List.mem_cons_self (a := y) (l := b))) with e | hy
        · exact e.symm
        · have h1 := List.rel_of_pairwise_cons pa hy
          have h2 := List.rel_of_pairwise_cons pb hx
          unfold leL at h1 h2
          simp only [Bool.not_eq_true'] at h1 h2
          exact lex_anti h2 h1
    subst e
    rw [srt_uniq (List.Perm.cons_inv h) pa.of_cons pb.of_cons]
theorem perm_nd : ∀ {a b : List (List Int)}, a.Nodup → b.Nodup → (∀ x, x ∈ a ↔ x ∈ b) → a.Perm b
  | [], [], _, _, _ => .refl _
  | [], y :: b, _, _, h => absurd ((h y).mpr (by simp)) (by simp)
  | x :: a, b, ha, hb, h => by
    obtain ⟨s, t, rfl⟩ := List.append_of_mem ((h x).mp (by simp))
    have hp : (s ++ x :: t).Perm (x :: (s ++ t)) := List.perm_middle
    have hb' := hp.nodup_iff.mp hb
    refine (List.Perm.cons x (perm_nd (List.nodup_cons.mp ha).2 (List.nodup_cons.mp hb').2 fun y => ?_)).trans hp.symm
    have h1 := h y
    rw [hp.mem_iff, List.mem_cons, List.mem_cons] at h1
    constructor
    · intro hy
      rcases h1.mp (.inr hy) with e | z
      · subst e; exact absurd hy (List.nodup_cons.mp ha).1
      · exact z
    · intro hy
      rcases h1.mpr (.inr hy) with e | z
      · subst e; exact absurd hy (List.nodup_cons.mp hb').1
      · exact z
theorem srt_rise {l : List (List Int)} (h : l.Nodup) : (srtL l).Pairwise fun a b => HT.lexLt a b = true := by
  have hn : (srtL l).Nodup := (srtL_perm l).nodup_iff.mpr h
  refine ((srtL_pw l).and hn).imp fun {a b} ⟨h1, h2⟩ => ?_
  unfold leL at h1
  simp only [Bool.not_eq_true'] at h1
  cases e : HT.lexLt a b with
  | true => rfl
  | false => exact absurd (lex_anti e h1) h2
/-! every order -/
def ordX (x : Int) (r : List Int) : List (List Int) := (List.range (r.length + 1)).map fun k => r.take k ++ [x] ++ r.drop k
def ordsL (xs : List Int) : List (List Int) := xs.foldl (fun t x => t.flatMap (ordX x)) [[]]
theorem ordsL_snoc (xs : List Int) (x : Int) : ordsL (xs ++ [x]) = (ordsL xs).flatMap (ordX x) := by unfold ordsL; rw [List.foldl_append]; rfl
theorem insA_fil {r : List Int} {k : Nat} {x : Int} (h : x ∉ r) : (insA r k x).filter (fun y => y != x) = r := by
  unfold insA
  rw [List.filter_append, List.filter_append]
  have h1 : (r.take k).filter (fun y => y != x) = r.take k := List.filter_eq_self.mpr fun y hy => by
    have : y ≠ x := fun e => h (e ▸ List.mem_of_mem_take hy)
    simpa using this
  have h2 : (r.drop k).filter (fun y => y != x) = r.drop k := List.filter_eq_self.mpr fun y hy => by
    have : y ≠ x := fun e => h (e ▸ List.mem_of_mem_drop hy)
    simpa using this
  rw [h1, h2]
  simp
theorem insA_idx {r : List Int} {k : Nat} {x : Int} (h : x ∉ r) (hk : k ≤ r.length) : (insA r k x).idxOf x = k := by
  unfold insA
  rw [List.append_assoc, List.idxOf_append, if_neg (fun hm => h (List.mem_of_mem_take hm))]
  simp
  omega
theorem ords_ind {P : List Int → Prop} (h0 : P []) (hs : ∀ (xs : List Int) (x : Int), P xs → P (xs ++ [x])) : ∀ (n : Nat) (xs : List Int), xs.length = n → P xs
  | 0, xs, h => by rw [List.length_eq_zero_iff.mp h]; exact h0
  | n + 1, xs, h => by
    obtain ⟨xs', x, rfl⟩ : ∃ xs' x, xs = xs' ++ [x] := ⟨xs.dropLast, xs.getLast (List.ne_nil_of_length_pos (by omega)), (List.dropLast_concat_getLast _).symm⟩
    exact hs xs' x (ords_ind h0 hs n xs' (by simpa using h))
theorem mem_ordsL (xs : List Int) : ∀ M : List Int, M ∈ ordsL xs ↔ M.Perm xs := by
  refine ords_ind (P := fun xs => ∀ M : List Int, M ∈ ordsL xs ↔ M.Perm xs) ?_ ?_ _ xs rfl
  · intro M
    show M ∈ [[]] ↔ _
    rw [List.mem_singleton, List.perm_nil]
  · intro xs x ih M
    rw [ordsL_snoc]
    have hc : (xs ++ [x]).Perm (x :: xs) := List.perm_append_singleton x xs
    constructor
    · intro h
      obtain ⟨r, hr, h⟩ := List.mem_flatMap.mp h
      obtain ⟨k, _, rfl⟩ := List.mem_map.mp h
      exact ((insA_perm r k x).trans (((ih r).mp hr).cons x)).trans hc.symm
    · intro h
      obtain ⟨s, t, rfl⟩ := List.append_of_mem (h.mem_iff.mpr (show x ∈ xs ++ [x] by simp))
      have h1 : (s ++ t).Perm xs := List.Perm.cons_inv ((List.perm_middle.symm.trans h).trans hc)
      refine List.mem_flatMap.mpr ⟨s ++ t, (ih _).mpr h1, List.mem_map.mpr ⟨s.length, List.mem_range.mpr (by simp; omega), ?_⟩⟩
      simp
theorem ordsL_nd (xs : List Int) : xs.Nodup → (ordsL xs).Nodup := by
  refine ords_ind (P := fun xs => xs.Nodup → (ordsL xs).Nodup) ?_ ?_ _ xs rfl
  · intro _
    exact List.pairwise_singleton _ _
  · intro xs x ih hn
    have hc : (xs ++ [x]).Perm (x :: xs) := List.perm_append_singleton x xs
    obtain ⟨hx, hn'⟩ := List.nodup_cons.mp (hc.nodup_iff.mp hn)
    rw [ordsL_snoc]
    refine List.pairwise_flatMap.mpr ⟨fun r hr => ?_, (ih hn').imp_of_mem fun {r r'} hr hr' hne u hu v hv e => hne ?_⟩
    · have hxr : x ∉ r := fun h => hx (((mem_ordsL xs r).mp hr).mem_iff.mp h)
      refine List.pairwise_map.mpr (List.nodup_range.imp_of_mem fun {i j} hi hj hne e => hne ?_)
      have hi := List.mem_range.mp hi
      have hj := List.mem_range.mp hj
      have e1 := insA_idx (k := i) hxr (by omega)
      have e2 := insA_idx (k := j) hxr (by omega)
      unfold insA at e1 e2
      rw [← e1, ← e2, e]
    · have hxr : x ∉ r := fun h => hx (((mem_ordsL xs r).mp hr).mem_iff.mp h)
      have hxr' : x ∉ r' := fun h => hx (((mem_ordsL xs r').mp hr').mem_iff.mp h)
      obtain ⟨i, _, rfl⟩ := List.mem_map.mp hu
      obtain ⟨j, _, rfl⟩ := List.mem_map.mp hv
      have e1 := insA_fil (k := i) hxr
      have e2 := insA_fil (k := j) hxr'
      unfold insA at e1 e2
      rw [← e1, ← e2, e]
end Sh
namespace Sh
open PySem PySem.Spec PyProof.Rows L2 Lx Ld
open PySem.W (DatumOrd Tup Datum listLt dataLe dataLt)
theorem listLt_lex : ∀ a b : List Int, listLt a b = HT.lexLt a b
  | [], [] => rfl
  | [], _ :: _ => rfl
  | _ :: _, [] => rfl
  | x :: a, y :: b => by
    rw [HT.lexLt_cons, listLt, listLt_lex a b]
    rfl
theorem dataLe_tup (a b : List Int) : dataLe false id (.tuple (iL a)) (.tuple (iL b)) = leL a b := by
  rw [PySem.W.dataLe_eq]
  show (!dataLt (.tuple (iL b)) (.tuple (iL a))) = !HT.lexLt b a
  rw [← listLt_lex]
  congr 1
  exact DatumOrd.lt_eq (α := Tup Int) ⟨b⟩ ⟨a⟩
theorem srtD (l : List (List Int)) : (l.map fun o => PyData.tuple (iL o)).mergeSort (dataLe false id) = tL (srtL l) := by
  unfold tL srtL
  exact (List.map_mergeSort (l := l) (r := leL) (s := dataLe false id) (f := fun o => PyData.tuple (iL o)) (fun a _ b _ => (dataLe_tup a b).symm)).symm
theorem ahead_eq (N : List Int) (b : Nat) : ((allA N b).map fun o => PyData.tuple (iL (rowF (dsc N) o))).mergeSort (dataLe false id) = tL (srtL (aheadL N b)) := by
  rw [← srtD]
  unfold aheadL
  rw [List.map_map]
  rfl
theorem flat_len {α β : Type} {f : α → List β} {c : Nat} : ∀ {l : List α}, (∀ x ∈ l, (f x).length = c) → (l.flatMap f).length = l.length * c
  | [], _ => by simp
  | x :: l, h => by
    rw [List.flatMap_cons, List.length_append, h x (by simp), flat_len fun y hy => h y (by simp [hy]), List.length_cons, Nat.succ_mul, Nat.add_comm]
theorem ordsL_succ {xs : List Int} {x : Int} : (ordsL (xs ++ [x])).length = (ordsL xs).length * (xs.length + 1) := by
  rw [ordsL_snoc]
  refine flat_len fun r hr => ?_
  unfold ordX
  rw [List.length_map, List.length_range, ((mem_ordsL xs r).mp hr).length_eq]
def fac : Nat → Nat
  | 0 => 1
  | n + 1 => fac n * (n + 1)
theorem ordsL_len (xs : List Int) : (ordsL xs).length = fac xs.length := by
  refine ords_ind (P := fun xs => (ordsL xs).length = fac xs.length) rfl ?_ _ xs rfl
  intro xs x ih
  rw [ordsL_succ, ih, List.length_append]
  rfl
theorem fac_le : ∀ n : Nat, n ≤ 5 → fac n ≤ 120 := by decide
/-- few numbers: every order that comes to the row is told -/
theorem few_perm {N : List Int} (hN : N.Nodup) (b : Nat) : (aheadL N b).Perm ((ordsL N).filter fun M => decide (pastL true b M = N)) := by
  refine perm_nd (aheadL_nd hN) ((ordsL_nd N hN).filter _) fun M => ?_
  rw [mem_aheadL hN, List.mem_filter, mem_ordsL, decide_eq_true_eq]
theorem few_eq {N : List Int} (hN : N.Nodup) (b : Nat) : srtL (aheadL N b) = srtL ((ordsL N).filter fun M => decide (pastL true b M = N)) :=
  srt_uniq (((srtL_perm _).trans (few_perm hN b)).trans (srtL_perm _).symm) (srtL_pw _) (srtL_pw _)
theorem few_many {N : List Int} (hN : N.Nodup) (b : Nat) (h : N.length ≤ 5) : manyA N b ≤ 120 := by
  rw [← aheadL_len, (few_perm hN b).length_eq]
  refine Nat.le_trans (List.length_filter_le _ _) ?_
  rw [ordsL_len]
  exact fac_le _ h
theorem canL_lenE {c r b : Nat} : (canL c r b).length = if c > 0 then (if c + b ≤ r then 1 else 0) else min r b + 1 := by
  unfold canL
  by_cases h : c = 0
  · rw [if_pos h, if_neg (by omega)]
    simp
  · have h0 : c > 0 := by omega
    rw [if_neg h]
    by_cases g : c + b ≤ r
    · simp [h0, g]
    · simp [h0, g]
end Sh
namespace Sh
open PySem PySem.Spec PyProof.Rows L2 Lx Ld
theorem adj_none : ∀ {L : List (List Int)}, L.Pairwise (fun a b => HT.lexLt a b = true) → (L.zip L.tail).filter (fun p => !HT.lexLt p.1 p.2) = []
  | [], _ => rfl
  | [_], _ => rfl
  | x :: y :: t, h => by
    show ((x, y) :: (y :: t).zip t).filter _ = []
    rw [List.filter_cons, if_neg (by rw [List.rel_of_pairwise_cons h (by simp)]; decide)]
    exact adj_none (L := y :: t) h.of_cons
theorem zip_tL (L : List (List Int)) : zipD (tL L) (Ld.cutD (tL L) (some 1) none) = (L.zip L.tail).map fun p => PyData.tuple [.tuple (iL p.1), .tuple (iL p.2)] := by
  show zipD (tL L) (Ld.cutD (tL L) (some ((1 : Nat) : Int)) none) = _
  rw [cut_from]
  unfold zipD tL
  rw [← List.map_drop, List.drop_one, List.zip_map, List.map_map]
  rfl
theorem any_tL {L : List (List Int)} {M : List Int} (h : M ∈ L) : (tL L).any (fun z => PyData.eqv z (.tuple (iL M))) = true := by
  refine List.any_eq_true.mpr ⟨.tuple (iL M), List.mem_map.mpr ⟨M, h, rfl⟩, ?_⟩
  rw [eqv_t]
  exact decide_eq_true rfl
section
variable {K : PySem.W.Frag} {Γ : List Cell} {Θ : List Tmp}
theorem r2_eqTL {x y : Tmp} {xs ys : List (List Int)} {Q : List Cell → Tmp → Prop} (hx : rd Γ x (.list (tL xs))) (hy : rd Γ y (.list (tL ys))) (q : Q Γ (.dt (.bool (decide (xs = ys))))) : R2V K (rEqD K) Γ Θ x y Q := r2_eqD hx hy (shp_ok (shp_tL _) (by decide)) (shp_ok (shp_tL _) (by decide)) (by rw [eqv_tL]; exact q)
theorem c1_sortTL {L : List (List Int)} {Q : List Cell → Tmp → Prop} (h : L.length ≤ 1 ∨ ∀ M ∈ L, M ≠ []) (q : Q Γ (.fr (tL (srtL L)))) : C1V K (rSortedD1 K) Γ Θ (.fr (tL L)) Q := by
  refine c1_sortedD1 ?_ (fun d hd => ?_) ?_
  · rcases h with h | h
    · exact .inl (by rw [tL, List.length_map]; exact h)
    · refine .inr ⟨fun d hd d' hd' => ?_, .inl fun d hd => ?_⟩
      · obtain ⟨l, _, rfl⟩ := List.mem_map.mp hd
        obtain ⟨l', _, rfl⟩ := List.mem_map.mp hd'
        exact alike_ti l l'
      · obtain ⟨l, hl, rfl⟩ := List.mem_map.mp hd
        cases l with
        | nil => exact absurd rfl (h _ hl)
        | cons u v => exact ⟨_, _, rfl⟩
  · obtain ⟨l, _, rfl⟩ := List.mem_map.mp hd
    exact Nat.le_trans (shp_ti _).2 (by decide)
  · rw [show (tL L).mergeSort (PySem.W.dataLe false id) = tL (srtL L) from srtD L]
    exact q
end
end Sh
set_option Elab.async false
set_option linter.all false
set_option maxRecDepth 100000
namespace Ld
open PySem PySem.Spec PyProof.Rows L2 Lx
section
variable {K : PySem.W.Frag} {mg : Str → Option Value}
theorem fun_of {x : Str} {st : Stmt} {f : Addr} {fd : FuncData} (F : FunD K x x (defArgs st) (defBody st) (defScope st) [] [] f fd) : Fun K x x st f fd := by
  obtain ⟨oc, od, dV, kV, doc, pm, an, cdv, ct, osl, e, lk, hcd, hd, _⟩ := F.ex
  rcases hd with ⟨_, hd⟩ | ⟨hd, _⟩
  · subst hd
    exact ⟨⟨oc, od, kV, doc, pm, an, cdv, ct, osl, e, lk, hcd⟩, F.kp⟩
  · exact absurd rfl hd
theorem Df.of {x : Str} {st : Stmt} {ps : List Str} {f : Addr} {fd : FuncData} (F : FunD K x x (defArgs st) (defBody st) (defScope st) [] [] f fd) (g : mg x = some (.ref f))
    (h : ∀ (kV doc pm : Value) (an : Option Addr) (cdv ct : Value) (us : List Value), us.length = ps.length → bindArgs (PySem.W.fnOf x x (defArgs st) (defBody st) (defScope st) .none kV doc pm an cdv ct) ⟨us, []⟩ = pure (ps.zip us)) : Df K mg x st ps f fd :=
  ⟨fun_of F, g, (fun_of F).binds h⟩
theorem law_sp {H : Hp} {a : Addr} {ns : List Int} (hl : ns.length ≤ 63) (hS : SqL K H a (ns.map V.int)) : spF K (fun ns : List Int => [.sc ns]) (fun ns => ns.length ≤ 63) (fun _ => .bool true) [.ref a] H (fun v _ => v = .bl true) fun _ _ _ => False :=
  ⟨H, ns, Same.refl _, .cons ⟨a, rfl, hS⟩ .nil, hl, fun v S' d _ _ hd e => by
    subst e
    exact dp_bool hd⟩
end
end Ld
set_option Elab.async false
set_option linter.all false
set_option maxRecDepth 100000
set_option autoImplicit false
set_option maxHeartbeats 8000000
namespace Sh
open PySem PySem.Spec PyProof.Rows L2 Lx Ld
local macro_rules | `(tactic| walk_at "n") => `(tactic| first
  | exact nb_nil
  | exact nb_srcT
  | exact nb_app nb_srcT nb_nil
  | (refine nb_dt ?_; walk_at "n")
  | (refine nb_fr ?_; walk_at "n")
  | (refine nb_sc ?_; walk_at "n")
  | (refine nb_arg ?_; walk_at "n")
  | (refine nb_br (by decide) ?_; walk_at "n")
  | (refine nb_app nb_srcT ?_; walk_at "n"))
local macro_rules | `(tactic| fail "walk VE0") => `(tactic| first
  | ((with_reducible apply ve_var); exact rfl)
  | ((with_reducible apply ve_own); exact rfl; exact rfl)
  | ((with_reducible apply ve_scr); exact rfl)
  | ((with_reducible apply ve_ob); exact rfl)
  | (with_reducible refine ve_int ?_)
  | (with_reducible refine ve_bl ?_)
  | (with_reducible refine ve_non ?_)
  | (with_reducible refine ve_str ?_))
local macro_rules | `(tactic| fail "walk VE1") => `(tactic| first
  | (with_reducible refine ve_op ?_)
  | (with_reducible refine ve_isi ?_)
  | (with_reducible refine ve_c1 ?_)
  | (with_reducible refine ve_c2 ?_)
  | (with_reducible refine ve_callLF ?_)
  | (with_reducible refine ve_callL ?_)
  | (with_reducible refine ve_callNL ?_)
  | (with_reducible refine ve_callV ⟨_, isl_ow rfl⟩ ?_))
local macro_rules | `(tactic| fail "walk VE2") => `(tactic| first
  | (with_reducible refine ve_callOrF ?_)
  | (with_reducible refine ve_callF ?_)
  | (with_reducible refine ve_callFd ?_)
  | (with_reducible refine ve_callG ?_)
  | (with_reducible refine ve_callW ?_)
  | (with_reducible refine ve_tup ?_)
  | (with_reducible refine ve_tidxI ?_)
  | (with_reducible refine ve_popAt ⟨_, isl_ow rfl⟩ ?_))
local macro_rules | `(tactic| fail "walk VE3") => `(tactic| first
  | (with_reducible refine ve_pop0 ⟨_, isl_ow rfl⟩ ?_)
  | (with_reducible refine ve_append ⟨_, isl_ow rfl⟩ (vx_of ?_))
  | (with_reducible refine ve_append ⟨_, isl_ln rfl⟩ (vx_of ?_))
  | (with_reducible refine ve_insert ⟨_, isl_ow rfl⟩ (vx_of ?_))
  | (with_reducible refine ve_extend ⟨_, isl_ow rfl⟩ (vx_of ?_))
  | (with_reducible refine ve_indexI ?_)
  | (with_reducible refine ve_lcount ?_)
  | (with_reducible refine ve_remove ⟨_, isl_ln rfl⟩ ?_))
local macro_rules | `(tactic| fail "walk VE4") => `(tactic| first
  | (with_reducible refine ve_remove ⟨_, isl_ow rfl⟩ ?_)
  | (with_reducible refine ve_ifS ?_)
  | (with_reducible refine ve_ifE ?_)
  | (with_reducible refine ve_lst ?_)
  | (with_reducible refine ve_chain ?_)
  | ((with_reducible apply ve_fldSh); assumption; exact rfl)
  | (with_reducible refine ve_split ?_)
  | (with_reducible refine ve_rmp ?_))
local macro_rules | `(tactic| fail "walk VE5") => `(tactic| first
  | (with_reducible refine ve_join ?_)
  | (with_reducible refine ve_dnew ?_)
  | (with_reducible refine ve_dictZip ?_)
  | (with_reducible refine ve_dget ⟨_, rfl⟩ ?_)
  | (with_reducible refine ve_notV ?_)
  | (with_reducible refine ve_notTp ?_)
  | (with_reducible refine ve_andV ?_)
  | (with_reducible refine ve_orV ?_))
local macro_rules | `(tactic| fail "walk VE6") => `(tactic| first
  | (with_reducible refine ve_maxD ?_)
  | (with_reducible refine ve_un rfl ?_)
  | (with_reducible refine ve_lenSet ?_)
  | (with_reducible refine ve_revL ?_)
  | (with_reducible refine ve_slL ?_)
  | (with_reducible refine ve_slT ?_)
  | (with_reducible refine ve_slS ?_)
  | (with_reducible refine ve_lstRg1 ?_))
local macro_rules | `(tactic| fail "walk VE7") => `(tactic| first
  | (with_reducible refine ve_lstRg2 ?_)
  | (with_reducible refine ve_tidxO ?_))
local macro_rules | `(tactic| fail "walk VE") => `(tactic| first | fail "walk VE0" | fail "walk VE1" | fail "walk VE2" | fail "walk VE3" | fail "walk VE4" | fail "walk VE5" | fail "walk VE6" | fail "walk VE7")
local macro_rules | `(tactic| fail "walk VSs0") => `(tactic| first
  | (with_reducible refine ss_seq ?_)
  | (with_reducible refine ss_set fun ss => ?_)
  | (with_reducible refine ss_parT fun ss => ?_)
  | (with_reducible refine ss_setL fun ss => vx_of ?_)
  | (with_reducible refine ss_swap fun ss => ?_)
  | (with_reducible refine ss_asg4 (by decide) fun ss => ?_)
  | (with_reducible refine ss_asgG fun ss => ?_)
  | (with_reducible refine ss_if fun ss => ?_))
local macro_rules | `(tactic| fail "walk VSs1") => `(tactic| first
  | (with_reducible refine ss_ret fun ss => vd_of ?_)
  | (with_reducible refine ss_retN ?_)
  | (with_reducible refine ss_drop fun ss => ?_)
  | (with_reducible refine ss_par fun ss => ?_)
  | (with_reducible refine ss_par3 fun ss => ?_)
  | (with_reducible refine ss_next ?_)
  | (with_reducible refine ss_cont ?_)
  | (with_reducible refine ss_dput fun ss => ?_))
local macro_rules | `(tactic| fail "walk VSs2") => `(tactic| first
  | (with_reducible refine ss_augI ⟨_, rfl⟩ fun ss => ?_)
  | (with_reducible refine ss_augI0 ⟨_, rfl⟩ fun ss => ?_))
local macro_rules | `(tactic| fail "walk VSs") => `(tactic| first | fail "walk VSs0" | fail "walk VSs1" | fail "walk VSs2")
local macro_rules | `(tactic| fail "walk VAX") => `(tactic| first
  | (with_reducible refine vax_cons (vx_of ?_))
  | (with_reducible refine vax_star ?_)
  | (with_reducible refine vax_nil ?_))
local macro_rules | `(tactic| fail "walk VX") => `(tactic| first
  | (with_reducible refine vx_of ?_))
local macro_rules | `(tactic| fail "walk VT") => `(tactic| first
  | (with_reducible refine vt_B ?_)
  | (with_reducible refine vt_test ?_)
  | (with_reducible refine vt_and ?_)
  | (with_reducible refine vt_or ?_)
  | (with_reducible refine vt_not ?_)
  | (with_reducible refine vt_yes ?_)
  | (with_reducible refine vt_truL ?_)
  | (with_reducible refine vt_truTp ?_))
local macro_rules | `(tactic| fail "walk VD") => `(tactic| first
  | (with_reducible refine vd_of ?_))
local macro_rules | `(tactic| fail "walk R2V0") => `(tactic| first
  | (with_reducible refine r2_inS ?_)
  | (with_reducible refine r2_notInS ?_)
  | (with_reducible refine r2_ii ?_)
  | (with_reducible refine r2_ib ?_)
  | (with_reducible refine r2_eqI ?_)
  | (with_reducible refine r2_neI ?_)
  | (with_reducible refine r2_ic (by first | (show (_ : Int) < _; omega) | (unfold L2.CMul; omega) | (unfold L2.CDiv; omega) | (unfold L2.CPow; omega)) ?_)
  | (with_reducible refine r2_isB ?_))
local macro_rules | `(tactic| fail "walk R2V1") => `(tactic| first
  | (with_reducible refine r2_notB ?_)
  | (with_reducible refine r2_isN rd_dt ?_)
  | (with_reducible refine r2_notN rd_dt ?_)
  | (with_reducible refine r2_eqW ?_)
  | (with_reducible refine r2_eqWW ?_)
  | (with_reducible refine r2_eqB ?_)
  | (with_reducible refine r2_neB ?_))
local macro_rules | `(tactic| fail "walk R2V") => `(tactic| first | fail "walk R2V0" | fail "walk R2V1")
local macro_rules | `(tactic| fail "walk C1V0") => `(tactic| first
  | (with_reducible refine c1_strS ?_)
  | (with_reducible refine c1_strI (by omega) ?_)
  | (with_reducible refine c1_len (sq_l rd_dt) ?_)
  | (with_reducible refine c1_len (sq_l rd_fr) ?_)
  | (with_reducible refine c1_len sq_t ?_)
  | (with_reducible refine c1_len (sq_l (rd_ow rfl)) ?_)
  | (with_reducible refine c1_len (sq_l (rd_ln rfl)) ?_)
  | (with_reducible refine c1_tupL (rd_ow rfl) ?_))
local macro_rules | `(tactic| fail "walk C1V1") => `(tactic| first
  | (with_reducible refine c1_listL (rd_ow rfl) ?_)
  | (with_reducible refine c1_lenS ?_)
  | (with_reducible refine c1_intB ?_)
  | (with_reducible refine c1_intI ?_)
  | (with_reducible refine c1_tupT ?_)
  | (with_reducible refine c1_tupL rd_dt ?_)
  | (with_reducible refine c1_tupL rd_fr ?_)
  | (with_reducible refine c1_listT ?_))
local macro_rules | `(tactic| fail "walk C1V2") => `(tactic| first
  | (with_reducible refine c1_listL rd_dt ?_)
  | (with_reducible refine c1_listL rd_fr ?_))
local macro_rules | `(tactic| fail "walk C1V") => `(tactic| first | fail "walk C1V0" | fail "walk C1V1" | fail "walk C1V2")
local macro_rules | `(tactic| fail "walk VI0") => `(tactic| first
  | (with_reducible refine vi_str ?_)
  | (with_reducible refine vi_list ?_)
  | (with_reducible refine vi_tup ?_)
  | (with_reducible refine vi_rng1 ?_)
  | (with_reducible refine vi_rng2 ?_)
  | (with_reducible refine vi_enum ?_)
  | (with_reducible refine vi_enumT ?_)
  | (with_reducible refine vi_zip ?_))
local macro_rules | `(tactic| fail "walk VI1") => `(tactic| first
  | (with_reducible refine vi_zipM ?_)
  | (with_reducible refine vi_zipT2 ?_)
  | (with_reducible refine vi_zipLT ?_))
local macro_rules | `(tactic| fail "walk VI") => `(tactic| first | fail "walk VI0" | fail "walk VI1")
local macro_rules | `(tactic| fail "walk VG") => `(tactic| first
  | (with_reducible refine vg_name ?_)
  | (with_reducible refine vg_pair ?_)
  | (with_reducible refine vg_three ?_)
  | (with_reducible refine vg_nest ?_))
local macro_rules | `(tactic| fail "walk AsB") => `(tactic| first
  | (with_reducible refine asb ?_))
local macro_rules | `(tactic| fail "walk C2V") => `(tactic| first
  | (with_reducible refine c2_max ?_)
  | (with_reducible refine c2_min ?_))
local macro_rules | `(tactic| fail "walk VO") => `(tactic| first
  | (with_reducible refine vo_none ?_)
  | (with_reducible refine vo_some ?_))
local macro_rules | `(tactic| fail "walk Fz") => `(tactic| first
  | (with_reducible refine fz_dt ?_)
  | (with_reducible refine fz_fr ?_)
  | ((with_reducible apply fz_br); exact rfl))
local macro_rules | `(tactic| fail "walk Az") => `(tactic| first
  | (with_reducible refine az_dt ?_)
  | (with_reducible refine az_fr ?_)
  | (with_reducible refine az_sc ?_)
  | ((with_reducible apply az_br); exact rfl))
local macro_rules | `(tactic| fail "walk Sto") => `(tactic| first
  | (with_reducible refine sto_dt ?_)
  | (with_reducible refine sto_ob ?_)
  | (with_reducible refine sto_fr ?_)
  | ((with_reducible apply sto_br); exact rfl))
local macro_rules | `(tactic| fail "walk VSt") => `(tactic| first
  | (with_reducible refine st_seqT ?_)
  | (with_reducible refine st_ret fun ss => ?_)
  | (with_reducible refine st_if fun ss => ?_)
  | (with_reducible refine st_of ?_))
local macro_rules | `(tactic| fail "walk gen0") => `(tactic| first
  | (with_reducible refine fl_fr ?_)
  | ((with_reducible apply fl_br); exact rfl)
  | (refine ⟨⟨_, rd_dt⟩, ?_⟩)
  | (refine ⟨⟨_, rd_ow rfl⟩, ?_⟩)
  | (refine ⟨_, _, rfl, kb_ss, ?_⟩)
  | (refine ⟨_, _, rfl, kb_bb, ?_⟩)
  | (with_reducible refine b2 (fun hb => ?_) (fun hb => ?_))
  | (refine ⟨_, _, rfl, kb_tt, ?_⟩))
local macro_rules | `(tactic| fail "walk gen1") => `(tactic| first
  | (refine ⟨_, _, rfl, kb_ii, ?_⟩)
  | (refine ⟨_, _, rfl, kb_ib, ?_⟩)
  | (refine ⟨_, _, rfl, kb_ll, ?_⟩)
  | (refine ⟨_, (rfl : dts _ = some _), gl_le (by simp), ?_⟩)
  | (refine ⟨_, (rfl : Tmp.dt (.int _) = Tmp.dt (.int _)), ?_⟩)
  | (refine ⟨_, (rfl : Tmp.dt (.tuple _) = Tmp.dt (.tuple _)), ?_⟩)
  | (refine ⟨_, (rfl : PyData.list _ = PyData.list _), ?_⟩)
  | (refine ⟨_, (rfl : PyData.tuple _ = PyData.tuple _), ?_⟩))
local macro_rules | `(tactic| fail "walk gen2") => `(tactic| first
  | (refine ⟨_, rd_fr, ?_⟩)
  | (refine ⟨_, rd_dt, ?_⟩)
  | (refine ⟨_, rd_ow rfl, ?_⟩)
  | (refine ⟨⟨_, rfl⟩, ?_⟩)
  | (refine ⟨⟨_, isl_ow rfl⟩, ?_⟩)
  | (refine ⟨⟨_, isl_ln rfl⟩, ?_⟩)
  | (refine ⟨(by intro k z; cases z), _, _, rfl, rfl, ?_⟩)
  | (dsimp only [DE.wn]))
local macro_rules | `(tactic| fail "walk gen3") => `(tactic| first
  | (exact absurd (by assumption) Bool.false_ne_true)
  | (exact absurd (by assumption) Bool.false_ne_true.symm))
local macro_rules | `(tactic| fail "walk gen") => `(tactic| first | fail "walk gen0" | fail "walk gen1" | fail "walk gen2" | fail "walk gen3")
local macro_rules | `(tactic| fail "walk small") => `(tactic| first | (guard_target =~ VI ..; fail "walk VI") | (guard_target =~ VG ..; fail "walk VG") | (guard_target =~ AsB ..; fail "walk AsB") | (guard_target =~ C2V ..; fail "walk C2V") | (guard_target =~ VO ..; fail "walk VO") | (guard_target =~ Fz ..; fail "walk Fz") | (guard_target =~ Az ..; fail "walk Az") | (guard_target =~ Sto ..; fail "walk Sto") | (guard_target =~ VSt ..; fail "walk VSt"))
local macro_rules | `(tactic| fail "walk") => `(tactic| first | (guard_target =~ VE ..; fail "walk VE") | (guard_target =~ VSs ..; fail "walk VSs") | (guard_target =~ VAX ..; fail "walk VAX") | (guard_target =~ VX ..; fail "walk VX") | (guard_target =~ VT ..; fail "walk VT") | (guard_target =~ VD ..; fail "walk VD") | (guard_target =~ R2V ..; fail "walk R2V") | (guard_target =~ C1V ..; fail "walk C1V") | fail "walk small" | fail "walk gen" | fail "no step")
local macro_rules | `(tactic| walk_at "v") => `(tactic| fail "walk")
local macro_rules | `(tactic| walk_at "s") => `(tactic| (try dsimp only [DE.wn, putC, Cell.put, List.getElem?_cons_zero, List.getElem?_cons_succ, cxOf, cells0, List.map, Arg.cell, Arg.tmp, List.length, List.replicate, List.append, List.cons_append, List.nil_append, List.set, Nat.reduceAdd, Nat.reduceSub, List.reduceReplicate, clr, List.set_cons_zero, List.set_cons_succ]))
local macro_rules | `(tactic| walk_at "w") => `(tactic| (repeat' fail "walk"))
section
variable {P : Program} {w : World} {K : PySem.W.Frag} {mg : Str → Option Value} {base : Heap}
theorem ok__law_which {f : Addr} {fd : FuncData} (D : Df K mg "_law_which" s__law_which ["_law_e"] f fd) {C_NoRow : Addr} (g_NoRow : mg "NoRow" = some (.ref C_NoRow)) {C_NoShelf : Addr} (g_NoShelf : mg "NoShelf" = some (.ref C_NoShelf)) {C_NoLine : Addr} (g_NoLine : mg "NoLine" = some (.ref C_NoLine)) {C_NoPlaces : Addr} (g_NoPlaces : mg "NoPlaces" = some (.ref C_NoPlaces)) {C_Marked : Addr} (g_Marked : mg "Marked" = some (.ref C_Marked)) {C_NoCounts : Addr} (g_NoCounts : mg "NoCounts" = some (.ref C_NoCounts)) {C_NoLetting : Addr} (g_NoLetting : mg "NoLetting" = some (.ref C_NoLetting)) {C_TooMany : Addr} (g_TooMany : mg "TooMany" = some (.ref C_TooMany)) {C_NoMove : Addr} (g_NoMove : mg "NoMove" = some (.ref C_NoMove)) {C_NoText : Addr} (g_NoText : mg "NoText" = some (.ref C_NoText)) {C_NoNumber : Addr} (g_NoNumber : mg "NoNumber" = some (.ref C_NoNumber)) {C_Nothing : Addr} (g_Nothing : mg "Nothing" = some (.ref C_Nothing)) (m_isinstance : mg "isinstance" = none) (m_ValueError : mg "ValueError" = none) {idx : Addr → Option Int} (hK : ∀ X n, idx X = some n → KitF K X n [C_NoRow, C_NoShelf, C_NoLine, C_NoPlaces, C_Marked, C_NoCounts, C_NoLetting, C_TooMany, C_NoMove, C_NoText, C_NoNumber, C_Nothing]) : Xa.FnE P w K mg base 1 f fd ["_law_e"] (spE idx) := by
  obtain ⟨oc, od, kV, doc, pm, an, cdv, ct, osl, rfl, lk, hcd⟩ := D.F.ex
  refine Xa.fn_ofE lk hcd sc__law_which (fun a c d vs H Q E h => by obtain ⟨rfl, _⟩ := h; rfl) fun A outer s H vs Q E p cls d hot hz hr h => ?_
  obtain ⟨rfl, hn, rfl, X, n, rfl, hi, B, sub, q⟩ := h
  have kf := hK X n hi
  obtain ⟨hh, vs0, hv0, hc0⟩ := hot
  have ci : CallR (L2H.cxH CX0 P w K mg base ["_law_e", "_law_own"] "_law_which" (defScope s__law_which) f cdv A outer s H E p) (.builtin "isinstance") (rIsE K X p.1) := Xa.call_isX (a := p.1) (oe := p.2) (List.mem_singleton.mpr rfl) kf.e hz.zc ⟨vs0, hv0⟩
  refine ⟨_, (pss_cons (ps_set (i := 1) sc__law_which.nd rfl (Or.inl rfl) (pe_lst (pa_cons (pe_callB ci (by rfl) m_isinstance (by decide +kernel) (pa_cons (pv 0) (pa_cons (pe_glob (v := .ref C_NoRow) (by rfl) g_NoRow rfl) pa_nil))) (pa_cons (pe_callB ci (by rfl) m_isinstance (by decide +kernel) (pa_cons (pv 0) (pa_cons (pe_glob (v := .ref C_NoShelf) (by rfl) g_NoShelf rfl) pa_nil))) (pa_cons (pe_callB ci (by rfl) m_isinstance (by decide +kernel) (pa_cons (pv 0) (pa_cons (pe_glob (v := .ref C_NoLine) (by rfl) g_NoLine rfl) pa_nil))) (pa_cons (pe_callB ci (by rfl) m_isinstance (by decide +kernel) (pa_cons (pv 0) (pa_cons (pe_glob (v := .ref C_NoPlaces) (by rfl) g_NoPlaces rfl) pa_nil))) pa_nil))))))
      (pss_cons (ps_expr (pe_bm PySem.F.plainAttrs_list PySem.F.slot_list_extend PySem.F.type_list_extend mt_extend (pv 1) (pa_cons (pe_lst (pa_cons (pe_callB ci (by rfl) m_isinstance (by decide +kernel) (pa_cons (pv 0) (pa_cons (pe_glob (v := .ref C_Marked) (by rfl) g_Marked rfl) pa_nil))) (pa_cons (pe_callB ci (by rfl) m_isinstance (by decide +kernel) (pa_cons (pv 0) (pa_cons (pe_glob (v := .ref C_NoCounts) (by rfl) g_NoCounts rfl) pa_nil))) (pa_cons (pe_callB ci (by rfl) m_isinstance (by decide +kernel) (pa_cons (pv 0) (pa_cons (pe_glob (v := .ref C_NoLetting) (by rfl) g_NoLetting rfl) pa_nil))) (pa_cons (pe_callB ci (by rfl) m_isinstance (by decide +kernel) (pa_cons (pv 0) (pa_cons (pe_glob (v := .ref C_TooMany) (by rfl) g_TooMany rfl) pa_nil))) pa_nil))))) pa_nil)))
      (pss_cons (ps_expr (pe_bm PySem.F.plainAttrs_list PySem.F.slot_list_extend PySem.F.type_list_extend mt_extend (pv 1) (pa_cons (pe_lst (pa_cons (pe_callB ci (by rfl) m_isinstance (by decide +kernel) (pa_cons (pv 0) (pa_cons (pe_glob (v := .ref C_NoMove) (by rfl) g_NoMove rfl) pa_nil))) (pa_cons (pe_callB ci (by rfl) m_isinstance (by decide +kernel) (pa_cons (pv 0) (pa_cons (pe_glob (v := .ref C_NoText) (by rfl) g_NoText rfl) pa_nil))) (pa_cons (pe_callB ci (by rfl) m_isinstance (by decide +kernel) (pa_cons (pv 0) (pa_cons (pe_glob (v := .ref C_NoNumber) (by rfl) g_NoNumber rfl) pa_nil))) (pa_cons (pe_callB ci (by rfl) m_isinstance (by decide +kernel) (pa_cons (pv 0) (pa_cons (pe_glob (v := .ref C_Nothing) (by rfl) g_Nothing rfl) pa_nil))) pa_nil))))) pa_nil)))
      (pss_cons (ps_if (PW.pt (pw_or (pt_cmpR op_ne (pe_bm PySem.F.plainAttrs_list PySem.F.slot_list_count PySem.F.type_list_count Xa.mt_lcountV (pv 1) (pa_cons pe_bl pa_nil)) pe_int (nomark _)) (pw_or1 (pt_not (pt_val (pe_callB ci (by rfl) m_isinstance (by decide +kernel) (pa_cons (pv 0) (pa_cons (pe_bltn (v := .ty "ValueError") (by rfl) m_ValueError (by decide +kernel) rfl) pa_nil)))))))) (pss_one (ps_ret (pe_tupF (pa_cons pe_str (pa_cons (pe_un un_neg pe_int) pa_nil))))) pss_nil)
      (pss_one (ps_ret (pe_tupF (pa_cons pe_str (pa_cons (pe_bm PySem.F.plainAttrs_list PySem.F.slot_list_index PySem.F.type_list_index mt_index (pv 1) (pa_cons pe_bl pa_nil)) pa_nil))))))))), ?_⟩
  have sz : ∀ {n : Nat}, n ≤ 12 → n ≤ sizeLine := fun h => Sh.gl_le (by omega)
  refine is_rd rfl (kf.o 0 _ rfl) (is_rd rfl (kf.o 1 _ rfl) (is_rd rfl (kf.o 2 _ rfl) (is_rd rfl (kf.o 3 _ rfl) ⟨sz (by simp), fun l hl => ?_⟩)))
  refine ⟨_, rfl, .inl ⟨rfl, _, .of upd_same⟩, is_rd rfl (kf.o 4 _ rfl) (is_rd rfl (kf.o 5 _ rfl) (is_rd rfl (kf.o 6 _ rfl) (is_rd rfl (kf.o 7 _ rfl) ⟨sz (by simp), fun l2 hl2 => ?_⟩)))⟩
  have n12 : l ≠ l2 := fun e => by rw [← e, upd_same] at hl2; cases hl2
  refine ⟨l, l2, _, _, rfl, rfl, by rw [upd_ne n12, upd_same], upd_same, sz (by simp), ?_⟩
  refine ⟨_, rfl, .inl ⟨rfl, _, .of upd_same⟩, is_rd rfl (kf.o 8 _ rfl) (is_rd rfl (kf.o 9 _ rfl) (is_rd rfl (kf.o 10 _ rfl) (is_rd rfl (kf.o 11 _ rfl) ⟨sz (by simp), fun l3 hl3 => ?_⟩)))⟩
  have n13 : l ≠ l3 := fun e => by rw [← e, upd_same] at hl3; cases hl3
  refine ⟨l, l3, _, _, rfl, rfl, by rw [upd_ne n13, upd_same], upd_same, sz (by simp), ?_⟩
  have hn0 := kf.n0
  have hn1 := kf.n1
  have hcs : n = 0 ∨ n = 1 ∨ n = 2 ∨ n = 3 ∨ n = 4 ∨ n = 5 ∨ n = 6 ∨ n = 7 ∨ n = 8 ∨ n = 9 ∨ n = 10 ∨ n = 11 := by omega
  refine ⟨_, rfl, .inl ⟨rfl, _, .of upd_same⟩, l, _, _, rfl, rfl, .of upd_same, rfl, rfl, ?_⟩
  refine ⟨rfl, _, rfl, ?_⟩
  have fin : ∀ {j : Nat} {bs : List V} {H1 : Hp}, n = (j : Int) → j < 12 → H1 l = some (.lst bs) → bs.all flatV = true → bs[j]? = some (.bl true) → (bs.take j).all (fun z => !eqV z (.bl true)) = true → (∀ a o, H a = some o → H1 a = some o) →
      tRet (tTupF (tCons (tC (V.str "refused")) (tCons (tBM K "list" (rIndex K) (tVar 1) (tCons (tC (V.bl true)) tNil)) tNil))) { nx := fun _ H' => Q .non H', rt := Q } (List.set (L2.start ["_law_e", "_law_own"] [V.ref p.fst]) 1 (some (V.ref l))) H1 := fun {j bs H1} e hj h1 h2 h3 h4 hk => by
    refine ⟨_, rfl, .inl ⟨rfl, _, .of h1⟩, l, bs, .bl true, j, .bl true, rfl, rfl, .of h1, rfl, h2, h3, rfl, idx_pre h4, ?_⟩
    refine ⟨sz (by simp), ?_⟩
    intro p2 o2 hd2 hp2
    have hB2 : B p2 = none := by
      cases e2 : B p2 with
      | none => rfl
      | some u => rw [hk p2 u (sub p2 u e2)] at hp2; cases hp2
    have keepB : ∀ a o, H a = some o → upd H1 p2 (.frz o2 (.tup [.str "refused", .int (j : Int)])) a = some o := fun a o ea => by
      rw [upd_ne (ne_of_none (hk a o ea) hp2)]
      exact hk a o ea
    refine q (.ref p2) ⟨upd B p2 (.frz o2 (.tup [.str "refused", .int (j : Int)])), upd H1 p2 (.frz o2 (.tup [.str "refused", .int (j : Int)]))⟩ ⟨fun a o ea => ?_, fun a o _ ea => keepB a o ea, fun a ea na => ?_, fun a na => ?_⟩ (fun a o ea => ?_) ?_
    · show upd B p2 _ a = some o
      rw [upd_ne (ne_of_none ea hB2)]
      exact ea
    · show upd B p2 _ a = none
      by_cases e3 : a = p2
      · subst e3
        cases e4 : H a with
        | none => exact absurd e4 na
        | some u => rw [hk a u e4] at hp2; cases hp2
      · rw [upd_ne e3]
        exact ea
    · cases e4 : H a with
      | none => exact absurd e4 na
      | some u =>
        show upd H1 p2 _ a ≠ none
        rw [keepB a u e4]
        exact fun z => nomatch z
    · have ea : upd B p2 (.frz o2 (.tup [.str "refused", .int (j : Int)])) a = some o := ea
      show upd H1 p2 _ a = some o
      by_cases e3 : a = p2
      · subst e3
        rw [upd_same] at ea ⊢
        exact ea
      · rw [upd_ne e3] at ea
        exact keepB a o (sub a o ea)
    · rw [e]
      exact .tup hd2 upd_same (.cons (.str _) (.cons (.int _) .nil))
  have h2n : H l2 = none := by rw [upd_ne n12.symm] at hl2; exact hl2
  have h3n : H l3 = none := by
    rw [upd_ne n13.symm] at hl3
    by_cases e3 : l3 = l2
    · rw [e3, upd_same] at hl3; cases hl3
    · rw [upd_ne e3, upd_ne n13.symm] at hl3; exact hl3
  have kp : ∀ (x1 x2 x3 x4 x5 : HO) a o, H a = some o → upd (upd (upd (upd (upd H l x1) l2 x2) l x3) l3 x4) l x5 a = some o := fun x1 x2 x3 x4 x5 a o ea => by
    rw [upd_ne (ne_of_none ea hl), upd_ne (ne_of_none ea h3n), upd_ne (ne_of_none ea hl), upd_ne (ne_of_none ea h2n), upd_ne (ne_of_none ea hl)]
    exact ea
  rcases hcs with rfl | rfl | rfl | rfl | rfl | rfl | rfl | rfl | rfl | rfl | rfl | rfl
  · refine ite_f (by decide) (is_rdV rfl kf.v ⟨true, rfl, ite_f rfl ?_⟩)
    exact fin (j := 0) rfl (by decide) upd_same rfl rfl rfl (kp _ _ _ _ _)
  · refine ite_f (by decide) (is_rdV rfl kf.v ⟨true, rfl, ite_f rfl ?_⟩)
    exact fin (j := 1) rfl (by decide) upd_same rfl rfl rfl (kp _ _ _ _ _)
  · refine ite_f (by decide) (is_rdV rfl kf.v ⟨true, rfl, ite_f rfl ?_⟩)
    exact fin (j := 2) rfl (by decide) upd_same rfl rfl rfl (kp _ _ _ _ _)
  · refine ite_f (by decide) (is_rdV rfl kf.v ⟨true, rfl, ite_f rfl ?_⟩)
    exact fin (j := 3) rfl (by decide) upd_same rfl rfl rfl (kp _ _ _ _ _)
  · refine ite_f (by decide) (is_rdV rfl kf.v ⟨true, rfl, ite_f rfl ?_⟩)
    exact fin (j := 4) rfl (by decide) upd_same rfl rfl rfl (kp _ _ _ _ _)
  · refine ite_f (by decide) (is_rdV rfl kf.v ⟨true, rfl, ite_f rfl ?_⟩)
    exact fin (j := 5) rfl (by decide) upd_same rfl rfl rfl (kp _ _ _ _ _)
  · refine ite_f (by decide) (is_rdV rfl kf.v ⟨true, rfl, ite_f rfl ?_⟩)
    exact fin (j := 6) rfl (by decide) upd_same rfl rfl rfl (kp _ _ _ _ _)
  · refine ite_f (by decide) (is_rdV rfl kf.v ⟨true, rfl, ite_f rfl ?_⟩)
    exact fin (j := 7) rfl (by decide) upd_same rfl rfl rfl (kp _ _ _ _ _)
  · refine ite_f (by decide) (is_rdV rfl kf.v ⟨true, rfl, ite_f rfl ?_⟩)
    exact fin (j := 8) rfl (by decide) upd_same rfl rfl rfl (kp _ _ _ _ _)
  · refine ite_f (by decide) (is_rdV rfl kf.v ⟨true, rfl, ite_f rfl ?_⟩)
    exact fin (j := 9) rfl (by decide) upd_same rfl rfl rfl (kp _ _ _ _ _)
  · refine ite_f (by decide) (is_rdV rfl kf.v ⟨true, rfl, ite_f rfl ?_⟩)
    exact fin (j := 10) rfl (by decide) upd_same rfl rfl rfl (kp _ _ _ _ _)
  · refine ite_f (by decide) (is_rdV rfl kf.v ⟨true, rfl, ite_f rfl ?_⟩)
    exact fin (j := 11) rfl (by decide) upd_same rfl rfl rfl (kp _ _ _ _ _)
theorem ok_is_whole {f : Addr} {fd : FuncData} (D : Df K mg "is_whole" s_is_whole ["thing"] f fd) (m_bool : mg "bool" = none) (m_int : mg "int" = none) (m_isinstance : mg "isinstance" = none) : Cal P w K mg base 1 "is_whole" ["thing"] (spF K (fun d : Int => [.dt (.int d)]) (fun _ => True) fun _ => .bool true) f fd := by
  refine D.cal (ok_G D.F sc_is_whole (fun _ => rfl) (by decide) fun cdv A outer s H E hr => ⟨_, (pss_one (ps_ret (pe_and (pe_callB call_isi (by rfl) m_isinstance (by decide +kernel) (pa_cons (pv 0) (pa_cons (pe_bltn (v := .ty "int") (by rfl) m_int (by decide +kernel) rfl) pa_nil))) (pe_one (pe_not (pe_callB call_isi (by rfl) m_isinstance (by decide +kernel) (pa_cons (pv 0) (pa_cons (pe_bltn (v := .ty "bool") (by rfl) m_bool (by decide +kernel) rfl) pa_nil)))))))), fun x hp => ?_⟩)
  walk_at "s"
  walk_at "w"
  rfl
theorem ok_is_whole_within {f : Addr} {fd : FuncData} (D : Df K mg "is_whole_within" s_is_whole_within ["thing", "least", "most"] f fd) {f_is_whole : Addr} {d_is_whole : FuncData} (C_is_whole : Cal P w K mg base 1 "is_whole" ["thing"] (spF K (fun d : Int => [.dt (.int d)]) (fun _ => True) fun _ => .bool true) f_is_whole d_is_whole) : Cal P w K mg base 2 "is_whole_within" ["thing", "least", "most"] (spF K (fun p : Int × Int × Int => [.dt (.int p.1), .dt (.int p.2.1), .dt (.int p.2.2)]) (fun _ => True) fun p => .bool (decide (p.2.1 ≤ p.1) && decide (p.1 ≤ p.2.2))) f fd := by
  refine D.cal (ok_G D.F sc_is_whole_within (fun _ => rfl) (by decide) fun cdv A outer s H E hr => ⟨_, (pss_one (ps_ret (pe_and (pe_call C_is_whole.G (hr.mono (by decide)) (by rfl) C_is_whole.g C_is_whole.kp C_is_whole.b .nil pass0 (pa_cons (pv 0) pa_nil)) (pe_one (pe_chain op_le op_le (pv 1) (pv 0) (pv 2)))))), fun x hp => ?_⟩)
  walk_at "s"
  walk_at "w"
  refine ⟨_, rfl, trivial, ?_⟩
  walk_at "w"
  · rename_i h
    rw [h]
    rfl
  · rename_i h
    rw [h]
    rfl
theorem ok__numbers_of {f : Addr} {fd : FuncData} (D : Df K mg "_numbers_of" s__numbers_of ["things"] f fd) : Cal P w K mg base 1 "_numbers_of" ["things"] (spF K (fun r : List (Option Int) => [.dt (.tuple (oL r))]) (fun r => r.length ≤ 100) fun r => .list (iL (nums r))) f fd := by
  refine D.cal (ok_G D.F sc__numbers_of (fun _ => rfl) (by decide) fun cdv A outer s H E hr => ⟨_, (pss_one (ps_ret (pe_lc (own := [("thing", 1)]) rfl sc__numbers_of.nd (pi_tup (pv 0)) (blkOk_by (own := [("thing", 1)]) (N := ["things", "thing"]) (sc := (defScope s__numbers_of)) (by decide +kernel)) (fun _ _ _ _ _ => (pg_name (i := 1) sc__numbers_of.nd rfl (by first | exact Or.inl rfl | exact Or.inr rfl))) (fun _ _ _ _ _ => (pts_one (pt_cmpR oi_notN (pv 1) pe_non (nomark _)))) (fun _ _ _ _ _ => (pv 1))))), fun x hp => ?_⟩)
  walk_at "s"
  walk_at "w"
  apply ve_lcT (vs := [1]) oD x _ _ (by walk_at "n")
  walk_at "w"
  refine ⟨rfl, by simp, gl_lt (by omega), fun a ha => ⟨_, tg_name (by decide), fun acc srcs => ?_⟩, ?_⟩
  · walk_at "s"
    walk_at "w"
    refine ⟨rfl, fun _ => ?_, fun _ => rfl⟩
    walk_at "w"
    exact ⟨rfl, rfl⟩
  · walk_at "w"
    show PyData.list _ = _
    rw [nums_eq]
theorem ok_is_row {f : Addr} {fd : FuncData} (D : Df K mg "is_row" s_is_row ["thing"] f fd) {f__numbers_of : Addr} {d__numbers_of : FuncData} (C__numbers_of : Cal P w K mg base 1 "_numbers_of" ["things"] (spF K (fun r : List (Option Int) => [.dt (.tuple (oL r))]) (fun r => r.length ≤ 100) fun r => .list (iL (nums r))) f__numbers_of d__numbers_of) {f_is_whole : Addr} {d_is_whole : FuncData} (C_is_whole : Cal P w K mg base 1 "is_whole" ["thing"] (spF K (fun d : Int => [.dt (.int d)]) (fun _ => True) fun _ => .bool true) f_is_whole d_is_whole) (m_all : mg "all" = none) (m_isinstance : mg "isinstance" = none) (m_len : mg "len" = none) (m_set : mg "set" = none) (m_tuple : mg "tuple" = none) (c_MOST_THINGS : GlobI K mg "MOST_THINGS" 24) : Cal P w K mg base 2 "is_row" ["thing"] (spF K (fun r : List (Option Int) => [.dt (.tuple (oL r))]) RowOk fun _ => .bool true) f fd := by
  refine D.cal (ok_G D.F sc_is_row (fun _ => rfl) (by decide) fun cdv A outer s H E hr => ⟨_, (pss_cons (ps_if (PW.pt (pw_or (pt_not (pt_val (pe_callB call_isi (by rfl) m_isinstance (by decide +kernel) (pa_cons (pv 0) (pa_cons (pe_bltn (v := .ty "tuple") (by rfl) m_tuple (by decide +kernel) rfl) pa_nil))))) (pw_or1 (pt_cmpR op_gt (pe_callB cl_len (by rfl) m_len PySem.boot_len (pa_cons (pv 0) pa_nil)) (pe_glob (v := .int (24)) (by rfl) c_MOST_THINGS.u.choose_spec ⟨_, rfl⟩) (nomark _))))) (pss_one (ps_ret pe_bl)) pss_nil)
      (pss_cons (ps_set (i := 1) sc_is_row.nd rfl (Or.inl rfl) (pe_call C__numbers_of.G (hr.mono (by decide)) (by rfl) C__numbers_of.g C__numbers_of.kp C__numbers_of.b .nil pass0 (pa_cons (pv 0) pa_nil)))
      (pss_cons (ps_if (pt_not (pt_val (pe_callB (cr_all rfl) (by rfl) m_all (by decide +kernel) (pa_cons (pe_lc (own := [("number", 2)]) rfl sc_is_row.nd (pi_list (pv 1)) (blkOk_by (own := [("number", 2)]) (N := ["thing", "numbers", "number"]) (sc := (defScope s_is_row)) (by decide +kernel)) (fun _ _ _ _ _ => (pg_name (i := 2) sc_is_row.nd rfl (by first | exact Or.inl rfl | exact Or.inr rfl))) (fun _ _ _ _ _ => pts_nil) (fun _ _ _ _ _ => (pe_call C_is_whole.G (hr.mono (by decide)) (by rfl) C_is_whole.g C_is_whole.kp C_is_whole.b .nil pass0 (pa_cons (pv 2) pa_nil)))) pa_nil)))) (pss_one (ps_ret pe_bl)) pss_nil)
      (pss_one (ps_ret (pe_cmpR (op_eqD hr.units) (RZ.pe_lenSetI (by rfl) m_len (by rfl) m_set (pv 1)) (pe_callB cl_len (by rfl) m_len PySem.boot_len (pa_cons (pv 1) pa_nil)) (nomark _))))))), fun x hp => ?_⟩)
  have l1 := nums_len x
  have l2 := hp.1
  walk_at "s"
  walk_at "w"
  · exact absurd (by assumption) (by simp; omega)
  refine ⟨_, rfl, by omega, ?_⟩
  walk_at "w"
  apply ve_lcT (vs := [2]) PyData.int (nums x) _ _ (by walk_at "n")
  walk_at "w"
  refine ⟨rfl, by simp, gl_lt (by omega), fun a ha => ⟨_, tg_name (by decide), fun acc srcs => ?_⟩, ?_⟩
  · walk_at "s"
    walk_at "w"
    refine ⟨rfl, fun _ => ?_, fun _ => rfl⟩
    walk_at "w"
    refine ⟨_, rfl, trivial, ?_⟩
    walk_at "w"
    exact ⟨rfl, rfl⟩
  walk_at "w"
  refine c1_allF ((nums x).map fun _ => true) (by rw [fil_true, List.map_map] <;> rfl) ?_
  rw [show ((nums x).map fun _ => true).all id = true by simp]
  walk_at "w"
  refine ⟨hp.2, by omega, ?_⟩
  walk_at "w"
  show PyData.bool _ = _
  rw [List.length_map]
  simp [PyData.eqv]
theorem ok_check_row {f : Addr} {fd : FuncData} (D : Df K mg "check_row" s_check_row ["row"] f fd) {f_is_row : Addr} {d_is_row : FuncData} (C_is_row : Cal P w K mg base 2 "is_row" ["thing"] (spF K (fun r : List (Option Int) => [.dt (.tuple (oL r))]) RowOk fun _ => .bool true) f_is_row d_is_row) : Cal P w K mg base 3 "check_row" ["row"] (spF K (fun r : List (Option Int) => [.dt (.tuple (oL r))]) RowOk fun _ => .none) f fd := by
  refine D.cal (ok_G D.F sc_check_row (fun _ => rfl) (by decide) fun cdv A outer s H E hr => ⟨_, (pss_one (ps_if (pt_not (pt_val (pe_call C_is_row.G (hr.mono (by decide)) (by rfl) C_is_row.g C_is_row.kp C_is_row.b .nil pass0 (pa_cons (pv 0) pa_nil)))) (pss_one ps_never) pss_nil)), fun x hp => ?_⟩)
  walk_at "s"
  walk_at "w"
  refine ⟨_, rfl, hp, ?_⟩
  walk_at "w"
theorem ok_check_unmarked {f : Addr} {fd : FuncData} (D : Df K mg "check_unmarked" s_check_unmarked ["row"] f fd) {f_check_row : Addr} {d_check_row : FuncData} (C_check_row : Cal P w K mg base 3 "check_row" ["row"] (spF K (fun r : List (Option Int) => [.dt (.tuple (oL r))]) RowOk fun _ => .none) f_check_row d_check_row) : Cal P w K mg base 4 "check_unmarked" ["row"] (spF K (fun r : List Int => [.dt (.tuple (iL r))]) (fun r => r.length ≤ 24 ∧ r.Nodup) fun _ => .none) f fd := by
  refine D.cal (ok_G D.F sc_check_unmarked (fun _ => rfl) (by decide) fun cdv A outer s H E hr => ⟨_, (pss_cons (ps_expr (pe_call C_check_row.G (hr.mono (by decide)) (by rfl) C_check_row.g C_check_row.kp C_check_row.b .nil pass0 (pa_cons (pv 0) pa_nil)))
      (pss_one (ps_if (pt_cmpR op_in_seq pe_non (pv 0) (by rfl)) (pss_one ps_never) pss_nil))), fun x hp => ?_⟩)
  walk_at "s"
  walk_at "w"
  refine ⟨x.map some, by rw [oL_some], ⟨by simpa using hp.1, by rw [nums_some]; exact hp.2⟩, ?_⟩
  walk_at "w"
  refine r2_in rd_dt sq_t rfl (by simp [flD]) ?_
  walk_at "w"
  · exact absurd (by assumption) (by simp [eqF])
theorem ok_stretches {f : Addr} {fd : FuncData} (D : Df K mg "stretches" s_stretches ["row"] f fd) {f_check_row : Addr} {d_check_row : FuncData} (C_check_row : Cal P w K mg base 3 "check_row" ["row"] (spF K (fun r : List (Option Int) => [.dt (.tuple (oL r))]) RowOk fun _ => .none) f_check_row d_check_row) : Cal P w K mg base 4 "stretches" ["row"] (spF K (fun r : List (Option Int) => [.dt (.tuple (oL r))]) RowOk fun r => .list (tL (lots r))) f fd := by
  refine D.cal (ok_G D.F sc_stretches (fun _ => rfl) (by decide) fun cdv A outer s H E hr => ⟨_, (pss_cons (ps_expr (pe_call C_check_row.G (hr.mono (by decide)) (by rfl) C_check_row.g C_check_row.kp C_check_row.b .nil pass0 (pa_cons (pv 0) pa_nil)))
      (pss_cons (ps_set (i := 1) sc_stretches.nd rfl (Or.inl rfl) (pe_lst (pa_cons (pe_tupF pa_nil) pa_nil)))
      (pss_cons (ps_for PassesOwn.never rfl (pi_tup (pv 0)) (pg_name (i := 2) sc_stretches.nd rfl (by first | exact Or.inl rfl | exact Or.inr rfl)) (pss_one (ps_if (pt_cmpR oi_isN (pv 2) pe_non (nomark _)) (pss_one (ps_expr (pe_bm PySem.F.plainAttrs_list PySem.F.slot_list_append PySem.F.type_list_append mt_append (pv 1) (pa_cons (pe_tupF pa_nil) pa_nil)))) (pss_one (ps_asg (pe_op op_catF (pe_ix ix_list (pv 1) (pe_un un_neg pe_int) (fun _ _ => rfl)) (pe_tupF (pa_cons (pv 2) pa_nil))) (pg_sub (pv 1) (pe_un un_neg pe_int) set_list))))))
      (pss_one (ps_ret (pv 1)))))), fun x hp => ?_⟩)
  walk_at "s"
  walk_at "w"
  refine ⟨_, rfl, hp, ?_⟩
  walk_at "w"
  refine ss_for (fun i Γ => ∃ c, Γ = [.dt (.tuple (oL x)), .ow (tL (lots (x.take i))), c]) fun ss => ?_
  walk_at "w"
  refine ⟨fun i d Γ2 hd ⟨c, ec⟩ => ?_, fun Γ2 ⟨c, ec⟩ => ?_⟩
  · subst ec
    obtain ⟨o, ho, rfl⟩ := oL_at hd
    rw [take_snoc ho, lots_snoc]
    have h0 := lots_ne (x.take i)
    have h1 := lots_len (x.take i)
    have h2 : (x.take i).length ≤ x.length := by simp [List.length_take]; omega
    have h3 := hp.1
    cases o with
    | none =>
      walk_at "w"
      refine ⟨_, _, rfl, isl_ow rfl, gl_lt (by simp [tL]; omega), ?_⟩
      walk_at "s"
      refine ⟨.dt .none, ?_⟩
      show _ = [_, Cell.ow (tL (_ ++ [[]])), _]
      simp only [tL, List.map_append, List.map_cons, List.map_nil]
      rfl
    | some n =>
      walk_at "w"
      refine r2_ixL (ds := tL (lots (x.take i))) (d := .tuple (iL ((lots (x.take i)).getD ((lots (x.take i)).length - 1) []))) ⟨[], .inr (.inl ⟨1, rfl, .inl rfl⟩)⟩ (tL_last h0) ?_
      walk_at "w"
      refine r2_catT (es := iL [n]) (gl_le ?_) ?_
      · have h4 := lots_mem (r := x.take i) (l := (lots (x.take i)).getD ((lots (x.take i)).length - 1) []) (by
          rw [List.getD_eq_getElem?_getD, List.getElem?_eq_getElem (by omega)]
          exact List.getElem_mem _)
        have h5 := nums_len (x.take i)
        rw [List.length_map]
        simp only [List.length_map, List.length_singleton]
        omega
      walk_at "w"
      refine ⟨_, _, _, _, rfl, rfl, isl_ow rfl, ixN_last (by simpa [tL] using h0), .dt (.int n), ?_⟩
      walk_at "s"
      show _ = [_, Cell.ow (tL (List.set _ _ _)), _]
      simp only [tL, List.map_set, List.map_append, List.length_map]
      rfl
  · subst ec
    walk_at "w"
    show PyData.list _ = _
    rw [List.length_map, List.take_length]
theorem ok_greater_aheadL {f : Addr} {fd : FuncData} (D : Df K mg "_greater_ahead" s__greater_ahead ["numbers"] f fd) (m_enumerate : mg "enumerate" = none) (m_len : mg "len" = none) : Cal P w K mg base 1 "_greater_ahead" ["numbers"] (spF K (fun r : List Int => [.dt (.list (iL r))]) (fun r => r.length ≤ 100) fun r => .list (iL (gr r))) f fd := by
  refine D.cal (ok_G D.F sc__greater_ahead (fun _ => rfl) (by decide) fun cdv A outer s H E hr => ⟨_, (pss_one (ps_ret (pe_lc (own := [("place", 1), ("number", 2)]) rfl sc__greater_ahead.nd (pi_enum (by rfl) m_enumerate (pa_cons (pv 0) pa_nil)) (blkOk_by (own := [("place", 1), ("number", 2)]) (N := ["numbers", "place", "number", "other"]) (sc := (defScope s__greater_ahead)) (by decide +kernel)) (fun _ _ _ _ _ => (pg_tupK (K := K) (n := 2) rfl rfl (pgs_cons (pg_name (i := 1) sc__greater_ahead.nd rfl (by first | exact Or.inl rfl | exact Or.inr rfl)) (pgs_cons (pg_name (i := 2) sc__greater_ahead.nd rfl (by first | exact Or.inl rfl | exact Or.inr rfl)) pgs_nil)))) (fun _ _ _ _ _ => pts_nil) (fun _ _ _ _ _ => (pe_callB (cl_lenK (K := K) rfl) (by rfl) m_len PySem.boot_len (pa_cons (pe_lc (own := [("other", 3)]) rfl sc__greater_ahead.nd (pi_listK (K := K) rfl (pe_slice (sl_listK (K := K) rfl) (pv 0) po_none (po_some (pv 1)))) (blkOk_by (own := [("other", 3)]) (N := ["numbers", "place", "number", "other"]) (sc := ⟨.function, [(".0", .local), ("place", .local), ("number", .cell), ("len", .globalImplicit), ("numbers", .cell)], false, false, []⟩) (by decide +kernel)) (fun _ _ _ _ _ => (pg_name (i := 3) sc__greater_ahead.nd rfl (by first | exact Or.inl rfl | exact Or.inr rfl))) (fun _ _ _ _ _ => (pts_one (pt_cmpR op_gt (pv 3) (pv 2) (nomark _)))) (fun _ _ _ _ _ => (pv 3))) pa_nil)))))), fun x hp => ?_⟩)
  walk_at "s"
  walk_at "w"
  apply ve_lcT (vs := [1, 2]) (fun p : Int × Nat => PyData.tuple [.int p.2, .int p.1]) x.zipIdx _ _ (by walk_at "n")
  walk_at "w"
  refine ⟨enum_iL x, by simp, gl_lt (by simp; omega), fun a ha => ⟨_, tg_pair (by decide) (by decide), fun acc srcs => ?_⟩, ?_⟩
  · walk_at "s"
    walk_at "w"
    refine ⟨rfl, fun _ => ?_, fun _ => rfl⟩
    walk_at "w"
    apply ve_lcT (vs := [3]) PyData.int (x.take a.2) _ _ (by walk_at "n")
    walk_at "w"
    refine ⟨(cut_to _ _).trans (iL_take _ _), by simp, gl_lt (by simp; omega), fun b hb => ⟨_, tg_name (by decide), fun acc srcs => ?_⟩, ?_⟩
    · walk_at "s"
      walk_at "w"
      refine ⟨rfl, fun _ => ?_, fun _ => rfl⟩
      walk_at "w"
      exact ⟨rfl, rfl⟩
    · walk_at "w"
      exact ⟨rfl, rfl⟩
  · walk_at "w"
    show PyData.list _ = PyData.list _
    unfold gr
    rw [fil_true]
    simp only [iL, List.map_map, List.length_map]
    rfl
theorem ok_counts {f : Addr} {fd : FuncData} (D : Df K mg "counts" s_counts ["row"] f fd) {f__numbers_of : Addr} {d__numbers_of : FuncData} (C__numbers_of : Cal P w K mg base 1 "_numbers_of" ["things"] (spF K (fun r : List (Option Int) => [.dt (.tuple (oL r))]) (fun r => r.length ≤ 100) fun r => .list (iL (nums r))) f__numbers_of d__numbers_of) {f_check_row : Addr} {d_check_row : FuncData} (C_check_row : Cal P w K mg base 3 "check_row" ["row"] (spF K (fun r : List (Option Int) => [.dt (.tuple (oL r))]) RowOk fun _ => .none) f_check_row d_check_row) {f_greater_aheadL : Addr} {d_greater_aheadL : FuncData} (C_greater_aheadL : Cal P w K mg base 1 "_greater_ahead" ["numbers"] (spF K (fun r : List Int => [.dt (.list (iL r))]) (fun r => r.length ≤ 100) fun r => .list (iL (gr r))) f_greater_aheadL d_greater_aheadL) : Cal P w K mg base 4 "counts" ["row"] (spF K (fun r : List (Option Int) => [.dt (.tuple (oL r))]) RowOk fun r => .list (iL (gr (nums r)))) f fd := by
  refine D.cal (ok_G D.F sc_counts (fun _ => rfl) (by decide) fun cdv A outer s H E hr => ⟨_, (pss_cons (ps_expr (pe_call C_check_row.G (hr.mono (by decide)) (by rfl) C_check_row.g C_check_row.kp C_check_row.b .nil pass0 (pa_cons (pv 0) pa_nil)))
      (pss_one (ps_ret (pe_call C_greater_aheadL.G (hr.mono (by decide)) (by rfl) C_greater_aheadL.g C_greater_aheadL.kp C_greater_aheadL.b .nil pass0 (pa_cons (pe_call C__numbers_of.G (hr.mono (by decide)) (by rfl) C__numbers_of.g C__numbers_of.kp C__numbers_of.b .nil pass0 (pa_cons (pv 0) pa_nil)) pa_nil))))), fun x hp => ?_⟩)
  have l1 := nums_len x
  have l2 := hp.1
  walk_at "s"
  walk_at "w"
  refine ⟨_, rfl, hp, ?_⟩
  walk_at "w"
  refine ⟨_, rfl, by omega, ?_⟩
  walk_at "w"
  refine ⟨_, rfl, by omega, ?_⟩
  walk_at "w"
theorem ok__are_counts {f : Addr} {fd : FuncData} (D : Df K mg "_are_counts" s__are_counts ["thing", "many"] f fd) {f_is_whole_within : Addr} {d_is_whole_within : FuncData} (C_is_whole_within : Cal P w K mg base 2 "is_whole_within" ["thing", "least", "most"] (spF K (fun p : Int × Int × Int => [.dt (.int p.1), .dt (.int p.2.1), .dt (.int p.2.2)]) (fun _ => True) fun p => .bool (decide (p.2.1 ≤ p.1) && decide (p.1 ≤ p.2.2))) f_is_whole_within d_is_whole_within) (m_all : mg "all" = none) (m_enumerate : mg "enumerate" = none) (m_isinstance : mg "isinstance" = none) (m_len : mg "len" = none) (m_list : mg "list" = none) : Cal P w K mg base 3 "_are_counts" ["thing", "many"] (spF K (fun p : List Int × Nat => [.dt (.list (iL p.1)), .dt (.int p.2)]) (fun p => CntOk p.1 p.2 ∧ p.2 ≤ 100) fun _ => .bool true) f fd := by
  refine D.cal (ok_G D.F sc__are_counts (fun _ => rfl) (by decide) fun cdv A outer s H E hr => ⟨_, (pss_cons (ps_if (PW.pt (pw_or (pt_not (pt_val (pe_callB call_isi (by rfl) m_isinstance (by decide +kernel) (pa_cons (pv 0) (pa_cons (pe_bltn (v := .ty "list") (by rfl) m_list (by decide +kernel) rfl) pa_nil))))) (pw_or1 (pt_cmpR (op_neD hr.units) (pe_callB cl_len (by rfl) m_len PySem.boot_len (pa_cons (pv 0) pa_nil)) (pv 1) (nomark _))))) (pss_one (ps_ret pe_bl)) pss_nil)
      (pss_one (ps_ret (pe_callB (cr_all rfl) (by rfl) m_all (by decide +kernel) (pa_cons (pe_lc (own := [("rank", 2), ("count", 3)]) rfl sc__are_counts.nd (pi_enum (by rfl) m_enumerate (pa_cons (pv 0) pa_nil)) (blkOk_by (own := [("rank", 2), ("count", 3)]) (N := ["thing", "many", "rank", "count"]) (sc := (defScope s__are_counts)) (by decide +kernel)) (fun _ _ _ _ _ => (pg_tupK (K := K) (n := 2) rfl rfl (pgs_cons (pg_name (i := 2) sc__are_counts.nd rfl (by first | exact Or.inl rfl | exact Or.inr rfl)) (pgs_cons (pg_name (i := 3) sc__are_counts.nd rfl (by first | exact Or.inl rfl | exact Or.inr rfl)) pgs_nil)))) (fun _ _ _ _ _ => pts_nil) (fun _ _ _ _ _ => (pe_call C_is_whole_within.G (hr.mono (by decide)) (by rfl) C_is_whole_within.g C_is_whole_within.kp C_is_whole_within.b .nil pass0 (pa_cons (pv 3) (pa_cons pe_int (pa_cons (pv 2) pa_nil)))))) pa_nil))))), fun x hp => ?_⟩)
  obtain ⟨cs, n⟩ := x
  obtain ⟨⟨hl, hc⟩, hn⟩ := hp
  dsimp only at hl hc hn
  walk_at "s"
  walk_at "w"
  · exact absurd (by assumption) (by simp [hl])
  apply ve_lcT (vs := [2, 3]) (fun p : Int × Nat => PyData.tuple [.int p.2, .int p.1]) cs.zipIdx _ _ (by walk_at "n")
  walk_at "w"
  refine ⟨enum_iL cs, by simp, gl_lt (by simp; omega), fun a ha => ⟨_, tg_pair (by decide) (by decide), fun acc srcs => ?_⟩, ?_⟩
  · walk_at "s"
    walk_at "w"
    refine ⟨rfl, fun _ => ?_, fun _ => rfl⟩
    walk_at "w"
    refine ⟨(_, _, _), rfl, trivial, ?_⟩
    walk_at "w"
    exact ⟨rfl, rfl⟩
  walk_at "w"
  refine c1_allF (cs.zipIdx.map fun p => (decide (0 ≤ p.1) && decide (p.1 ≤ (p.2 : Int)))) (by rw [fil_true, List.map_map] <;> rfl) ?_
  walk_at "w"
  show PyData.bool _ = _
  congr 1
  rw [List.all_eq_true]
  intro b hb
  obtain ⟨q, hq, rfl⟩ := List.mem_map.mp hb
  have := hc q.2 q.1 (List.mem_zipIdx_iff_getElem?.mp hq)
  simp [this.1, this.2]
theorem ok_row_of {f : Addr} {fd : FuncData} (D : Df K mg "row_of" s_row_of ["numbers", "counts"] f fd) {f__are_counts : Addr} {d__are_counts : FuncData} (C__are_counts : Cal P w K mg base 3 "_are_counts" ["thing", "many"] (spF K (fun p : List Int × Nat => [.dt (.list (iL p.1)), .dt (.int p.2)]) (fun p => CntOk p.1 p.2 ∧ p.2 ≤ 100) fun _ => .bool true) f__are_counts d__are_counts) {f_check_unmarked : Addr} {d_check_unmarked : FuncData} (C_check_unmarked : Cal P w K mg base 4 "check_unmarked" ["row"] (spF K (fun r : List Int => [.dt (.tuple (iL r))]) (fun r => r.length ≤ 24 ∧ r.Nodup) fun _ => .none) f_check_unmarked d_check_unmarked) (m_len : mg "len" = none) (m_sorted : mg "sorted" = none) (m_tuple : mg "tuple" = none) (m_zip : mg "zip" = none) : Cal P w K mg base 5 "row_of" ["numbers", "counts"] (spF K (fun p : List Int × List Int => [.dt (.tuple (iL p.1)), .dt (.list (iL p.2))]) (fun p => p.1.length ≤ 24 ∧ p.1.Nodup ∧ CntOk p.2 p.1.length) fun p => .tuple (iL (rowF (dsc p.1) p.2))) f fd := by
  refine D.cal (ok_G D.F sc_row_of (fun _ => rfl) (by decide) fun cdv A outer s H E hr => ⟨_, (pss_cons (ps_expr (pe_call C_check_unmarked.G (hr.mono (by decide)) (by rfl) C_check_unmarked.g C_check_unmarked.kp C_check_unmarked.b .nil pass0 (pa_cons (pv 0) pa_nil)))
      (pss_cons (ps_if (pt_not (pt_val (pe_call C__are_counts.G (hr.mono (by decide)) (by rfl) C__are_counts.g C__are_counts.kp C__are_counts.b .nil pass0 (pa_cons (pv 1) (pa_cons (pe_callB cl_len (by rfl) m_len PySem.boot_len (pa_cons (pv 0) pa_nil)) pa_nil))))) (pss_one ps_never) pss_nil)
      (pss_cons (ps_set (i := 2) sc_row_of.nd rfl (Or.inl rfl) (pe_lst pa_nil))
      (pss_cons (ps_for PassesOwn.never rfl (pi_zip (by rfl) m_zip (pa_cons (pe_callBK (cr_sortedRevT (b := true)) (by rfl) m_sorted (by decide +kernel) (pa_cons (pv 0) pa_nil) (pk_cons pe_bl pk_nil)) (pa_cons (pv 1) pa_nil))) (pg_tup (n := 2) rfl (pgs_cons (pg_name (i := 3) sc_row_of.nd rfl (by first | exact Or.inl rfl | exact Or.inr rfl)) (pgs_cons (pg_name (i := 4) sc_row_of.nd rfl (by first | exact Or.inl rfl | exact Or.inr rfl)) pgs_nil))) (pss_one (ps_expr (pe_bm PySem.F.plainAttrs_list PySem.F.slot_list_insert PySem.F.type_list_insert cm_insert (pv 2) (pa_cons (pv 4) (pa_cons (pv 3) pa_nil))))))
      (pss_one (ps_ret (pe_callTy cl_tupleF (by rfl) m_tuple (by decide +kernel) (pa_cons (pv 2) pa_nil)))))))), fun x hp => ?_⟩)
  obtain ⟨ns, cs⟩ := x
  obtain ⟨hl, hn, hc⟩ := hp
  dsimp only at hl hn hc
  have hd := (dsc_perm ns).length_eq
  have hc1 := hc.1
  walk_at "s"
  walk_at "w"
  refine ⟨ns, rfl, ⟨hl, hn⟩, ?_⟩
  walk_at "w"
  refine ⟨(cs, ns.length), by simp, ⟨hc, by simpa using (by omega : ns.length ≤ 100)⟩, ?_⟩
  walk_at "w"
  refine ss_for (fun i Γ => ∃ a b, Γ = [.dt (.tuple (iL ns)), .dt (.list (iL cs)), .ow (iL (rowF ((dsc ns).take i) (cs.take i))), a, b]) fun ss => ?_
  walk_at "w"
  refine ve_sortedTB ?_
  walk_at "w"
  refine fun ns' p1 p2 => ?_
  rw [eq_dsc p1 p2]
  walk_at "w"
  refine ⟨_, _, rfl, rfl, ⟨_, _, rfl⟩, fun i d Γ2 hi ⟨a, b, ec⟩ => ?_, fun Γ2 ⟨a, b, ec⟩ => ?_⟩
  · subst ec
    rw [zip_iL, List.getElem?_map] at hi
    obtain ⟨q, hq, rfl⟩ := Option.map_eq_some_iff.mp hi
    rw [List.zip_eq_zipWith, List.getElem?_zipWith_eq_some] at hq
    obtain ⟨u, v, h1, h2, rfl⟩ := hq
    rw [rowF_snoc h1 h2]
    have h3 := hc.2 i v h2
    have h4 := (List.getElem?_eq_some_iff.mp h2).1
    walk_at "w"
    walk_at "s"
    walk_at "w"
    refine ⟨_, _, _, rfl, rfl, isl_ow rfl, gl_lt (by rw [List.length_map, rowF_len, List.length_take]; omega), h3.1, by omega, ?_⟩
    walk_at "s"
    refine ⟨_, _, congrArg (fun z => [_, _, Cell.ow z, _, _]) ?_⟩
    simp only [insF, iL, List.map_append, List.map_take, List.map_drop, List.map_cons, List.map_nil]
  · subst ec
    walk_at "w"
    walk_at "s"
    walk_at "w"
    show PyData.tuple _ = _
    rw [zipD_len, List.length_map, List.length_map, List.take_of_length_le (by omega), List.take_of_length_le (by omega)]
theorem ok__is_word {f : Addr} {fd : FuncData} (D : Df K mg "_is_word" s__is_word ["thing"] f fd) (m_isinstance : mg "isinstance" = none) (m_str : mg "str" = none) (c_HEAVY : GlobS K mg "HEAVY" "heavy") (c_LIGHT : GlobS K mg "LIGHT" "light") : Cal P w K mg base 1 "_is_word" ["thing"] (spF K (fun l : Bool => [.dt (.str (wd l))]) (fun _ => True) fun _ => .bool true) f fd := by
  refine D.cal (ok_G D.F sc__is_word (fun _ => rfl) (by decide) fun cdv A outer s H E hr => ⟨_, (pss_one (ps_ret (pe_and (pe_callB call_isi (by rfl) m_isinstance (by decide +kernel) (pa_cons (pv 0) (pa_cons (pe_bltn (v := .ty "str") (by rfl) m_str (by decide +kernel) rfl) pa_nil))) (pe_one (pe_cmpR op_in_seq (pv 0) (pe_tupF (pa_cons (pe_glob (v := .str "light") (by rfl) c_LIGHT.u.choose_spec ⟨_, rfl⟩) (pa_cons (pe_glob (v := .str "heavy") (by rfl) c_HEAVY.u.choose_spec ⟨_, rfl⟩) pa_nil))) (by rfl)))))), fun x hp => ?_⟩)
  walk_at "s"
  walk_at "w"
  refine r2_in rd_dt sq_t rfl rfl ?_
  walk_at "w"
  show PyData.bool _ = _
  congr 1
  cases x <;> decide +kernel
theorem ok__is_places {f : Addr} {fd : FuncData} (D : Df K mg "_is_places" s__is_places ["thing"] f fd) {f_is_whole_within : Addr} {d_is_whole_within : FuncData} (C_is_whole_within : Cal P w K mg base 2 "is_whole_within" ["thing", "least", "most"] (spF K (fun p : Int × Int × Int => [.dt (.int p.1), .dt (.int p.2.1), .dt (.int p.2.2)]) (fun _ => True) fun p => .bool (decide (p.2.1 ≤ p.1) && decide (p.1 ≤ p.2.2))) f_is_whole_within d_is_whole_within) (c_MOST_PLACES : GlobI K mg "MOST_PLACES" 9) : Cal P w K mg base 3 "_is_places" ["thing"] (spF K (fun n : Nat => [.dt (.int n)]) (fun n => n ≤ 9) fun _ => .bool true) f fd := by
  refine D.cal (ok_G D.F sc__is_places (fun _ => rfl) (by decide) fun cdv A outer s H E hr => ⟨_, (pss_one (ps_ret (pe_call C_is_whole_within.G (hr.mono (by decide)) (by rfl) C_is_whole_within.g C_is_whole_within.kp C_is_whole_within.b .nil pass0 (pa_cons (pv 0) (pa_cons pe_int (pa_cons (pe_glob (v := .int (9)) (by rfl) c_MOST_PLACES.u.choose_spec ⟨_, rfl⟩) pa_nil)))))), fun x hp => ?_⟩)
  walk_at "s"
  walk_at "w"
  refine ⟨(_, _, _), rfl, trivial, ?_⟩
  walk_at "w"
  show PyData.bool _ = _
  have h1 : (0 : Int) ≤ (x : Int) := by omega
  have h2 : (x : Int) ≤ 9 := by omega
  simp [h2]
theorem ok_is_shelf {f : Addr} {fd : FuncData} (D : Df K mg "is_shelf" s_is_shelf ["thing"] f fd) {f__is_places : Addr} {d__is_places : FuncData} (C__is_places : Cal P w K mg base 3 "_is_places" ["thing"] (spF K (fun n : Nat => [.dt (.int n)]) (fun n => n ≤ 9) fun _ => .bool true) f__is_places d__is_places) {f__is_word : Addr} {d__is_word : FuncData} (C__is_word : Cal P w K mg base 1 "_is_word" ["thing"] (spF K (fun l : Bool => [.dt (.str (wd l))]) (fun _ => True) fun _ => .bool true) f__is_word d__is_word) (m_isinstance : mg "isinstance" = none) (m_len : mg "len" = none) (m_tuple : mg "tuple" = none) : Cal P w K mg base 4 "is_shelf" ["thing"] (spF K (fun p : Bool × Nat => [.dt (.tuple [.str (wd p.1), .int p.2])]) (fun p => p.2 ≤ 9) fun _ => .bool true) f fd := by
  refine D.cal (ok_G D.F sc_is_shelf (fun _ => rfl) (by decide) fun cdv A outer s H E hr => ⟨_, (pss_cons (ps_if (PW.pt (pw_or (pt_not (pt_val (pe_callB call_isi (by rfl) m_isinstance (by decide +kernel) (pa_cons (pv 0) (pa_cons (pe_bltn (v := .ty "tuple") (by rfl) m_tuple (by decide +kernel) rfl) pa_nil))))) (pw_or1 (pt_cmpR (op_neD hr.units) (pe_callB cl_len (by rfl) m_len PySem.boot_len (pa_cons (pv 0) pa_nil)) pe_int (nomark _))))) (pss_one (ps_ret pe_bl)) pss_nil)
      (pss_one (ps_ret (pe_and (pe_call C__is_word.G (hr.mono (by decide)) (by rfl) C__is_word.g C__is_word.kp C__is_word.b .nil pass0 (pa_cons (pe_ix ix_tup (pv 0) pe_int (fun _ _ => rfl)) pa_nil)) (pe_one (pe_call C__is_places.G (hr.mono (by decide)) (by rfl) C__is_places.g C__is_places.kp C__is_places.b .nil pass0 (pa_cons (pe_ix ix_tup (pv 0) pe_int (fun _ _ => rfl)) pa_nil))))))), fun x hp => ?_⟩)
  walk_at "s"
  walk_at "w"
  refine r2_ixT (d := .str (wd x.1)) rfl ?_
  walk_at "w"
  refine ⟨x.1, rfl, trivial, ?_⟩
  walk_at "w"
  refine r2_ixT (d := .int x.2) rfl ?_
  walk_at "w"
  refine ⟨x.2, rfl, hp, ?_⟩
  walk_at "w"
theorem ok__check_shelf {f : Addr} {fd : FuncData} (D : Df K mg "_check_shelf" s__check_shelf ["shelf"] f fd) {f_is_shelf : Addr} {d_is_shelf : FuncData} (C_is_shelf : Cal P w K mg base 4 "is_shelf" ["thing"] (spF K (fun p : Bool × Nat => [.dt (.tuple [.str (wd p.1), .int p.2])]) (fun p => p.2 ≤ 9) fun _ => .bool true) f_is_shelf d_is_shelf) : Cal P w K mg base 5 "_check_shelf" ["shelf"] (spF K (fun p : Bool × Nat => [.dt (.tuple [.str (wd p.1), .int p.2])]) (fun p => p.2 ≤ 9) fun _ => .none) f fd := by
  refine D.cal (ok_G D.F sc__check_shelf (fun _ => rfl) (by decide) fun cdv A outer s H E hr => ⟨_, (pss_one (ps_if (pt_not (pt_val (pe_call C_is_shelf.G (hr.mono (by decide)) (by rfl) C_is_shelf.g C_is_shelf.kp C_is_shelf.b .nil pass0 (pa_cons (pv 0) pa_nil)))) (pss_one ps_never) pss_nil)), fun x hp => ?_⟩)
  walk_at "s"
  walk_at "w"
  refine ⟨x, rfl, hp, ?_⟩
  walk_at "w"
theorem ok_let_on {f : Addr} {fd : FuncData} (D : Df K mg "let_on" s_let_on ["standing", "word", "most"] f fd) (m_len : mg "len" = none) (m_max : mg "max" = none) (m_min : mg "min" = none) (c_LIGHT : GlobS K mg "LIGHT" "light") : Cal P w K mg base 1 "let_on" ["standing", "word", "most"] (spV K (fun p : Bool × Nat => [.dt (.str (wd p.1)), .dt (.int p.2)]) (fun p zs => ∃ T : List Int, zs = iL T ∧ T.length ≤ 100) fun p zs zs1 d => ∃ T G U : List Int, zs = iL T ∧ zs1 = iL U ∧ d = .list (iL G) ∧ tm p.1 G = (asc (tm p.1 T)).take (T.length - p.2) ∧ (tm p.1 U).Perm ((asc (tm p.1 T)).drop (T.length - p.2))) f fd := by
  refine D.cal (ok_V D.F sc_let_on (fun _ => rfl) (by decide) fun cdv A outer s H E hr => ⟨_, (pss_cons (ps_set (i := 3) sc_let_on.nd rfl (Or.inl rfl) (pe_lst pa_nil))
      (pss_cons (ps_while PassesOwn.never (pt_cmpR op_gt (pe_callB cl_len (by rfl) m_len PySem.boot_len (pa_cons (pv 0) pa_nil)) (pv 2) (nomark _)) (pss_cons (ps_set (i := 4) sc_let_on.nd rfl (Or.inl rfl) (pe_ifExp (pt_cmpR (op_eqD hr.units) (pv 1) (pe_glob (v := .str "light") (by rfl) c_LIGHT.u.choose_spec ⟨_, rfl⟩) (nomark _)) (pe_callB (cr_min rfl) (by rfl) m_min (by decide +kernel) (pa_cons (pv 0) pa_nil)) (pe_callB (cr_max rfl) (by rfl) m_max (by decide +kernel) (pa_cons (pv 0) pa_nil))))
      (pss_cons (ps_expr (pe_bm PySem.F.plainAttrs_list PySem.F.slot_list_remove PySem.F.type_list_remove mt_remove (pv 0) (pa_cons (pv 4) pa_nil)))
      (pss_one (ps_expr (pe_bm PySem.F.plainAttrs_list PySem.F.slot_list_append PySem.F.type_list_append mt_append (pv 3) (pa_cons (pv 4) pa_nil)))))))
      (pss_one (ps_ret (pv 3))))), fun x zs hp => ?_⟩)
  obtain ⟨l, n⟩ := x
  obtain ⟨T, rfl, hT⟩ := hp
  dsimp only
  walk_at "s"
  walk_at "w"
  walk_at "s"
  refine ss_while (fun m Γ => ∃ (G U : List Int) (c : Cell), Γ = [.ln (iL U), .dt (.str (wd l)), .dt (.int n), .ow (iL G), c] ∧ (G ++ U).Perm T ∧ (tm l G).Pairwise (· ≤ ·) ∧ (∀ g ∈ G, ∀ u ∈ U, sg l * g ≤ sg l * u) ∧ (n ≤ U.length ∨ G = []) ∧ m = U.length) T.length ⟨[], T, _, rfl, .refl _, .nil, by simp, .inr rfl, rfl⟩ fun m Γ1 ⟨G, U, c, eΓ, h1, h2, h3, h4, h5⟩ ss => ?_
  subst eΓ
  have hl := h1.length_eq
  rw [List.length_append] at hl
  walk_at "w"
  · have hlt := of_decide_eq_true ‹decide ((n : Int) < ((iL U).length : Int)) = true›
    rw [List.length_map] at hlt
    refine c1_min (rd_ln rfl) (by omega) fun one o1 o2 => ?_
    have o3 : ∀ y ∈ U, sg l * one ≤ sg l * y := fun y hy => by
      have := o2 y hy
      rw [‹l = true›]
      show 1 * one ≤ 1 * y
      omega
    walk_at "w"
    walk_at "s"
    walk_at "w"
    refine ⟨U, one, rfl, isl_ln rfl, o1, ?_⟩
    walk_at "s"
    walk_at "w"
    refine ⟨_, _, rfl, isl_ow rfl, gl_lt (by rw [List.length_map]; omega), ?_⟩
    walk_at "s"
    obtain ⟨s1, s2, s3, s4⟩ := let_step h1 h2 h3 o1 o3
    refine ⟨U.length - 1, by omega, G ++ [one], U.erase one, .dt (.int one), ?_, s1, s2, s3, .inl (by omega), by omega⟩
    simp only [iL, List.map_append, List.map_cons, List.map_nil]
  · have hlt := of_decide_eq_true ‹decide ((n : Int) < ((iL U).length : Int)) = true›
    rw [List.length_map] at hlt
    refine c1_max (rd_ln rfl) (by omega) fun one o1 o2 => ?_
    have o3 : ∀ y ∈ U, sg l * one ≤ sg l * y := fun y hy => by
      have := o2 y hy
      rw [‹l = false›]
      show -1 * one ≤ -1 * y
      omega
    walk_at "w"
    walk_at "s"
    walk_at "w"
    refine ⟨U, one, rfl, isl_ln rfl, o1, ?_⟩
    walk_at "s"
    walk_at "w"
    refine ⟨_, _, rfl, isl_ow rfl, gl_lt (by rw [List.length_map]; omega), ?_⟩
    walk_at "s"
    obtain ⟨s1, s2, s3, s4⟩ := let_step h1 h2 h3 o1 o3
    refine ⟨U.length - 1, by omega, G ++ [one], U.erase one, .dt (.int one), ?_, s1, s2, s3, .inl (by omega), by omega⟩
    simp only [iL, List.map_append, List.map_cons, List.map_nil]
  have hge := of_decide_eq_false ‹decide ((n : Int) < ((iL U).length : Int)) = false›
  rw [List.length_map] at hge
  obtain ⟨f1, f2⟩ := let_fin h1 h2 h3 (by omega) h4
  exact ⟨_, rfl, T, G, U, rfl, rfl, rfl, f1, f2⟩
theorem ok__let_past {f : Addr} {fd : FuncData} (D : Df K mg "_let_past" s__let_past ["numbers", "word", "places"] f fd) {f_let_on : Addr} {d_let_on : FuncData} (C_let_on : Cal P w K mg base 1 "let_on" ["standing", "word", "most"] (spV K (fun p : Bool × Nat => [.dt (.str (wd p.1)), .dt (.int p.2)]) (fun p zs => ∃ T : List Int, zs = iL T ∧ T.length ≤ 100) fun p zs zs1 d => ∃ T G U : List Int, zs = iL T ∧ zs1 = iL U ∧ d = .list (iL G) ∧ tm p.1 G = (asc (tm p.1 T)).take (T.length - p.2) ∧ (tm p.1 U).Perm ((asc (tm p.1 T)).drop (T.length - p.2))) f_let_on d_let_on) (m_zip : mg "zip" = none) : Cal P w K mg base 2 "_let_past" ["numbers", "word", "places"] (spF K (fun p : Bool × List Int × List Nat => [.dt (.tuple (iL p.2.1)), .dt (.str (wd p.1)), .dt (.list (iL (p.2.2.map Int.ofNat)))]) (fun p => p.2.1.length ≤ 50 ∧ p.2.2.length = p.2.1.length) fun p => .list (iL (tm p.1 (lp ((tm p.1 p.2.1).zip p.2.2) [])))) f fd := by
  refine D.cal (ok_G D.F sc__let_past (fun _ => rfl) (by decide) fun cdv A outer s H E hr => ⟨_, (pss_cons (ps_set (i := 3) sc__let_past.nd rfl (Or.inl rfl) (pe_lst pa_nil))
      (pss_cons (ps_set (i := 4) sc__let_past.nd rfl (Or.inl rfl) (pe_lst pa_nil))
      (pss_cons (ps_for PassesOwn.never rfl (pi_zipTL (by rfl) m_zip (pa_cons (pv 0) (pa_cons (pv 2) pa_nil))) (pg_tup (n := 2) rfl (pgs_cons (pg_name (i := 5) sc__let_past.nd rfl (by first | exact Or.inl rfl | exact Or.inr rfl)) (pgs_cons (pg_name (i := 6) sc__let_past.nd rfl (by first | exact Or.inl rfl | exact Or.inr rfl)) pgs_nil))) (pss_cons (ps_expr (pe_bm PySem.F.plainAttrs_list PySem.F.slot_list_append PySem.F.type_list_append mt_append (pv 3) (pa_cons (pv 5) pa_nil)))
      (pss_one (ps_expr (pe_bm PySem.F.plainAttrs_list PySem.F.slot_list_extend PySem.F.type_list_extend mt_extend (pv 4) (pa_cons (pe_call C_let_on.G (hr.mono (by decide)) (by rfl) C_let_on.g C_let_on.kp C_let_on.b .nil pass0 (pa_cons (pv 3) (pa_cons (pv 1) (pa_cons (pv 6) pa_nil)))) pa_nil))))))
      (pss_one (ps_ret (pe_op op_cat (pv 4) (pe_call C_let_on.G (hr.mono (by decide)) (by rfl) C_let_on.g C_let_on.kp C_let_on.b .nil pass0 (pa_cons (pv 3) (pa_cons (pv 1) (pa_cons pe_int pa_nil)))))))))), fun x hp => ?_⟩)
  obtain ⟨l, ns, rs⟩ := x
  obtain ⟨hl, hr2⟩ := hp
  dsimp only at hl hr2 ⊢
  generalize hL : (tm l ns).zip rs = L
  have hLl : L.length = ns.length := by rw [← hL, List.length_zip, tm_len]; omega
  walk_at "s"
  walk_at "w"
  walk_at "s"
  refine ss_for (fun i Γ => ∃ (U C : List Int) (a b : Cell), Γ = [.dt (.tuple (iL ns)), .dt (.str (wd l)), .dt (.list (iL (rs.map Int.ofNat))), .ow (iL U), .ow (iL C), a, b] ∧ lp L [] = tm l C ++ lp (L.drop i) (tm l U) ∧ C.length ≤ ns.length ∧ U.length ≤ i) fun ss => ?_
  walk_at "w"
  refine ⟨_, _, rfl, rfl, ⟨[], [], _, _, rfl, rfl, by simp, by simp⟩, fun i d Γ2 hd ⟨U, C, a, b, ec, h1, h2, h3⟩ => ?_, fun Γ2 ⟨U, C, a, b, ec, h1, h2, h3⟩ => ?_⟩
  · subst ec
    rw [zip_iLN, List.getElem?_map] at hd
    obtain ⟨q, hq, rfl⟩ := Option.map_eq_some_iff.mp hd
    rw [List.zip_eq_zipWith, List.getElem?_zipWith_eq_some] at hq
    obtain ⟨n, m, g1, g2, rfl⟩ := hq
    have hi := (List.getElem?_eq_some_iff.mp g1).1
    have hLi : L[i]? = some (sg l * n, m) := by
      rw [← hL, List.zip_eq_zipWith, List.getElem?_zipWith_eq_some]
      exact ⟨_, _, by rw [tm, List.getElem?_map, g1]; rfl, g2, rfl⟩
    walk_at "w"
    walk_at "s"
    walk_at "w"
    refine ⟨_, _, rfl, isl_ow rfl, gl_lt (by rw [List.length_map]; omega), ?_⟩
    rw [iL_one]
    walk_at "s"
    walk_at "w"
    refine ⟨(l, m), _, isl_ow rfl, rfl, ⟨U ++ [n], rfl, by simp; omega⟩, fun zs1 d ⟨T, G, U', k1, k2, k3, k4, k5⟩ => ?_⟩
    have e1 := iL_inj k1
    subst e1 k2 k3
    dsimp only at k4 k5
    have h4 := let_one hLi h1 k4 k5
    have h5 := congrArg List.length h4
    rw [lp_len, List.length_append, tm_len] at h5
    have h6 := k5.length_eq
    rw [tm_len, List.length_drop, asc_len, tm_len] at h6
    simp only [List.length_append, List.length_singleton, List.length_nil] at h5 h6
    walk_at "s"
    walk_at "w"
    refine ⟨_, _, rfl, isl_ow rfl, gl_le (by simp only [List.length_map]; omega), ?_⟩
    rw [iL_app]
    walk_at "s"
    exact ⟨U', C ++ G, _, _, rfl, h4, by rw [List.length_append]; omega, by omega⟩
  · subst ec
    have hz : (zipD (iL ns) (iL (rs.map Int.ofNat))).length = L.length := by
      rw [zipD_len]
      simp only [List.length_map]
      omega
    rw [hz] at h1 h3
    rw [List.drop_length] at h1
    walk_at "w"
    refine ⟨(l, 0), _, isl_ow rfl, rfl, ⟨U, rfl, by omega⟩, fun zs1 d ⟨T, G, U', k1, k2, k3, k4, k5⟩ => ?_⟩
    have e1 := iL_inj k1
    subst e1 k2 k3
    dsimp only at k4 k5
    have k6 : tm l G = asc (tm l U) := by
      rw [k4, List.take_of_length_le (by rw [asc_len, tm_len]; omega)]
    have k7 : lp L [] = tm l (C ++ G) := by
      rw [h1, tm_app, k6]
      rfl
    have h5 := congrArg List.length k7
    rw [lp_len, tm_len, List.length_append] at h5
    simp only [List.length_nil] at h5
    walk_at "s"
    refine r2_catR (rd_ow rfl) rd_dt (gl_le (by simp only [List.length_map]; omega)) ?_
    rw [iL_app]
    walk_at "w"
    show PyData.list _ = _
    rw [k7, tm_tm]
theorem ok_past {f : Addr} {fd : FuncData} (D : Df K mg "past" s_past ["row", "shelf"] f fd) {f__check_shelf : Addr} {d__check_shelf : FuncData} (C__check_shelf : Cal P w K mg base 5 "_check_shelf" ["shelf"] (spF K (fun p : Bool × Nat => [.dt (.tuple [.str (wd p.1), .int p.2])]) (fun p => p.2 ≤ 9) fun _ => .none) f__check_shelf d__check_shelf) {f__let_past : Addr} {d__let_past : FuncData} (C__let_past : Cal P w K mg base 2 "_let_past" ["numbers", "word", "places"] (spF K (fun p : Bool × List Int × List Nat => [.dt (.tuple (iL p.2.1)), .dt (.str (wd p.1)), .dt (.list (iL (p.2.2.map Int.ofNat)))]) (fun p => p.2.1.length ≤ 50 ∧ p.2.2.length = p.2.1.length) fun p => .list (iL (tm p.1 (lp ((tm p.1 p.2.1).zip p.2.2) [])))) f__let_past d__let_past) {f_check_row : Addr} {d_check_row : FuncData} (C_check_row : Cal P w K mg base 3 "check_row" ["row"] (spF K (fun r : List (Option Int) => [.dt (.tuple (oL r))]) RowOk fun _ => .none) f_check_row d_check_row) {f_stretches : Addr} {d_stretches : FuncData} (C_stretches : Cal P w K mg base 4 "stretches" ["row"] (spF K (fun r : List (Option Int) => [.dt (.tuple (oL r))]) RowOk fun r => .list (tL (lots r))) f_stretches d_stretches) (m_len : mg "len" = none) (m_tuple : mg "tuple" = none) : Cal P w K mg base 6 "past" ["row", "shelf"] (spF K (fun p : List (Option Int) × Bool × Nat => [.dt (.tuple (oL p.1)), .dt (.tuple [.str (wd p.2.1), .int p.2.2])]) (fun p => RowOk p.1 ∧ p.2.2 ≤ 9) fun p => .tuple (oL (pastR p.2.1 p.2.2 p.1))) f fd := by
  refine D.cal (ok_G D.F sc_past (fun _ => rfl) (by decide) fun cdv A outer s H E hr => ⟨_, (pss_cons (ps_expr (pe_call C_check_row.G (hr.mono (by decide)) (by rfl) C_check_row.g C_check_row.kp C_check_row.b .nil pass0 (pa_cons (pv 0) pa_nil)))
      (pss_cons (ps_expr (pe_call C__check_shelf.G (hr.mono (by decide)) (by rfl) C__check_shelf.g C__check_shelf.kp C__check_shelf.b .nil pass0 (pa_cons (pv 1) pa_nil)))
      (pss_cons (ps_asg (pv 1) (pg_tup (n := 2) rfl (pgs_cons (pg_name (i := 2) sc_past.nd rfl (by first | exact Or.inl rfl | exact Or.inr rfl)) (pgs_cons (pg_name (i := 3) sc_past.nd rfl (by first | exact Or.inl rfl | exact Or.inr rfl)) pgs_nil))))
      (pss_cons (ps_set (i := 4) sc_past.nd rfl (Or.inl rfl) (pe_lst pa_nil))
      (pss_cons (ps_for PassesOwn.never rfl (pi_list (pe_call C_stretches.G (hr.mono (by decide)) (by rfl) C_stretches.g C_stretches.kp C_stretches.b .nil pass0 (pa_cons (pv 0) pa_nil))) (pg_name (i := 5) sc_past.nd rfl (by first | exact Or.inl rfl | exact Or.inr rfl)) (pss_cons (ps_expr (pe_bm PySem.F.plainAttrs_list PySem.F.slot_list_extend PySem.F.type_list_extend mt_extend (pv 4) (pa_cons (pe_call C__let_past.G (hr.mono (by decide)) (by rfl) C__let_past.g C__let_past.kp C__let_past.b .nil pass0 (pa_cons (pv 5) (pa_cons (pv 2) (pa_cons (pe_op op_rep (pe_lst (pa_cons (pv 3) pa_nil)) (pe_callB cl_len (by rfl) m_len PySem.boot_len (pa_cons (pv 5) pa_nil))) pa_nil)))) pa_nil)))
      (pss_one (ps_expr (pe_bm PySem.F.plainAttrs_list PySem.F.slot_list_append PySem.F.type_list_append mt_append (pv 4) (pa_cons pe_non pa_nil))))))
      (pss_one (ps_ret (pe_callTy cl_tupleF (by rfl) m_tuple (by decide +kernel) (pa_cons (pe_slice sl_list (pv 4) po_none (po_some (pe_un un_neg pe_int))) pa_nil))))))))), fun x hp => ?_⟩)
  have l1 := nums_len x.1
  have l2 := hp.1.1
  have l3 := lots_len x.1
  obtain ⟨r, l, n⟩ := x
  dsimp only at hp l1 l2 l3
  walk_at "s"
  walk_at "w"
  refine ⟨r, rfl, hp.1, ?_⟩
  walk_at "w"
  refine ⟨(l, n), rfl, hp.2, ?_⟩
  walk_at "w"
  walk_at "s"
  refine ss_for (fun i Γ => ∃ c, Γ = [.dt (.tuple (oL r)), .dt (.tuple [.str (wd l), .int n]), .dt (.str (wd l)), .dt (.int n), .ow (oL (joinO (((lots r).take i).map (pastL l n)))), c]) fun ss => ?_
  walk_at "w"
  refine ⟨r, rfl, hp.1, ?_⟩
  walk_at "w"
  refine ⟨fun i d Γ2 hd ⟨c, ec⟩ => ?_, fun Γ2 ⟨c, ec⟩ => ?_⟩
  · subst ec
    obtain ⟨s0, hs, rfl⟩ := tL_at hd
    have h1 := lots_mem (List.mem_of_getElem? hs)
    have hj := joinO_len l n ((lots r).take i)
    have hj1 := flat_take_le (lots r) i
    rw [lots_flat] at hj1
    have hj2 : ((lots r).take i).length ≤ (lots r).length := by rw [List.length_take]; omega
    rw [take_snoc hs, List.map_append, List.map_singleton, joinO_snoc]
    walk_at "w"
    walk_at "s"
    walk_at "w"
    refine r2_rep (.inr rfl) (by omega) (by rw [List.length_map]; omega) (gl_le (by simp only [List.length_map, List.length_singleton]; omega)) ?_
    rw [Int.toNat_natCast, List.length_map, rep_iL]
    walk_at "w"
    refine ⟨(l, s0, List.replicate s0.length n), rfl, ⟨(by omega : s0.length ≤ 50), by simp⟩, ?_⟩
    dsimp only
    rw [show s0.length = (tm l s0).length from (tm_len l s0).symm, zip_rep]
    walk_at "w"
    have hpl := pastL_len l n s0
    rw [show tm l (lp ((tm l s0).map fun a => (a, n)) []) = pastL l n s0 from rfl]
    refine ⟨_, _, rfl, isl_ow rfl, gl_le (by simp only [List.length_map]; omega), ?_⟩
    rw [← oL_some (pastL l n s0), oL_app]
    walk_at "s"
    walk_at "w"
    refine ⟨_, _, rfl, isl_ow rfl, gl_lt (by simp only [List.length_map, List.length_append]; omega), ?_⟩
    walk_at "s"
    exact ⟨_, congrArg (fun z => [_, _, _, _, Cell.ow z, _]) (oL_app _ [none])⟩
  · subst ec
    walk_at "w"
    show PyData.tuple _ = _
    rw [cut_last, oL_dropLast, tL, List.length_map, List.take_length]
    rfl
theorem ok_check_places {f : Addr} {fd : FuncData} (D : DfD K mg "check_places" s_check_places ["places", "least"] (0) f fd) {f_is_whole_within : Addr} {d_is_whole_within : FuncData} (C_is_whole_within : Cal P w K mg base 2 "is_whole_within" ["thing", "least", "most"] (spF K (fun p : Int × Int × Int => [.dt (.int p.1), .dt (.int p.2.1), .dt (.int p.2.2)]) (fun _ => True) fun p => .bool (decide (p.2.1 ≤ p.1) && decide (p.1 ≤ p.2.2))) f_is_whole_within d_is_whole_within) (c_MOST_PLACES : GlobI K mg "MOST_PLACES" 9) : CalD P w K mg base 3 "check_places" ["places", "least"] (spF K (fun p : Nat × Nat => [.dt (.int p.1), .dt (.int p.2)]) (fun p => p.2 ≤ p.1 ∧ p.1 ≤ 9) fun _ => .none) (0) f fd := by
  refine D.cal (ok_Gd D.F sc_check_places (fun _ => rfl) (by decide) fun cdv A outer s H E hr => ⟨_, (pss_one (ps_if (pt_not (pt_val (pe_call C_is_whole_within.G (hr.mono (by decide)) (by rfl) C_is_whole_within.g C_is_whole_within.kp C_is_whole_within.b .nil pass0 (pa_cons (pv 0) (pa_cons (pv 1) (pa_cons (pe_glob (v := .int (9)) (by rfl) c_MOST_PLACES.u.choose_spec ⟨_, rfl⟩) pa_nil)))))) (pss_one ps_never) pss_nil)), fun x hp => ?_⟩)
  walk_at "s"
  walk_at "w"
  refine ⟨(x.1, x.2, 9), rfl, trivial, ?_⟩
  walk_at "w"
  · have h1 : decide ((x.2 : Int) ≤ (x.1 : Int)) = true := decide_eq_true (by have := hp.1; omega)
    have h2 : decide ((x.1 : Int) ≤ 9) = true := decide_eq_true (by have := hp.2; omega)
    simp [h1, h2] at *
    exfalso
    omega
theorem ok__can_have {f : Addr} {fd : FuncData} (D : Df K mg "_can_have" s__can_have ["count", "rank", "places"] f fd) (m_list : mg "list" = none) (m_min : mg "min" = none) (m_range : mg "range" = none) : Cal P w K mg base 1 "_can_have" ["count", "rank", "places"] (spF K (fun p : Nat × Nat × Nat => [.dt (.int p.1), .dt (.int p.2.1), .dt (.int p.2.2)]) (fun p => p.1 ≤ 24 ∧ p.2.1 ≤ 24 ∧ p.2.2 ≤ 9) fun p => .list (iL (canL p.1 p.2.1 p.2.2))) f fd := by
  refine D.cal (ok_G D.F sc__can_have (fun _ => rfl) (by decide) fun cdv A outer s H E hr => ⟨_, (pss_cons (ps_if (pt_cmpR (op_eqD hr.units) (pv 0) pe_int (nomark _)) (pss_one (ps_ret (pe_listRg rfl (by rfl) m_list (prg_1 (by rfl) m_range (pe_op op_add (pe_callB (cl_min2 rfl) (by rfl) m_min (by decide +kernel) (pa_cons (pv 1) (pa_cons (pv 2) pa_nil))) pe_int))))) pss_nil)
      (pss_cons (ps_if (pt_cmpR op_le (pe_op op_add (pv 0) (pv 2)) (pv 1) (nomark _)) (pss_one (ps_ret (pe_lst (pa_cons (pe_op op_add (pv 0) (pv 2)) pa_nil)))) pss_nil)
      (pss_one (ps_ret (pe_lst pa_nil))))), fun x hp => ?_⟩)
  obtain ⟨c, r, b⟩ := x
  obtain ⟨h1, h2, h3⟩ := hp
  dsimp only at h1 h2 h3 ⊢
  walk_at "s"
  walk_at "w"
  · have hc := of_decide_eq_true ‹decide ((c : Int) = 0) = true›
    refine ⟨min r b + 1, by rw [show min (r : Int) (b : Int) + 1 = ((min r b + 1 : Nat) : Int) by omega], by omega, ?_⟩
    walk_at "w"
    rw [canL, if_pos (by omega), iL, List.map_map]
    rfl
  · have hc := of_decide_eq_false ‹decide ((c : Int) = 0) = false›
    have hr := of_decide_eq_true ‹decide ((c : Int) + (b : Int) ≤ (r : Int)) = true›
    rw [canL, if_neg (by omega), if_pos (by omega)]
    rfl
  · have hc := of_decide_eq_false ‹decide ((c : Int) = 0) = false›
    have hr := of_decide_eq_false ‹decide ((c : Int) + (b : Int) ≤ (r : Int)) = false›
    rw [canL, if_neg (by omega), if_neg (by omega)]
    rfl
theorem ok__counts_ahead {f : Addr} {fd : FuncData} (D : Df K mg "_counts_ahead" s__counts_ahead ["row", "places"] f fd) {f__can_have : Addr} {d__can_have : FuncData} (C__can_have : Cal P w K mg base 1 "_can_have" ["count", "rank", "places"] (spF K (fun p : Nat × Nat × Nat => [.dt (.int p.1), .dt (.int p.2.1), .dt (.int p.2.2)]) (fun p => p.1 ≤ 24 ∧ p.2.1 ≤ 24 ∧ p.2.2 ≤ 9) fun p => .list (iL (canL p.1 p.2.1 p.2.2))) f__can_have d__can_have) {f_counts : Addr} {d_counts : FuncData} (C_counts : Cal P w K mg base 4 "counts" ["row"] (spF K (fun r : List (Option Int) => [.dt (.tuple (oL r))]) RowOk fun r => .list (iL (gr (nums r)))) f_counts d_counts) (m_dict : mg "dict" = none) (m_enumerate : mg "enumerate" = none) (m_sorted : mg "sorted" = none) (m_zip : mg "zip" = none) : Cal P w K mg base 5 "_counts_ahead" ["row", "places"] (spF K (fun p : List Int × Nat => [.dt (.tuple (iL p.1)), .dt (.int p.2)]) (fun p => p.1.length ≤ 24 ∧ p.1.Nodup ∧ p.2 ≤ 9) fun p => .list (((dsc p.1).zipIdx).map fun q => .list (iL (canL (gc p.1 q.1) q.2 p.2)))) f fd := by
  refine D.cal (ok_G D.F sc__counts_ahead (fun _ => rfl) (by decide) fun cdv A outer s H E hr => ⟨_, (pss_cons (ps_set (i := 2) sc__counts_ahead.nd rfl (Or.inr rfl) (pe_dictZip (by rfl) m_dict (by rfl) m_zip (pa_cons (pv 0) (pa_cons (pe_call C_counts.G (hr.mono (by decide)) (by rfl) C_counts.g C_counts.kp C_counts.b .nil pass0 (pa_cons (pv 0) pa_nil)) pa_nil))))
      (pss_one (ps_ret (pe_lc (own := [("rank", 3), ("number", 4)]) rfl sc__counts_ahead.nd (pi_enum (by rfl) m_enumerate (pa_cons (pe_callBK (cr_sortedRevT (b := true)) (by rfl) m_sorted (by decide +kernel) (pa_cons (pv 0) pa_nil) (pk_cons pe_bl pk_nil)) pa_nil)) (blkOk_by (own := [("rank", 3), ("number", 4)]) (N := ["row", "places", "now", "rank", "number"]) (sc := (defScope s__counts_ahead)) (by decide +kernel)) (fun _ _ _ _ _ => (pg_tupK (K := K) (n := 2) rfl rfl (pgs_cons (pg_name (i := 3) sc__counts_ahead.nd rfl (by first | exact Or.inl rfl | exact Or.inr rfl)) (pgs_cons (pg_name (i := 4) sc__counts_ahead.nd rfl (by first | exact Or.inl rfl | exact Or.inr rfl)) pgs_nil)))) (fun _ _ _ _ _ => pts_nil) (fun _ _ _ _ _ => (pe_call C__can_have.G (hr.mono (by decide)) (by rfl) C__can_have.g C__can_have.kp C__can_have.b .nil pass0 (pa_cons (pe_dget (hu1 hr.units) (pv 2) (pv 4) (fun _ _ => rfl)) (pa_cons (pv 3) (pa_cons (pv 1) pa_nil))))))))), fun x hp => ?_⟩)
  obtain ⟨N, b⟩ := x
  obtain ⟨h1, h2, h3⟩ := hp
  dsimp only at h1 h2 h3 ⊢
  walk_at "s"
  walk_at "w"
  refine ⟨N.map some, by rw [oL_some], ⟨by simp; omega, by rw [nums_some]; exact h2⟩, ?_⟩
  rw [nums_some]
  refine ⟨N, gr N, rfl, rd_dt, gr_len N, h2, by omega, ?_⟩
  walk_at "s"
  walk_at "w"
  walk_at "s"
  apply ve_lcT (vs := [3, 4]) (fun p : Int × Nat => PyData.tuple [.int p.2, .int p.1]) (dsc N).zipIdx (fun _ => true) (fun q => PyData.list (iL (canL (gc N q.1) q.2 b))) (by walk_at "n")
  walk_at "w"
  refine ve_sortedTB ?_
  walk_at "w"
  refine fun ns' p1 p2 => ?_
  rw [eq_dsc p1 p2]
  walk_at "w"
  have hdl := (dsc_perm N).length_eq
  refine ⟨enum_iL _, by simp, gl_lt (by rw [List.length_zipIdx]; omega), fun a ha => ⟨_, tg_pair (by decide) (by decide), fun acc srcs => ?_⟩, ?_⟩
  · obtain ⟨y, i⟩ := a
    have hm := List.mem_zipIdx_iff_getElem?.mp ha
    dsimp only at hm ⊢
    have hy : y ∈ N := (dsc_perm N).mem_iff.mp (List.mem_of_getElem? hm)
    have hi := (List.getElem?_eq_some_iff.mp hm).1
    have hg : gc N y ≤ N.length := gc_len
    walk_at "s"
    walk_at "w"
    refine ⟨rfl, fun _ => ?_, fun _ => rfl⟩
    walk_at "w"
    refine ⟨_, y, _, rfl, rfl, lk_gr h2 hy, ?_⟩
    walk_at "w"
    refine ⟨(gc N y, i, b), rfl, ⟨(by omega : gc N y ≤ 24), (by omega : i ≤ 24), h3⟩, ?_⟩
    walk_at "w"
    exact ⟨rfl, rfl⟩
  walk_at "w"
  rw [fil_true]
theorem ok_how_many {f : Addr} {fd : FuncData} (D : Df K mg "how_many" s_how_many ["row", "places"] f fd) {f__counts_ahead : Addr} {d__counts_ahead : FuncData} (C__counts_ahead : Cal P w K mg base 5 "_counts_ahead" ["row", "places"] (spF K (fun p : List Int × Nat => [.dt (.tuple (iL p.1)), .dt (.int p.2)]) (fun p => p.1.length ≤ 24 ∧ p.1.Nodup ∧ p.2 ≤ 9) fun p => .list (((dsc p.1).zipIdx).map fun q => .list (iL (canL (gc p.1 q.1) q.2 p.2)))) f__counts_ahead d__counts_ahead) {f_check_places : Addr} {d_check_places : FuncData} (C_check_places : CalD P w K mg base 3 "check_places" ["places", "least"] (spF K (fun p : Nat × Nat => [.dt (.int p.1), .dt (.int p.2)]) (fun p => p.2 ≤ p.1 ∧ p.1 ≤ 9) fun _ => .none) (0) f_check_places d_check_places) {f_check_unmarked : Addr} {d_check_unmarked : FuncData} (C_check_unmarked : Cal P w K mg base 4 "check_unmarked" ["row"] (spF K (fun r : List Int => [.dt (.tuple (iL r))]) (fun r => r.length ≤ 24 ∧ r.Nodup) fun _ => .none) f_check_unmarked d_check_unmarked) (m_len : mg "len" = none) : Cal P w K mg base 6 "how_many" ["row", "places"] (spF K (fun p : List Int × Nat => [.dt (.tuple (iL p.1)), .dt (.int p.2)]) (fun p => p.1.length ≤ 24 ∧ p.1.Nodup ∧ p.2 ≤ 9) fun p => .int (manyA p.1 p.2 : Nat)) f fd := by
  refine D.cal (ok_G D.F sc_how_many (fun _ => rfl) (by decide) fun cdv A outer s H E hr => ⟨_, (pss_cons (ps_expr (pe_call C_check_unmarked.G (hr.mono (by decide)) (by rfl) C_check_unmarked.g C_check_unmarked.kp C_check_unmarked.b .nil pass0 (pa_cons (pv 0) pa_nil)))
      (pss_cons (ps_expr (pe_call C_check_places.G (hr.mono (by decide)) (by rfl) C_check_places.g C_check_places.kp C_check_places.b1.choose_spec.2 C_check_places.b1.choose_spec.1 pass0 (pa_cons (pv 1) pa_nil)))
      (pss_cons (ps_set (i := 2) sc_how_many.nd rfl (Or.inl rfl) pe_int)
      (pss_cons (ps_for PassesOwn.never rfl (pi_list (pe_call C__counts_ahead.G (hr.mono (by decide)) (by rfl) C__counts_ahead.g C__counts_ahead.kp C__counts_ahead.b .nil pass0 (pa_cons (pv 0) (pa_cons (pv 1) pa_nil)))) (pg_name (i := 3) sc_how_many.nd rfl (by first | exact Or.inl rfl | exact Or.inr rfl)) (pss_one (ps_aug (i := 2) sc_how_many.nd rfl (Or.inl rfl) (pe_callB cl_len (by rfl) m_len PySem.boot_len (pa_cons (pv 3) pa_nil)) iop_mul)))
      (pss_one (ps_ret (pv 2))))))), fun x hp => ?_⟩)
  obtain ⟨N, b⟩ := x
  obtain ⟨h1, h2, h3⟩ := hp
  dsimp only at h1 h2 h3 ⊢
  walk_at "s"
  walk_at "w"
  refine ⟨N, rfl, ⟨h1, h2⟩, ?_⟩
  walk_at "w"
  refine ⟨(b, 0), rfl, ⟨Nat.zero_le _, h3⟩, ?_⟩
  walk_at "w"
  walk_at "s"
  refine ss_for (fun k Γ => ∃ c : Cell, Γ = [.dt (.tuple (iL N)), .dt (.int b), .dt (.int (((cansA N b).take k).foldl (fun m l => m * l.length) 1 : Nat)), c]) fun ss => ?_
  walk_at "w"
  refine ⟨(N, b), rfl, ⟨h1, h2, h3⟩, ?_⟩
  walk_at "w"
  refine ⟨fun i d Γ2 hd ⟨c, ec⟩ => ?_, fun Γ2 ⟨c, ec⟩ => ?_⟩
  · subst ec
    obtain ⟨q, hq, rfl⟩ : ∃ q, (cansA N b)[i]? = some q ∧ PyData.list (iL q) = d := by
      rw [List.getElem?_map] at hd
      obtain ⟨q, hq, rfl⟩ := Option.map_eq_some_iff.mp hd
      exact ⟨_, by unfold cansA; rw [List.getElem?_map, hq]; rfl, rfl⟩
    have hql : (iL q).length ≤ b + 1 := by
      rw [List.length_map]
      have := List.mem_of_getElem? hq
      unfold cansA at this
      obtain ⟨p, _, rfl⟩ := List.mem_map.mp this
      exact canL_len
    walk_at "w"
    walk_at "s"
    walk_at "w"
    refine ⟨_, _, rfl, rfl, .inr ⟨by omega, by omega⟩, ⟨.dt (.list (iL q)), ?_⟩⟩
    rw [take_snoc hq, List.foldl_append, List.length_map]
    show _ = [_, _, Cell.dt (PyData.int ((_ * q.length : Nat) : Int)), _]
    rw [Int.natCast_mul]
  · subst ec
    walk_at "w"
    rw [List.take_of_length_le (by unfold cansA; simp)]
    rfl
theorem ok_ahead {f : Addr} {fd : FuncData} (D : Df K mg "ahead" s_ahead ["row", "places"] f fd) {f__counts_ahead : Addr} {d__counts_ahead : FuncData} (C__counts_ahead : Cal P w K mg base 5 "_counts_ahead" ["row", "places"] (spF K (fun p : List Int × Nat => [.dt (.tuple (iL p.1)), .dt (.int p.2)]) (fun p => p.1.length ≤ 24 ∧ p.1.Nodup ∧ p.2 ≤ 9) fun p => .list (((dsc p.1).zipIdx).map fun q => .list (iL (canL (gc p.1 q.1) q.2 p.2)))) f__counts_ahead d__counts_ahead) {f_how_many : Addr} {d_how_many : FuncData} (C_how_many : Cal P w K mg base 6 "how_many" ["row", "places"] (spF K (fun p : List Int × Nat => [.dt (.tuple (iL p.1)), .dt (.int p.2)]) (fun p => p.1.length ≤ 24 ∧ p.1.Nodup ∧ p.2 ≤ 9) fun p => .int (manyA p.1 p.2 : Nat)) f_how_many d_how_many) {f_row_of : Addr} {d_row_of : FuncData} (C_row_of : Cal P w K mg base 5 "row_of" ["numbers", "counts"] (spF K (fun p : List Int × List Int => [.dt (.tuple (iL p.1)), .dt (.list (iL p.2))]) (fun p => p.1.length ≤ 24 ∧ p.1.Nodup ∧ CntOk p.2 p.1.length) fun p => .tuple (iL (rowF (dsc p.1) p.2))) f_row_of d_row_of) (m_sorted : mg "sorted" = none) (c_MOST_ROWS : GlobI K mg "MOST_ROWS" 3000) : Cal P w K mg base 7 "ahead" ["row", "places"] (spF K (fun p : List Int × Nat => [.dt (.tuple (iL p.1)), .dt (.int p.2)]) (fun p => p.1.length ≤ 24 ∧ p.1.Nodup ∧ p.2 ≤ 9 ∧ manyA p.1 p.2 ≤ 3000) fun p => .list (tL (srtL (aheadL p.1 p.2)))) f fd := by
  refine D.cal (ok_G D.F sc_ahead (fun _ => rfl) (by decide) fun cdv A outer s H E hr => ⟨_, (pss_cons (ps_set (i := 2) sc_ahead.nd rfl (Or.inl rfl) (pe_call C_how_many.G (hr.mono (by decide)) (by rfl) C_how_many.g C_how_many.kp C_how_many.b .nil pass0 (pa_cons (pv 0) (pa_cons (pv 1) pa_nil))))
      (pss_cons (ps_if (pt_cmpR op_gt (pv 2) (pe_glob (v := .int (3000)) (by rfl) c_MOST_ROWS.u.choose_spec ⟨_, rfl⟩) (nomark _)) (pss_one ps_never) pss_nil)
      (pss_cons (ps_if (pt_cmpR (op_eqD hr.units) (pv 2) pe_int (nomark _)) (pss_one (ps_ret (pe_lst pa_nil))) pss_nil)
      (pss_cons (ps_set (i := 3) sc_ahead.nd rfl (Or.inl rfl) (pe_lst (pa_cons (pe_lst pa_nil) pa_nil)))
      (pss_cons (ps_for PassesOwn.never rfl (pi_list (pe_call C__counts_ahead.G (hr.mono (by decide)) (by rfl) C__counts_ahead.g C__counts_ahead.kp C__counts_ahead.b .nil pass0 (pa_cons (pv 0) (pa_cons (pv 1) pa_nil)))) (pg_name (i := 4) sc_ahead.nd rfl (by first | exact Or.inl rfl | exact Or.inr rfl)) (pss_one (ps_setLc2 (i := 3) (own := [("ones", 5), ("count", 6)]) (vs1 := [6]) rfl sc_ahead.nd rfl rfl (sw_true rfl rfl rfl (by decide +kernel)) (pi_list (pv 3)) (blkOk_by (own := [("ones", 5), ("count", 6)]) (N := ["row", "places", "many", "told", "can_have", "ones", "count"]) (sc := (defScope s_ahead)) (by decide +kernel)) (by decide) (fun _ _ _ _ _ => (pg_name (i := 5) sc_ahead.nd rfl (by first | exact Or.inl rfl | exact Or.inr rfl))) (fun _ _ _ _ _ => pts_nil) (fun _ _ _ _ _ => (pi_listK (K := K) rfl (pv 4))) (fun _ _ _ _ _ => (pg_name (i := 6) sc_ahead.nd rfl (by first | exact Or.inl rfl | exact Or.inr rfl))) (fun _ _ _ _ _ => pts_nil) (fun _ _ _ _ _ => (pe_lst (pa_starK rfl (pv 5) (pa_cons (pv 6) pa_nil)))))))
      (pss_one (ps_ret (pe_callB (cr_sortedD1 hr.units) (by rfl) m_sorted (by decide +kernel) (pa_cons (pe_lc (own := [("ones", 5)]) rfl sc_ahead.nd (pi_list (pv 3)) (blkOk_by (own := [("ones", 5)]) (N := ["row", "places", "many", "told", "can_have", "ones", "count"]) (sc := (defScope s_ahead)) (by decide +kernel)) (fun _ _ _ _ _ => (pg_name (i := 5) sc_ahead.nd rfl (by first | exact Or.inl rfl | exact Or.inr rfl))) (fun _ _ _ _ _ => pts_nil) (fun _ _ _ _ _ => (pe_call C_row_of.G (hr.mono (by decide)) (by rfl) C_row_of.g C_row_of.kp C_row_of.b .nil pass0 (pa_cons (pv 0) (pa_cons (pv 5) pa_nil))))) pa_nil))))))))), fun x hp => ?_⟩)
  obtain ⟨N, b⟩ := x
  obtain ⟨h1, h2, h3, h4⟩ := hp
  dsimp only at h1 h2 h3 h4 ⊢
  rw [← ahead_eq]
  walk_at "s"
  walk_at "w"
  refine ⟨(N, b), rfl, ⟨h1, h2, h3⟩, ?_⟩
  walk_at "w"
  · exact absurd (of_decide_eq_true ‹decide ((3000 : Int) < ((manyA (N, b).fst (N, b).snd : Nat) : Int)) = true›) (by dsimp only; omega)
  · have e0 := of_decide_eq_true ‹decide (((manyA (N, b).fst (N, b).snd : Nat) : Int) = 0) = true›
    dsimp only at e0
    have e1 : allA N b = [] := List.length_eq_zero_iff.mp (by rw [allA_len]; omega)
    rw [e1, List.map_nil, List.mergeSort_nil]
  have e0 := of_decide_eq_false ‹decide (((manyA (N, b).fst (N, b).snd : Nat) : Int) = 0) = false›
  dsimp only at e0
  have hne : manyA N b ≠ 0 := by omega
  refine ss_for (fun k Γ => ∃ c : Cell, Γ = [.dt (.tuple (iL N)), .dt (.int b), .dt (.int (manyA N b : Nat)), .ow ((allF [[]] ((cansA N b).take k)).map fun o => PyData.list (iL o)), c, .no, .no]) fun ss => ?_
  walk_at "w"
  refine ⟨(N, b), rfl, ⟨h1, h2, h3⟩, ?_⟩
  walk_at "w"
  refine ⟨fun i d Γ2 hd ⟨c, ec⟩ => ?_, fun Γ2 ⟨c, ec⟩ => ?_⟩
  · subst ec
    obtain ⟨q, hq, rfl⟩ : ∃ q, (cansA N b)[i]? = some q ∧ PyData.list (iL q) = d := by
      rw [List.getElem?_map] at hd
      obtain ⟨q, hq, rfl⟩ := Option.map_eq_some_iff.mp hd
      exact ⟨_, by unfold cansA; rw [List.getElem?_map, hq]; rfl, rfl⟩
    have hpart := fm_part (k := i + 1) hne
    have eF : allF [[]] ((cansA N b).take (i + 1)) = (allF [[]] ((cansA N b).take i)).flatMap fun o => q.map fun x => o ++ [x] := by
      rw [take_snoc hq, allF_snoc]
    have eL : (allF [[]] ((cansA N b).take (i + 1))).length ≤ 3000 := by
      rw [allF_len]
      exact Nat.le_trans hpart h4
    have hi := (List.getElem?_eq_some_iff.mp hq).1
    rw [cansA_len] at hi
    walk_at "w"
    apply ve_lc2T (vs := [5, 6]) (vs1 := [6]) (fun o : List Int => PyData.list (iL o)) (allF [[]] ((cansA N b).take i)) (fun _ => true) (fun _ => PyData.int) (fun _ => q) (fun _ _ => true) (fun o x => PyData.list (iL (o ++ [x]))) (by walk_at "n") (by walk_at "n")
    walk_at "w"
    have eV : ((allF [[]] ((cansA N b).take i)).filter fun _ => true).flatMap (fun o => (q.filter fun _ => true).map fun x => PyData.list (iL (o ++ [x]))) = (allF [[]] ((cansA N b).take (i + 1))).map fun o => PyData.list (iL o) := by
      rw [eF, fil_true, fil_true, List.map_flatMap]
      congr 1
      funext o
      rw [List.map_map]
      rfl
    refine ⟨rfl, by simp, gl_lt (by rw [eV, List.length_map]; omega), fun o ho => ⟨_, tg_name (by decide), fun acc srcs => ?_⟩, ?_⟩
    · have hol := (allF_in _ _ rfl o ho).1
      rw [List.length_take] at hol
      walk_at "s"
      walk_at "w"
      refine ⟨rfl, (fun z => by cases z), fun _ acc => ?_⟩
      walk_at "w"
      refine ⟨rfl, by simp, rfl, fun y hy => ⟨_, tg_name (by decide), fun acc srcs => ?_⟩⟩
      walk_at "s"
      walk_at "w"
      refine ⟨rfl, (fun z => by cases z), fun _ => ?_⟩
      walk_at "w"
      refine ⟨iL o, rfl, ?_⟩
      walk_at "w"
      refine ⟨iL o ++ [.int y], dts_app _ rfl, gl_le (by simp only [List.length_append, List.length_map, List.length_singleton]; omega), ?_⟩
      walk_at "w"
      exact ⟨by rw [iL, iL, List.map_append]; rfl, rfl⟩
    · rw [eV]
      walk_at "w"
      exact ⟨.dt (.list (iL q)), rfl⟩
  · subst ec
    have eT : (cansA N b).take ((dsc N).zipIdx.map fun q => PyData.list (iL (canL (gc N q.1) q.2 b))).length = cansA N b := List.take_of_length_le (by unfold cansA; simp)
    rw [eT]
    show VSs K [_, _, _, .ow ((allA N b).map fun o => PyData.list (iL o)), _, _, _] _ _
    walk_at "w"
    apply ve_lcT (vs := [5]) (fun o : List Int => PyData.list (iL o)) (allA N b) (fun _ => true) (fun o => PyData.tuple (iL (rowF (dsc N) o))) (by walk_at "n")
    walk_at "w"
    refine ⟨rfl, by simp, gl_lt (by rw [allA_len]; omega), fun o ho => ⟨_, tg_name (by decide), fun acc srcs => ?_⟩, ?_⟩
    · walk_at "s"
      walk_at "w"
      refine ⟨rfl, fun _ => ?_, fun _ => rfl⟩
      walk_at "w"
      refine ⟨(N, o), rfl, ⟨h1, h2, allA_ok ho⟩, ?_⟩
      walk_at "w"
      exact ⟨rfl, rfl⟩
    rw [fil_true]
    walk_at "w"
    have hd60 : ∀ d ∈ (allA N b).map (fun o => PyData.tuple (iL (rowF (dsc N) o))), PyData.depth d ≤ 60 := fun d hd => by
      obtain ⟨o, ho, rfl⟩ := List.mem_map.mp hd
      exact Nat.le_trans (shp_ti _).2 (by decide)
    refine c1_sortedD1 ?_ hd60 ?_
    · rcases Nat.eq_zero_or_pos N.length with h0 | h0
      · left
        rw [List.length_map, allA_len, List.length_eq_zero_iff.mp h0]
        unfold manyA cansA dsc
        rw [List.mergeSort_nil]
        exact Nat.le_refl 1
      · right
        have hm : ∀ d ∈ (allA N b).map (fun o => PyData.tuple (iL (rowF (dsc N) o))), ∃ u v : _, ∃ l : List Int, l = u :: v ∧ d = PyData.tuple (iL l) := fun d hd => by
          obtain ⟨o, ho, rfl⟩ := List.mem_map.mp hd
          have hl := ((rowF_perm (D := dsc N) (by rw [(allA_ok ho).1, (dsc_perm N).length_eq])).trans (dsc_perm N)).length_eq
          cases hr : rowF (dsc N) o with
          | nil => rw [hr] at hl; simp at hl; omega
          | cons u v => exact ⟨u, v, _, rfl, rfl⟩
        refine ⟨fun d hd d' hd' => ?_, .inl fun d hd => ?_⟩
        · obtain ⟨u, v, l, _, rfl⟩ := hm d hd
          obtain ⟨u', v', l', _, rfl⟩ := hm d' hd'
          exact alike_ti l l'
        · obtain ⟨u, v, l, rfl, rfl⟩ := hm d hd
          exact ⟨_, _, rfl⟩
    walk_at "w"
theorem ok_aheadR {f : Addr} {fd : FuncData} (D : Df K mg "ahead" s_ahead ["row", "places"] f fd) {f_how_many : Addr} {d_how_many : FuncData} (C_how_many : Cal P w K mg base 6 "how_many" ["row", "places"] (spF K (fun p : List Int × Nat => [.dt (.tuple (iL p.1)), .dt (.int p.2)]) (fun p => p.1.length ≤ 24 ∧ p.1.Nodup ∧ p.2 ≤ 9) fun p => .int (manyA p.1 p.2 : Nat)) f_how_many d_how_many) (c_MOST_ROWS : GlobI K mg "MOST_ROWS" 3000) {C_TooMany : Addr} (x_TooMany : ExcF K mg "TooMany" C_TooMany) : CalR P w K mg base 7 "ahead" ["row", "places"] (spR K (fun p : List Int × Nat => [.dt (.tuple (iL p.1)), .dt (.int p.2)]) (fun p => p.1.length ≤ 24 ∧ p.1.Nodup ∧ p.2 ≤ 9 ∧ 3000 < manyA p.1 p.2) fun _ => C_TooMany) f fd := by
  refine D.calR (ok_R D.F sc_ahead (fun _ => rfl) (by decide) fun cdv A outer s H E hr => ⟨_, (pss_cons (ps_set (i := 2) sc_ahead.nd rfl (Or.inl rfl) (pe_call C_how_many.G (hr.mono (by decide)) (by rfl) C_how_many.g C_how_many.kp C_how_many.b .nil pass0 (pa_cons (pv 0) (pa_cons (pv 1) pa_nil))))
      (pss_cons (ps_if (pt_cmpR op_gt (pv 2) (pe_glob (v := .int (3000)) (by rfl) c_MOST_ROWS.u.choose_spec ⟨_, rfl⟩) (nomark _)) (pss_one (L2N.ps_raise rfl (L2N.takes_of rfl rfl rfl rfl) (Xa.pmk_n1 PySem.F.excBase_ValueError x_TooMany.x x_TooMany.g x_TooMany.k (raises_own x_TooMany.b x_TooMany.t) rfl (pe_joined (PJ.cons pe_str (PJ.cons (pe_fmt (pe_glob (v := .int (3000)) (by rfl) c_MOST_ROWS.u.choose_spec ⟨_, rfl⟩)) (PJ.cons pe_str PJ.nil))))))) pss_nil)
      (pss_cons ps_never
      (pss_cons ps_never
      (pss_cons ps_never
      (pss_one ps_never)))))), fun x S0 hp hE => ?_⟩)
  obtain ⟨N, b⟩ := x
  obtain ⟨h1, h2, h3, h4⟩ := hp
  dsimp only at h1 h2 h3 h4 hE ⊢
  refine sr_seq ?_
  walk_at "s"
  walk_at "w"
  refine ⟨(N, b), rfl, ⟨h1, h2, h3⟩, ?_⟩
  walk_at "w"
  refine sr_first (sr_if fun ss => ?_)
  walk_at "w"
  · refine sr_raise (ta := fun σ H Q => tJs _ Str.empty σ H fun out H1 => Q (.str out) H1) hE fun ss σ τ S E Q h => ?_
    refine ⟨_, rfl, by decide, .inr ⟨3000, rfl, by decide, _, rfl, by decide, _, rfl, by decide, h _⟩⟩
  · exact absurd ‹decide ((3000 : Int) < ((manyA N b : Nat) : Int)) = false› (by simp; omega)
theorem ok_can_come {f : Addr} {fd : FuncData} (D : Df K mg "can_come" s_can_come ["row", "places"] f fd) {f_how_many : Addr} {d_how_many : FuncData} (C_how_many : Cal P w K mg base 6 "how_many" ["row", "places"] (spF K (fun p : List Int × Nat => [.dt (.tuple (iL p.1)), .dt (.int p.2)]) (fun p => p.1.length ≤ 24 ∧ p.1.Nodup ∧ p.2 ≤ 9) fun p => .int (manyA p.1 p.2 : Nat)) f_how_many d_how_many) : Cal P w K mg base 7 "can_come" ["row", "places"] (spF K (fun p : List Int × Nat => [.dt (.tuple (iL p.1)), .dt (.int p.2)]) (fun p => p.1.length ≤ 24 ∧ p.1.Nodup ∧ p.2 ≤ 9) fun p => .bool (decide (0 < (manyA p.1 p.2 : Int)))) f fd := by
  refine D.cal (ok_G D.F sc_can_come (fun _ => rfl) (by decide) fun cdv A outer s H E hr => ⟨_, (pss_one (ps_ret (pe_cmpR op_gt (pe_call C_how_many.G (hr.mono (by decide)) (by rfl) C_how_many.g C_how_many.kp C_how_many.b .nil pass0 (pa_cons (pv 0) (pa_cons (pv 1) pa_nil))) pe_int (nomark _)))), fun x hp => ?_⟩)
  obtain ⟨N, b⟩ := x
  obtain ⟨h1, h2, h3⟩ := hp
  dsimp only at h1 h2 h3 ⊢
  walk_at "s"
  walk_at "w"
  refine ⟨(N, b), rfl, ⟨h1, h2, h3⟩, ?_⟩
  walk_at "w"
theorem ok_askN {f : Addr} {fd : FuncData} (D : Df K mg "_law_ask" s__law_ask ["_law_row", "_law_room"] f fd) {f_ahead : Addr} {d_ahead : FuncData} (C_ahead : Cal P w K mg base 7 "ahead" ["row", "places"] (spF K (fun p : List Int × Nat => [.dt (.tuple (iL p.1)), .dt (.int p.2)]) (fun p => p.1.length ≤ 24 ∧ p.1.Nodup ∧ p.2 ≤ 9 ∧ manyA p.1 p.2 ≤ 3000) fun p => .list (tL (srtL (aheadL p.1 p.2)))) f_ahead d_ahead) {C_ShelfError : Addr} (g_ShelfError : mg "ShelfError" = some (.ref C_ShelfError)) : Cal P w K mg base 8 "_law_ask" ["_law_row", "_law_room"] (spF K (fun p : List Int × Nat => [.dt (.tuple (iL p.1)), .dt (.int p.2)]) (fun p => p.1.length ≤ 24 ∧ p.1.Nodup ∧ p.2 ≤ 9 ∧ manyA p.1 p.2 ≤ 3000) fun p => .list (tL (srtL (aheadL p.1 p.2)))) f fd := by
  refine D.cal (ok_G D.F sc__law_ask (fun _ => rfl) (by decide) fun cdv A outer s H E hr => ⟨_, (pss_one (L2N.ps_try_as (i := 2) rfl rfl sc__law_ask.nd rfl rfl ⟨rfl, by decide, .inl g_ShelfError⟩ Xa.takes0N (fun W pn xe tk _ => (pss_one (ps_ret (pe_call C_ahead.G (hr.mono (by decide)) (by rfl) C_ahead.g C_ahead.kp C_ahead.b .nil pass0 (pa_cons (pv 0) (pa_cons (pv 1) pa_nil)))))) (fun a oe cls d pn hz hf => (pss_one ps_never)))), fun x hp => ?_⟩)
  obtain ⟨N, b⟩ := x
  obtain ⟨h1, h2, h3, h4⟩ := hp
  dsimp only at h1 h2 h3 h4 ⊢
  walk_at "s"
  walk_at "w"
  refine ⟨(N, b), rfl, ⟨h1, h2, h3, h4⟩, ?_⟩
  walk_at "w"
theorem ok_askR {f : Addr} {fd : FuncData} (D : Df K mg "_law_ask" s__law_ask ["_law_row", "_law_room"] f fd) {C_TooMany : Addr} {f_aheadR : Addr} {d_aheadR : FuncData} (C_aheadR : CalR P w K mg base 7 "ahead" ["row", "places"] (spR K (fun p : List Int × Nat => [.dt (.tuple (iL p.1)), .dt (.int p.2)]) (fun p => p.1.length ≤ 24 ∧ p.1.Nodup ∧ p.2 ≤ 9 ∧ 3000 < manyA p.1 p.2) fun _ => C_TooMany) f_aheadR d_aheadR) {C_ShelfError : Addr} (g_ShelfError : mg "ShelfError" = some (.ref C_ShelfError)) {idx : Addr → Option Int} {f_w : Addr} {d_w : FuncData} (W_which : Xa.FnE P w K mg base 1 f_w d_w ["_law_e"] (spE idx)) (w_g : mg "_law_which" = some (.ref f_w)) (w_k : PySem.W.keepIn K (.ref f_w) = true) (w_b : Binds K d_w ["_law_e"] []) (w_e : PySem.W.exmOne K (.ref C_TooMany) (.ref C_ShelfError) = some true) (w_i : idx C_TooMany = some 7) : Cal P w K mg base 8 "_law_ask" ["_law_row", "_law_room"] (spF K (fun p : List Int × Nat => [.dt (.tuple (iL p.1)), .dt (.int p.2)]) (fun p => p.1.length ≤ 24 ∧ p.1.Nodup ∧ p.2 ≤ 9 ∧ 3000 < manyA p.1 p.2) fun _ => .tuple [.str "refused", .int 7]) f fd := by
  refine D.cal (ok_G D.F sc__law_ask (fun _ => rfl) (by decide) fun cdv A outer s H E hr => ⟨_, (pss_one (L2N.ps_try_as (i := 2) (ts := fun a cl d => tRet (tCall (spE idx a cl d) [] E0 (tCons (tVar 2) tNil))) rfl rfl sc__law_ask.nd rfl rfl ⟨rfl, by decide, .inl g_ShelfError⟩ Xa.takes0N (fun W pn xe tk _ => (pss_one (ps_ret (pe_callS C_aheadR.G (hr.mono (by decide)) (by rfl) C_aheadR.g C_aheadR.kp C_aheadR.b (fun σ => L2N.passAt tk σ) (pa_cons (pv 0) (pa_cons (pv 1) pa_nil)))))) (fun a oe cls d pn hz hf => (pss_one (ps_ret (Xa.pe_callE (p := (a, oe)) (cls := cls) (d := d) W_which (L2H.RoomH.mono (Ld.roomX hr _) (by decide)) ⟨rfl, hf.choose, hf.choose_spec, hz.2.2 _ hf.choose_spec⟩ List.mem_cons_self hz (by rfl) w_g w_k w_b (pa_cons (pv 2) pa_nil))))))), fun x hp => ?_⟩)
  obtain ⟨N, b⟩ := x
  obtain ⟨h1, h2, h3, h4⟩ := hp
  dsimp only at h1 h2 h3 h4 ⊢
  walk_at "s"
  refine ss_tryR (by show 2 < 3; decide) fun ss => ?_
  walk_at "w"
  exact ⟨(N, b), 7, rfl, ⟨h1, h2, h3, h4⟩, w_e, w_i, rfl⟩
theorem ok_law_ask {f : Addr} {fd : FuncData} (D : Df K mg "_law_ask" s__law_ask ["_law_row", "_law_room"] f fd) (C_askN : Cal P w K mg base 8 "_law_ask" ["_law_row", "_law_room"] (spF K (fun p : List Int × Nat => [.dt (.tuple (iL p.1)), .dt (.int p.2)]) (fun p => p.1.length ≤ 24 ∧ p.1.Nodup ∧ p.2 ≤ 9 ∧ manyA p.1 p.2 ≤ 3000) fun p => .list (tL (srtL (aheadL p.1 p.2)))) f fd) (C_askR : Cal P w K mg base 8 "_law_ask" ["_law_row", "_law_room"] (spF K (fun p : List Int × Nat => [.dt (.tuple (iL p.1)), .dt (.int p.2)]) (fun p => p.1.length ≤ 24 ∧ p.1.Nodup ∧ p.2 ≤ 9 ∧ 3000 < manyA p.1 p.2) fun _ => .tuple [.str "refused", .int 7]) f fd) : Cal P w K mg base 8 "_law_ask" ["_law_row", "_law_room"] (fun vs H Q E => (spF K (fun p : List Int × Nat => [.dt (.tuple (iL p.1)), .dt (.int p.2)]) (fun p => p.1.length ≤ 24 ∧ p.1.Nodup ∧ p.2 ≤ 9 ∧ manyA p.1 p.2 ≤ 3000) fun p => .list (tL (srtL (aheadL p.1 p.2)))) vs H Q E ∨ (spF K (fun p : List Int × Nat => [.dt (.tuple (iL p.1)), .dt (.int p.2)]) (fun p => p.1.length ≤ 24 ∧ p.1.Nodup ∧ p.2 ≤ 9 ∧ 3000 < manyA p.1 p.2) fun _ => .tuple [.str "refused", .int 7]) vs H Q E) f fd := ⟨FnOk_or C_askN.G C_askR.G, C_askN.g, C_askN.kp, C_askN.b⟩
theorem ok__law_cell_at {f : Addr} {fd : FuncData} (D : Df K mg "_law_cell_at" s__law_cell_at ["_law_script", "_law_k"] f fd) (m_len : mg "len" = none) (m_min : mg "min" = none) (m_range : mg "range" = none) : Cal P w K mg base 1 "_law_cell_at" ["_law_script", "_law_k"] (spG K (fun p : List Int × Nat => [.sc p.1, .dt (.int p.2)]) (fun p => p.1.length ≤ 63) fun _ d => ∃ i, d = .int i) f fd := by
  refine D.cal (ok_G D.F sc__law_cell_at (fun _ => rfl) (by decide) fun cdv A outer s H E hr => ⟨_, (pss_cons (ps_if (pt_cmpR op_lt (pv 1) (pe_callB cl_len (by rfl) m_len PySem.boot_len (pa_cons (pv 0) pa_nil)) (nomark _)) (pss_one (ps_ret (pe_ix ix_list (pv 0) (pv 1) (fun _ _ => rfl)))) pss_nil)
      (pss_cons (ps_if (pt_cmpR (op_eqD hr.units) (pv 0) (pe_lst pa_nil) (nomark _)) (pss_one (ps_ret pe_int)) pss_nil)
      (pss_cons (ps_set (i := 2) sc__law_cell_at.nd rfl (Or.inl rfl) (pe_ix ix_list (pv 0) (pe_op op_mod (pv 1) (pe_callB cl_len (by rfl) m_len PySem.boot_len (pa_cons (pv 0) pa_nil))) (fun _ _ => rfl)))
      (pss_cons (ps_for PassesOwn.never rfl (pi_range1 (by rfl) m_range (pa_cons (pe_callB (cl_min2 rfl) (by rfl) m_min (by decide +kernel) (pa_cons (pe_op op_fdiv (pv 1) (pe_callB cl_len (by rfl) m_len PySem.boot_len (pa_cons (pv 0) pa_nil))) (pa_cons pe_int pa_nil))) pa_nil)) (pg_name (i := 3) sc__law_cell_at.nd rfl (by first | exact Or.inl rfl | exact Or.inr rfl)) (pss_one (ps_set (i := 2) sc__law_cell_at.nd rfl (Or.inl rfl) (pe_op op_fdiv (pv 2) pe_int))))
      (pss_one (ps_ret (pe_op op_add (pe_op op_add (pe_op op_mul (pe_ix ix_list (pv 0) (pe_op op_mod (pv 1) (pe_callB cl_len (by rfl) m_len PySem.boot_len (pa_cons (pv 0) pa_nil))) (fun _ _ => rfl)) pe_int) (pv 1)) (pe_op op_mul (pv 2) pe_int)))))))), fun x hp => ?_⟩)
  obtain ⟨ns, k⟩ := x
  dsimp only at hp
  walk_at "s"
  walk_at "w"
  · have h := of_decide_eq_true ‹decide ((k : Int) < (ns.length : Int)) = true›
    obtain ⟨x, hx, _⟩ := atI_in (xs := ns) (i := (k : Int)) (by omega) h
    refine r2_ixS hx ?_
    walk_at "w"
    exact ⟨_, rfl⟩
  refine r2_eqSL (ys := []) rd_fr ?_
  walk_at "w"
  · exact ⟨_, rfl⟩
  have hl : 0 < ns.length := List.length_pos_iff.mpr (of_decide_eq_false ‹decide (ns = []) = false›)
  have hm : ∃ x, atI ns ((k : Int) % (ns.length : Int)) = some x ∧ x ∈ ns := atI_in (Int.emod_nonneg _ (by omega)) (Int.emod_lt_of_pos _ (by omega))
  obtain ⟨y, hy, _⟩ := hm
  walk_at "w"
  refine r2_ixS hy ?_
  walk_at "w"
  refine ss_for (fun i Γ => ∃ a c, Γ = [.sc ns, .dt (.int k), .dt (.int a), c]) fun ss => ?_
  walk_at "w"
  have hq : 0 ≤ (k : Int) / (ns.length : Int) := Int.ediv_nonneg (by omega) (by omega)
  refine ⟨by omega, by omega, ⟨_, _, rfl⟩, fun i d Γ2 hd ⟨a, c, ec⟩ => ?_, fun Γ2 ⟨a, c, ec⟩ => ?_⟩
  · subst ec
    have hi : i < (rngD 0 (min ((k : Int) / (ns.length : Int)) 60)).length := (List.getElem?_eq_some_iff.mp hd).1
    rw [rngD_len] at hi
    rw [rngD_at hi] at hd
    cases hd
    walk_at "w"
    walk_at "s"
    exact ⟨_, _, rfl⟩
  · subst ec
    walk_at "w"
    refine r2_ixS hy ?_
    walk_at "w"
    exact ⟨_, rfl⟩
theorem ok__law_mixed {f : Addr} {fd : FuncData} (D : Df K mg "_law_mixed" s__law_mixed ["_law_script", "_law_k", "_law_bound"] f fd) {f__law_cell_at : Addr} {d__law_cell_at : FuncData} (C__law_cell_at : Cal P w K mg base 1 "_law_cell_at" ["_law_script", "_law_k"] (spG K (fun p : List Int × Nat => [.sc p.1, .dt (.int p.2)]) (fun p => p.1.length ≤ 63) fun _ d => ∃ i, d = .int i) f__law_cell_at d__law_cell_at) : Cal P w K mg base 2 "_law_mixed" ["_law_script", "_law_k", "_law_bound"] (spG K (fun p : List Int × Nat × Nat => [.sc p.1, .dt (.int p.2.1), .dt (.int p.2.2)]) (fun p => p.1.length ≤ 63 ∧ 0 < p.2.2) fun p d => ∃ i : Nat, d = .int i ∧ i < p.2.2) f fd := by
  refine D.cal (ok_G D.F sc__law_mixed (fun _ => rfl) (by decide) fun cdv A outer s H E hr => ⟨_, (pss_cons (ps_set (i := 3) sc__law_mixed.nd rfl (Or.inl rfl) (pe_op op_mod (pe_op op_add (pe_op op_add (pe_op op_mul (pe_call C__law_cell_at.G (hr.mono (by decide)) (by rfl) C__law_cell_at.g C__law_cell_at.kp C__law_cell_at.b .nil pass0 (pa_cons (pv 0) (pa_cons (pv 1) pa_nil))) pe_int) (pe_op op_mul pe_int (pv 1))) pe_int) pe_int))
      (pss_one (ps_ret (pe_op op_mod (pe_op op_mod (pe_op op_mod (pe_op op_pow (pv 3) pe_int) pe_int) pe_int) (pv 2))))), fun x hp => ?_⟩)
  obtain ⟨ns, k, b⟩ := x
  dsimp only at hp
  have hb := hp.2
  walk_at "s"
  walk_at "w"
  refine ⟨(ns, k), rfl, hp.1, fun d ⟨i, e⟩ => ?_⟩
  subst e
  walk_at "w"
  
  have h1 := Int.emod_nonneg (((i * 1103515245 + 7919 * (k : Int) + 12345) % 2147483647) ^ (5 : Int).toNat % 2147483647 % 999983) (show (b : Int) ≠ 0 by omega)
  have h2 := Int.emod_lt_of_pos (((i * 1103515245 + 7919 * (k : Int) + 12345) % 2147483647) ^ (5 : Int).toNat % 2147483647 % 999983) (show (0 : Int) < b by omega)
  obtain ⟨n, hn⟩ := Int.eq_ofNat_of_zero_le h1
  exact ⟨n, by rw [← hn], by omega⟩
theorem ok__law_draw {f : Addr} {fd : FuncData} (D : Df K mg "_law_draw" s__law_draw ["_law_script", "_law_town", "_law_bound"] f fd) {f__law_mixed : Addr} {d__law_mixed : FuncData} (C__law_mixed : Cal P w K mg base 2 "_law_mixed" ["_law_script", "_law_k", "_law_bound"] (spG K (fun p : List Int × Nat × Nat => [.sc p.1, .dt (.int p.2.1), .dt (.int p.2.2)]) (fun p => p.1.length ≤ 63 ∧ 0 < p.2.2) fun p d => ∃ i : Nat, d = .int i ∧ i < p.2.2) f__law_mixed d__law_mixed) (m_len : mg "len" = none) : Cal P w K mg base 3 "_law_draw" ["_law_script", "_law_town", "_law_bound"] (spW K (fun p : List Int × Nat => (.sc p.1, [.dt (.int p.2)])) (fun p zs => p.1.length ≤ 63 ∧ 0 < p.2 ∧ zs.length ≤ 50000) fun p zs zs1 d => zs1.length = zs.length + 1 ∧ ∃ i : Nat, d = .int i ∧ i < p.2) f fd := by
  refine D.cal (ok_W D.F sc__law_draw (fun _ => rfl) (by decide) fun cdv A outer s H E hr => ⟨_, (pss_cons (ps_expr (pe_bm PySem.F.plainAttrs_list PySem.F.slot_list_append PySem.F.type_list_append mt_append (pv 1) (pa_cons pe_int pa_nil)))
      (pss_one (ps_ret (pe_call C__law_mixed.G (hr.mono (by decide)) (by rfl) C__law_mixed.g C__law_mixed.kp C__law_mixed.b .nil pass0 (pa_cons (pv 0) (pa_cons (pe_callB cl_len (by rfl) m_len PySem.boot_len (pa_cons (pv 1) pa_nil)) (pa_cons (pv 2) pa_nil))))))), fun x zs hp => ?_⟩)
  obtain ⟨ns, b⟩ := x
  dsimp only at hp
  walk_at "s"
  walk_at "w"
  refine ⟨_, _, rfl, isl_ln rfl, gl_lt (by omega), ?_⟩
  walk_at "s"
  walk_at "w"
  refine ⟨(ns, (zs ++ [PyData.int 0]).length, b), rfl, ⟨hp.1, hp.2.1⟩, fun d h => ?_⟩
  walk_at "w"
  exact ⟨_, rfl, by simp, h⟩
theorem ok__law_pick {f : Addr} {fd : FuncData} (D : Df K mg "_law_pick" s__law_pick ["_law_script", "_law_town", "_law_some"] f fd) {f__law_draw : Addr} {d__law_draw : FuncData} (C__law_draw : Cal P w K mg base 3 "_law_draw" ["_law_script", "_law_town", "_law_bound"] (spW K (fun p : List Int × Nat => (.sc p.1, [.dt (.int p.2)])) (fun p zs => p.1.length ≤ 63 ∧ 0 < p.2 ∧ zs.length ≤ 50000) fun p zs zs1 d => zs1.length = zs.length + 1 ∧ ∃ i : Nat, d = .int i ∧ i < p.2) f__law_draw d__law_draw) (m_len : mg "len" = none) : Cal P w K mg base 4 "_law_pick" ["_law_script", "_law_town", "_law_some"] (spW K (fun p : List Int × List Dat => (.sc p.1, [.dt (.list p.2)])) (fun p zs => p.1.length ≤ 63 ∧ 0 < p.2.length ∧ p.2.length ≤ 100 ∧ zs.length ≤ 50000) fun p zs zs1 d => zs1.length = zs.length + 1 ∧ d ∈ p.2) f fd := by
  refine D.cal (ok_W D.F sc__law_pick (fun _ => rfl) (by decide) fun cdv A outer s H E hr => ⟨_, (pss_one (ps_ret (pe_ix ix_list (pv 2) (pe_call C__law_draw.G (hr.mono (by decide)) (by rfl) C__law_draw.g C__law_draw.kp C__law_draw.b .nil pass0 (pa_cons (pv 0) (pa_cons (pv 1) (pa_cons (pe_callB cl_len (by rfl) m_len PySem.boot_len (pa_cons (pv 2) pa_nil)) pa_nil)))) (fun _ _ => rfl)))), fun x zs hp => ?_⟩)
  obtain ⟨ns, xs⟩ := x
  dsimp only at hp
  walk_at "s"
  walk_at "w"
  refine ⟨(ns, xs.length), zs, isl_ln rfl, by simp, ⟨hp.1, hp.2.1, hp.2.2.2⟩, fun zs1 d ⟨h1, n, h2, h3⟩ => ?_⟩
  subst h2
  walk_at "s"
  obtain ⟨x, hx, hm⟩ := atI_in (xs := xs) (i := (n : Int)) (by omega) (by dsimp only at h3; omega)
  refine r2_ixL ⟨_, .inl ⟨rfl, rfl⟩⟩ hx ?_
  walk_at "w"
  exact ⟨_, rfl, h1, hm⟩
theorem ok__law_same_number {f : Addr} {fd : FuncData} (D : Df K mg "_law_same_number" s__law_same_number ["_law_got", "_law_due"] f fd) (m_bool : mg "bool" = none) (m_int : mg "int" = none) (m_isinstance : mg "isinstance" = none) : Cal P w K mg base 1 "_law_same_number" ["_law_got", "_law_due"] (spF K (fun p : Int × Int => [.dt (.int p.1), .dt (.int p.2)]) (fun _ => True) fun p => .bool (decide (p.1 = p.2))) f fd := by
  refine D.cal (ok_G D.F sc__law_same_number (fun _ => rfl) (by decide) fun cdv A outer s H E hr => ⟨_, (pss_one (ps_ret (pe_and (pe_callB call_isi (by rfl) m_isinstance (by decide +kernel) (pa_cons (pv 0) (pa_cons (pe_bltn (v := .ty "int") (by rfl) m_int (by decide +kernel) rfl) pa_nil))) (pe_and (pe_not (pe_callB call_isi (by rfl) m_isinstance (by decide +kernel) (pa_cons (pv 0) (pa_cons (pe_bltn (v := .ty "bool") (by rfl) m_bool (by decide +kernel) rfl) pa_nil)))) (pe_one (pe_cmpR (op_eqD hr.units) (pv 0) (pv 1) (nomark _))))))), fun x hp => ?_⟩)
  walk_at "s"
  walk_at "w"
theorem ok__law_same_truth {f : Addr} {fd : FuncData} (D : Df K mg "_law_same_truth" s__law_same_truth ["_law_got", "_law_due"] f fd) (m_bool : mg "bool" = none) (m_isinstance : mg "isinstance" = none) : Cal P w K mg base 1 "_law_same_truth" ["_law_got", "_law_due"] (spF K (fun p : Bool × Bool => [.dt (.bool p.1), .dt (.bool p.2)]) (fun _ => True) fun p => .bool (decide (p.1 = p.2))) f fd := by
  refine D.cal (ok_G D.F sc__law_same_truth (fun _ => rfl) (by decide) fun cdv A outer s H E hr => ⟨_, (pss_one (ps_ret (pe_and (pe_callB call_isi (by rfl) m_isinstance (by decide +kernel) (pa_cons (pv 0) (pa_cons (pe_bltn (v := .ty "bool") (by rfl) m_bool (by decide +kernel) rfl) pa_nil))) (pe_one (pe_cmpR (op_eqD hr.units) (pv 0) (pv 1) (nomark _)))))), fun x hp => ?_⟩)
  walk_at "s"
  walk_at "w"
theorem ok__law_some_plain {f : Addr} {fd : FuncData} (D : Df K mg "_law_some_plain" s__law_some_plain ["_law_script", "_law_town", "_law_most_there"] f fd) {f__law_draw : Addr} {d__law_draw : FuncData} (C__law_draw : Cal P w K mg base 3 "_law_draw" ["_law_script", "_law_town", "_law_bound"] (spW K (fun p : List Int × Nat => (.sc p.1, [.dt (.int p.2)])) (fun p zs => p.1.length ≤ 63 ∧ 0 < p.2 ∧ zs.length ≤ 50000) fun p zs zs1 d => zs1.length = zs.length + 1 ∧ ∃ i : Nat, d = .int i ∧ i < p.2) f__law_draw d__law_draw) {f__law_pick : Addr} {d__law_pick : FuncData} (C__law_pick : Cal P w K mg base 4 "_law_pick" ["_law_script", "_law_town", "_law_some"] (spW K (fun p : List Int × List Dat => (.sc p.1, [.dt (.list p.2)])) (fun p zs => p.1.length ≤ 63 ∧ 0 < p.2.length ∧ p.2.length ≤ 100 ∧ zs.length ≤ 50000) fun p zs zs1 d => zs1.length = zs.length + 1 ∧ d ∈ p.2) f__law_pick d__law_pick) (m_len : mg "len" = none) (m_min : mg "min" = none) (m_range : mg "range" = none) (m_tuple : mg "tuple" = none) : Cal P w K mg base 5 "_law_some_plain" ["_law_script", "_law_town", "_law_most_there"] (spW K (fun p : List Int × Nat => (.sc p.1, [.dt (.int p.2)])) (fun p zs => p.1.length ≤ 63 ∧ p.2 ≤ 40 ∧ zs.length ≤ 20000) fun p zs zs1 d => zs1.length ≤ zs.length + 200 ∧ ∃ ns : List Int, d = .tuple (iL ns) ∧ ns.Nodup ∧ ns.length ≤ p.2) f fd := by
  refine D.cal (ok_W D.F sc__law_some_plain (fun _ => rfl) (by decide) fun cdv A outer s H E hr => ⟨_, (pss_cons (ps_par3 (i := 3) (j := 4) (l := 5) rfl sc__law_some_plain.nd rfl rfl rfl (by decide) (by decide) (by decide) rfl rfl rfl (pa_cons (pe_call C__law_draw.G (hr.mono (by decide)) (by rfl) C__law_draw.g C__law_draw.kp C__law_draw.b .nil pass0 (pa_cons (pv 0) (pa_cons (pv 1) (pa_cons (pe_op op_add (pv 2) pe_int) pa_nil)))) (pa_cons (pe_lst pa_nil) (pa_cons (pe_op op_sub (pe_call C__law_draw.G (hr.mono (by decide)) (by rfl) C__law_draw.g C__law_draw.kp C__law_draw.b .nil pass0 (pa_cons (pv 0) (pa_cons (pv 1) (pa_cons pe_int pa_nil)))) pe_int) pa_nil))) (by rfl))
      (pss_cons (ps_for PassesOwn.never rfl (pi_range1 (by rfl) m_range (pa_cons (pv 3) pa_nil)) (pg_name (i := 6) sc__law_some_plain.nd rfl (by first | exact Or.inl rfl | exact Or.inr rfl)) (pss_cons (ps_set (i := 5) sc__law_some_plain.nd rfl (Or.inl rfl) (pe_op op_add (pe_op op_add (pv 5) pe_int) (pe_call C__law_draw.G (hr.mono (by decide)) (by rfl) C__law_draw.g C__law_draw.kp C__law_draw.b .nil pass0 (pa_cons (pv 0) (pa_cons (pv 1) (pa_cons pe_int pa_nil))))))
      (pss_cons (ps_set (i := 7) sc__law_some_plain.nd rfl (Or.inl rfl) (pe_call C__law_pick.G (hr.mono (by decide)) (by rfl) C__law_pick.g C__law_pick.kp C__law_pick.b .nil pass0 (pa_cons (pv 0) (pa_cons (pv 1) (pa_cons (pe_lst (pa_cons pe_int (pa_cons pe_int (pa_cons pe_int pa_nil)))) pa_nil)))))
      (pss_one (ps_expr (pe_bm PySem.F.plainAttrs_list PySem.F.slot_list_insert PySem.F.type_list_insert cm_insert (pv 4) (pa_cons (pe_op op_sub (pe_callB cl_len (by rfl) m_len PySem.boot_len (pa_cons (pv 4) pa_nil)) (pe_call C__law_draw.G (hr.mono (by decide)) (by rfl) C__law_draw.g C__law_draw.kp C__law_draw.b .nil pass0 (pa_cons (pv 0) (pa_cons (pv 1) (pa_cons (pe_callB (cl_min2 rfl) (by rfl) m_min (by decide +kernel) (pa_cons (pe_op op_add (pe_callB cl_len (by rfl) m_len PySem.boot_len (pa_cons (pv 4) pa_nil)) pe_int) (pa_cons (pv 7) pa_nil))) pa_nil))))) (pa_cons (pv 5) pa_nil))))))))
      (pss_one (ps_ret (pe_callTy cl_tupleF (by rfl) m_tuple (by decide +kernel) (pa_cons (pv 4) pa_nil)))))), fun x zs hp => ?_⟩)
  obtain ⟨ns, b⟩ := x
  dsimp only at hp
  walk_at "s"
  walk_at "w"
  refine ⟨(ns, b + 1), zs, isl_ln rfl, rfl, ⟨hp.1, by omega, by omega⟩, fun zs1 d ⟨h1, m, h2, h3⟩ => ?_⟩
  subst h2
  walk_at "s"
  walk_at "w"
  refine ⟨(ns, 21), zs1, isl_ln rfl, rfl, ⟨hp.1, by omega, by omega⟩, fun zs2 d ⟨h4, n, h5, h6⟩ => ?_⟩
  subst h5
  walk_at "s"
  walk_at "w"
  refine ⟨_, _, _, rfl, rfl, rfl, ?_⟩
  walk_at "s"
  walk_at "w"
  dsimp only at h3
  refine ss_for (fun i Γ => ∃ (zs3 : List Dat) (made : List Int) (u : Int) (e f : Cell), Γ = [.sc ns, .ln zs3, .dt (.int b), .dt (.int m), .ow (iL made), .dt (.int u), e, f] ∧ made.length = i ∧ made.Nodup ∧ (∀ x ∈ made, x ≤ u) ∧ zs3.length = zs.length + 2 + 3 * i) fun ss => ?_
  walk_at "w"
  refine ⟨by omega, by omega, ⟨zs2, [], _, _, _, rfl, rfl, List.nodup_nil, by simp, by omega⟩, fun i d Γ2 hd ⟨zs3, made, u, e, f, ec, g1, g2, g3, g4⟩ => ?_, fun Γ2 ⟨zs3, made, u, e, f, ec, g1, g2, g3, g4⟩ => ?_⟩
  · subst ec
    obtain ⟨hi, rfl⟩ := rng0 hd
    walk_at "w"
    walk_at "s"
    walk_at "w"
    refine ⟨(ns, 3), zs3, isl_ln rfl, rfl, ⟨hp.1, by omega, by omega⟩, fun zs4 d ⟨k1, r, k2, k3⟩ => ?_⟩
    subst k2
    walk_at "s"
    walk_at "w"
    walk_at "s"
    walk_at "w"
    refine ⟨(ns, iL [2, 4, 24]), zs4, isl_ln rfl, rfl, ⟨hp.1, by simp, by simp, by omega⟩, fun zs5 d ⟨k4, k6⟩ => ?_⟩
    obtain ⟨far, k5, rfl⟩ := List.mem_map.mp k6
    walk_at "s"
    walk_at "w"
    walk_at "s"
    walk_at "w"
    have hf : 2 ≤ far ∧ far ≤ 24 := by
      simp only [List.mem_cons, List.not_mem_nil, or_false] at k5
      omega
    refine ⟨(ns, (min ((made.length : Int) + 1) far).toNat), zs5, isl_ln rfl, ?_, ⟨hp.1, by dsimp only; omega, by omega⟩, fun zs6 d ⟨k7, q, k8, k9⟩ => ?_⟩
    · dsimp only
      rw [Int.toNat_of_nonneg (by omega), List.length_map]
    subst k8
    walk_at "w"
    dsimp only at k9
    have hl : ((iL made).length : Int) - (q : Int) = ((made.length - q : Nat) : Int) := by rw [List.length_map]; omega
    refine ⟨_, _, _, rfl, rfl, isl_ow rfl, gl_lt (by rw [List.length_map]; omega), by omega, by omega, ?_⟩
    rw [hl, Int.toNat_natCast, iL_ins]
    refine ⟨zs6, insA made (made.length - q) (u + 1 + r), u + 1 + r, _, _, rfl, by rw [insA_len]; omega, ?_, fun y hy => ?_, by omega⟩
    · refine (insA_perm _ _ _).nodup_iff.mpr (List.nodup_cons.mpr ⟨fun z => ?_, g2⟩)
      have := g3 _ z
      omega
    · rcases List.mem_cons.mp ((insA_perm _ _ _).mem_iff.mp hy) with rfl | hy
      · exact Int.le_refl _
      · have := g3 _ hy
        omega
  · subst ec
    rw [rng0_len] at g1 g4
    walk_at "w"
    exact ⟨_, rfl, by omega, made, rfl, g2, by omega⟩
theorem ok__law_greater {f : Addr} {fd : FuncData} (D : Df K mg "_law_greater" s__law_greater ["_law_numbers"] f fd) (m_int : mg "int" = none) (m_len : mg "len" = none) (m_range : mg "range" = none) (m_sum : mg "sum" = none) : Cal P w K mg base 1 "_law_greater" ["_law_numbers"] (spF K (fun r : List Int => [.dt (.list (iL r))]) (fun r => r.length ≤ 100) fun r => .list (iL (gr r))) f fd := by
  refine D.cal (ok_G D.F sc__law_greater (fun _ => rfl) (by decide) fun cdv A outer s H E hr => ⟨_, (pss_cons (ps_set (i := 1) sc__law_greater.nd rfl (Or.inl rfl) (pe_lst pa_nil))
      (pss_cons (ps_for PassesOwn.never rfl (pi_range1 (by rfl) m_range (pa_cons (pe_callB cl_len (by rfl) m_len PySem.boot_len (pa_cons (pv 0) pa_nil)) pa_nil)) (pg_name (i := 2) sc__law_greater.nd rfl (by first | exact Or.inl rfl | exact Or.inr rfl)) (pss_one (ps_expr (pe_bm PySem.F.plainAttrs_list PySem.F.slot_list_append PySem.F.type_list_append mt_append (pv 1) (pa_cons (pe_callB (cr_sum rfl) (by rfl) m_sum (by decide +kernel) (pa_cons (pe_lc (own := [("_law_one", 3)]) rfl sc__law_greater.nd (pi_list (pe_slice sl_list (pv 0) po_none (po_some (pv 2)))) (blkOk_by (own := [("_law_one", 3)]) (N := ["_law_numbers", "_law_made", "_law_at", "_law_one"]) (sc := (defScope s__law_greater)) (by decide +kernel)) (fun _ _ _ _ _ => (pg_name (i := 3) sc__law_greater.nd rfl (by first | exact Or.inl rfl | exact Or.inr rfl))) (fun _ _ _ _ _ => pts_nil) (fun _ _ _ _ _ => (pe_callTy cl_int (by rfl) m_int (by decide +kernel) (pa_cons (pe_cmpR op_gt (pv 3) (pe_ix (ix_listK (K := K) rfl) (pv 0) (pv 2) (fun _ _ => rfl)) (nomark _)) pa_nil)))) pa_nil)) pa_nil)))))
      (pss_one (ps_ret (pv 1))))), fun x hp => ?_⟩)
  walk_at "s"
  walk_at "w"
  walk_at "s"
  refine ss_for (fun i Γ => ∃ e, Γ = [.dt (.list (iL x)), .ow (iL (gr (x.take i))), e, .no]) fun ss => ?_
  walk_at "w"
  refine ⟨by omega, by rw [List.length_map]; omega, ⟨.no, rfl⟩, fun i d Γ2 hd ⟨e, ec⟩ => ?_, fun Γ2 ⟨e, ec⟩ => ?_⟩
  · subst ec
    obtain ⟨hi, rfl⟩ := rng0 hd
    rw [List.length_map] at hi
    walk_at "w"
    walk_at "s"
    walk_at "w"
    have e0 : x[i]? = some x[i] := List.getElem?_eq_getElem hi
    apply ve_lcT (vs := [3]) PyData.int (x.take i) _ _ (by walk_at "n")
    walk_at "w"
    refine ⟨(cut_to _ _).trans (iL_take _ _), by simp, gl_lt (by simp; omega), fun b hb => ⟨_, tg_name (by decide), fun acc srcs => ?_⟩, ?_⟩
    · walk_at "s"
      walk_at "w"
      refine ⟨rfl, fun _ => ?_, fun _ => rfl⟩
      walk_at "w"
      refine r2_ixL ⟨_, .inl ⟨rfl, rfl⟩⟩ (atI_nat (x := .int x[i]) (by rw [List.getElem?_map, e0]; rfl)) ?_
      walk_at "w"
      exact ⟨rfl, rfl⟩
    · walk_at "w"
      rw [fil_true]
      refine c1_sumF ((x.take i).map fun o => if decide (o > x[i]) = true then (1 : Int) else 0) (by rw [List.map_map]; rfl) ?_
      rw [sum_ite]
      walk_at "w"
      refine ⟨_, _, rfl, isl_ow rfl, gl_lt (by rw [List.length_map, gr_len, List.length_take]; omega), ?_⟩
      walk_at "s"
      refine ⟨_, congrArg (fun z => [_, Cell.ow z, _, _]) ?_⟩
      rw [take_snoc e0, gr_snoc]
      simp only [iL, List.map_append, List.map_cons, List.map_nil]
  · subst ec
    walk_at "w"
    show PyData.list _ = _
    rw [rng0_len, List.length_map, List.take_length]
theorem ok__law_orders {f : Addr} {fd : FuncData} (D : Df K mg "_law_orders" s__law_orders ["_law_numbers"] f fd) (m_len : mg "len" = none) (m_range : mg "range" = none) : Cal P w K mg base 1 "_law_orders" ["_law_numbers"] (spF K (fun N : List Int => [.dt (.tuple (iL N))]) (fun N => N.length ≤ 5) fun N => .list (tL (ordsL N))) f fd := by
  refine D.cal (ok_G D.F sc__law_orders (fun _ => rfl) (by decide) fun cdv A outer s H E hr => ⟨_, (pss_cons (ps_set (i := 1) sc__law_orders.nd rfl (Or.inl rfl) (pe_lst (pa_cons (pe_tupF pa_nil) pa_nil)))
      (pss_cons (ps_for PassesOwn.never rfl (pi_tup (pv 0)) (pg_name (i := 2) sc__law_orders.nd rfl (by first | exact Or.inl rfl | exact Or.inr rfl)) (pss_cons (ps_set (i := 3) sc__law_orders.nd rfl (Or.inl rfl) (pe_lst pa_nil))
      (pss_cons (ps_for PassesOwn.never rfl (pi_list (pv 1)) (pg_name (i := 4) sc__law_orders.nd rfl (by first | exact Or.inl rfl | exact Or.inr rfl)) (pss_one (ps_expr (pe_bm PySem.F.plainAttrs_list PySem.F.slot_list_extend PySem.F.type_list_extend mt_extend (pv 3) (pa_cons (pe_lc (own := [("_law_at", 5)]) rfl sc__law_orders.nd (pi_range1 (by rfl) m_range (pa_cons (pe_op op_add (pe_callB cl_len (by rfl) m_len PySem.boot_len (pa_cons (pv 4) pa_nil)) pe_int) pa_nil)) (blkOk_by (own := [("_law_at", 5)]) (N := ["_law_numbers", "_law_made", "_law_number", "_law_later", "_law_row", "_law_at"]) (sc := (defScope s__law_orders)) (by decide +kernel)) (fun _ _ _ _ _ => (pg_name (i := 5) sc__law_orders.nd rfl (by first | exact Or.inl rfl | exact Or.inr rfl))) (fun _ _ _ _ _ => pts_nil) (fun _ _ _ _ _ => (pe_op (op_catFK (K := K) rfl) (pe_op (op_catFK (K := K) rfl) (pe_slice (sl_tupFK (K := K) rfl) (pv 4) po_none (po_some (pv 5))) (pe_tupF (pa_cons (pv 2) pa_nil))) (pe_slice (sl_tupFK (K := K) rfl) (pv 4) (po_some (pv 5)) po_none)))) pa_nil)))))
      (pss_one (ps_set (i := 1) sc__law_orders.nd rfl (Or.inl rfl) (pv 3))))))
      (pss_one (ps_ret (pv 1))))), fun x hp => ?_⟩)
  walk_at "s"
  walk_at "w"
  refine ss_frz (i := 1) (ds := tL (ordsL (x.take 0))) rfl ?_
  walk_at "s"
  refine ss_for (fun i Γ => ∃ a b c : Cell, Γ = [.dt (.tuple (iL x)), .dt (.list (tL (ordsL (x.take i)))), a, b, c, .no]) fun ss => ?_
  walk_at "w"
  refine ⟨⟨_, _, _, rfl⟩, fun i d Γ2 hd ⟨a, b, c, ec⟩ => ?_, fun Γ2 ⟨a, b, c, ec⟩ => ?_⟩
  · subst ec
    obtain ⟨v, hv, rfl⟩ := iL_at hd
    have hi := (List.getElem?_eq_some_iff.mp hv).1
    have hf : (ordsL (x.take (i + 1))).length ≤ 120 := by rw [ordsL_len]; exact fac_le _ (by rw [List.length_take]; omega)
    have hf0 : (ordsL (x.take i)).length ≤ 120 := by rw [ordsL_len]; exact fac_le _ (by rw [List.length_take]; omega)
    have hx1 : ordsL (x.take (i + 1)) = (ordsL (x.take i)).flatMap (ordX v) := by rw [take_snoc hv, ordsL_snoc]
    walk_at "w"
    walk_at "s"
    refine ss_for (fun j Γ => ∃ c : Cell, Γ = [.dt (.tuple (iL x)), .dt (.list (tL (ordsL (x.take i)))), .dt (.int v), .ow (tL (((ordsL (x.take i)).take j).flatMap (ordX v))), c, .no]) fun ss => ?_
    walk_at "w"
    refine ⟨fun j d Γ2 hd ⟨c, ec⟩ => ?_, fun Γ2 ⟨c, ec⟩ => ?_⟩
    · subst ec
      obtain ⟨r, hr, rfl⟩ := tL_at hd
      have hrl : r.length ≤ 5 := by
        rw [((mem_ordsL _ r).mp (List.mem_of_getElem? hr)).length_eq, List.length_take]
        omega
      have hb1 := flat_take (ordX v) (ordsL (x.take i)) (j + 1)
      rw [take_snoc hr, List.flatMap_append, List.flatMap_singleton] at hb1 ⊢
      rw [List.length_append] at hb1
      have hos : (ordX v r).length = r.length + 1 := by unfold ordX; simp
      rw [← hx1] at hb1
      walk_at "w"
      apply ve_lcT (vs := [5]) (fun k : Nat => PyData.int k) (List.range (r.length + 1)) (fun _ => true) (fun k : Nat => PyData.tuple (iL (r.take k ++ [v] ++ r.drop k))) (by walk_at "n")
      walk_at "w"
      refine ⟨by omega, by rw [List.length_map]; omega, by rw [List.length_map]; exact rng0_eq (r.length + 1), by simp, gl_lt (by simp; omega), fun k hk => ⟨_, tg_name (by decide), fun acc srcs => ?_⟩, ?_⟩
      · have hk2 := List.mem_range.mp hk
        walk_at "s"
        walk_at "w"
        refine ⟨rfl, fun _ => ?_, fun _ => rfl⟩
        walk_at "w"
        rw [cut_to]
        refine r2_catT (gl_le (by simp; omega)) ?_
        walk_at "w"
        rw [cut_from]
        refine r2_catT (gl_le (by simp; omega)) ?_
        refine ⟨?_, rfl⟩
        simp only [iL, List.map_append, List.map_take, List.map_drop, List.map_cons, List.map_nil]
      walk_at "w"
      rw [fil_true, show (List.range (r.length + 1)).map (fun k : Nat => PyData.tuple (iL (r.take k ++ [v] ++ r.drop k))) = tL (ordX v r) by unfold ordX tL; rw [List.map_map]; rfl]
      refine ⟨_, _, rfl, isl_ow rfl, gl_le (by simp only [tL, List.length_map]; omega), ?_⟩
      walk_at "s"
      refine ⟨_, congrArg (fun z => [_, _, _, Cell.ow z, _, _]) ?_⟩
      simp only [tL, List.map_append]
    · subst ec
      rw [show (tL (ordsL (x.take i))).length = (ordsL (x.take i)).length from List.length_map _, List.take_length, ← hx1]
      walk_at "w"
      exact ⟨_, _, _, rfl⟩
  · subst ec
    rw [List.length_map, List.take_length]
    walk_at "w"
theorem ok_law {f : Addr} {fd : FuncData} (D : Df K mg "law" s_law ["_law_script"] f fd) {f__law_draw : Addr} {d__law_draw : FuncData} (C__law_draw : Cal P w K mg base 3 "_law_draw" ["_law_script", "_law_town", "_law_bound"] (spW K (fun p : List Int × Nat => (.sc p.1, [.dt (.int p.2)])) (fun p zs => p.1.length ≤ 63 ∧ 0 < p.2 ∧ zs.length ≤ 50000) fun p zs zs1 d => zs1.length = zs.length + 1 ∧ ∃ i : Nat, d = .int i ∧ i < p.2) f__law_draw d__law_draw) {f__law_greater : Addr} {d__law_greater : FuncData} (C__law_greater : Cal P w K mg base 1 "_law_greater" ["_law_numbers"] (spF K (fun r : List Int => [.dt (.list (iL r))]) (fun r => r.length ≤ 100) fun r => .list (iL (gr r))) f__law_greater d__law_greater) {f__law_orders : Addr} {d__law_orders : FuncData} (C__law_orders : Cal P w K mg base 1 "_law_orders" ["_law_numbers"] (spF K (fun N : List Int => [.dt (.tuple (iL N))]) (fun N => N.length ≤ 5) fun N => .list (tL (ordsL N))) f__law_orders d__law_orders) {f__law_pick : Addr} {d__law_pick : FuncData} (C__law_pick : Cal P w K mg base 4 "_law_pick" ["_law_script", "_law_town", "_law_some"] (spW K (fun p : List Int × List Dat => (.sc p.1, [.dt (.list p.2)])) (fun p zs => p.1.length ≤ 63 ∧ 0 < p.2.length ∧ p.2.length ≤ 100 ∧ zs.length ≤ 50000) fun p zs zs1 d => zs1.length = zs.length + 1 ∧ d ∈ p.2) f__law_pick d__law_pick) {f__law_same_number : Addr} {d__law_same_number : FuncData} (C__law_same_number : Cal P w K mg base 1 "_law_same_number" ["_law_got", "_law_due"] (spF K (fun p : Int × Int => [.dt (.int p.1), .dt (.int p.2)]) (fun _ => True) fun p => .bool (decide (p.1 = p.2))) f__law_same_number d__law_same_number) {f__law_same_truth : Addr} {d__law_same_truth : FuncData} (C__law_same_truth : Cal P w K mg base 1 "_law_same_truth" ["_law_got", "_law_due"] (spF K (fun p : Bool × Bool => [.dt (.bool p.1), .dt (.bool p.2)]) (fun _ => True) fun p => .bool (decide (p.1 = p.2))) f__law_same_truth d__law_same_truth) {f__law_some_plain : Addr} {d__law_some_plain : FuncData} (C__law_some_plain : Cal P w K mg base 5 "_law_some_plain" ["_law_script", "_law_town", "_law_most_there"] (spW K (fun p : List Int × Nat => (.sc p.1, [.dt (.int p.2)])) (fun p zs => p.1.length ≤ 63 ∧ p.2 ≤ 40 ∧ zs.length ≤ 20000) fun p zs zs1 d => zs1.length ≤ zs.length + 200 ∧ ∃ ns : List Int, d = .tuple (iL ns) ∧ ns.Nodup ∧ ns.length ≤ p.2) f__law_some_plain d__law_some_plain) {f_ahead : Addr} {d_ahead : FuncData} (C_ahead : Cal P w K mg base 7 "ahead" ["row", "places"] (spF K (fun p : List Int × Nat => [.dt (.tuple (iL p.1)), .dt (.int p.2)]) (fun p => p.1.length ≤ 24 ∧ p.1.Nodup ∧ p.2 ≤ 9 ∧ manyA p.1 p.2 ≤ 3000) fun p => .list (tL (srtL (aheadL p.1 p.2)))) f_ahead d_ahead) {f_can_come : Addr} {d_can_come : FuncData} (C_can_come : Cal P w K mg base 7 "can_come" ["row", "places"] (spF K (fun p : List Int × Nat => [.dt (.tuple (iL p.1)), .dt (.int p.2)]) (fun p => p.1.length ≤ 24 ∧ p.1.Nodup ∧ p.2 ≤ 9) fun p => .bool (decide (0 < (manyA p.1 p.2 : Int)))) f_can_come d_can_come) {f_how_many : Addr} {d_how_many : FuncData} (C_how_many : Cal P w K mg base 6 "how_many" ["row", "places"] (spF K (fun p : List Int × Nat => [.dt (.tuple (iL p.1)), .dt (.int p.2)]) (fun p => p.1.length ≤ 24 ∧ p.1.Nodup ∧ p.2 ≤ 9) fun p => .int (manyA p.1 p.2 : Nat)) f_how_many d_how_many) {f_law_ask : Addr} {d_law_ask : FuncData} (C_law_ask : Cal P w K mg base 8 "_law_ask" ["_law_row", "_law_room"] (fun vs H Q E => (spF K (fun p : List Int × Nat => [.dt (.tuple (iL p.1)), .dt (.int p.2)]) (fun p => p.1.length ≤ 24 ∧ p.1.Nodup ∧ p.2 ≤ 9 ∧ manyA p.1 p.2 ≤ 3000) fun p => .list (tL (srtL (aheadL p.1 p.2)))) vs H Q E ∨ (spF K (fun p : List Int × Nat => [.dt (.tuple (iL p.1)), .dt (.int p.2)]) (fun p => p.1.length ≤ 24 ∧ p.1.Nodup ∧ p.2 ≤ 9 ∧ 3000 < manyA p.1 p.2) fun _ => .tuple [.str "refused", .int 7]) vs H Q E) f_law_ask d_law_ask) {f_past : Addr} {d_past : FuncData} (C_past : Cal P w K mg base 6 "past" ["row", "shelf"] (spF K (fun p : List (Option Int) × Bool × Nat => [.dt (.tuple (oL p.1)), .dt (.tuple [.str (wd p.2.1), .int p.2.2])]) (fun p => RowOk p.1 ∧ p.2.2 ≤ 9) fun p => .tuple (oL (pastR p.2.1 p.2.2 p.1))) f_past d_past) (m_enumerate : mg "enumerate" = none) (m_len : mg "len" = none) (m_list : mg "list" = none) (m_min : mg "min" = none) (m_sorted : mg "sorted" = none) (m_tuple : mg "tuple" = none) (m_zip : mg "zip" = none) : Cal P w K mg base 9 "law" ["_law_script"] (spF K (fun ns : List Int => [.sc ns]) (fun ns => ns.length ≤ 63) fun _ => .bool true) f fd := by
  refine D.cal (ok_G D.F sc_law (fun _ => rfl) (by decide) fun cdv A outer s H E hr => ⟨_, (pss_cons (ps_set (i := 1) sc_law.nd rfl (Or.inl rfl) (pe_lst pa_nil))
      (pss_cons (ps_asg (pe_tupF (pa_cons (pe_call C__law_some_plain.G (hr.mono (by decide)) (by rfl) C__law_some_plain.g C__law_some_plain.kp C__law_some_plain.b .nil pass0 (pa_cons (pv 0) (pa_cons (pv 1) (pa_cons pe_int pa_nil)))) (pa_cons (pe_call C__law_draw.G (hr.mono (by decide)) (by rfl) C__law_draw.g C__law_draw.kp C__law_draw.b .nil pass0 (pa_cons (pv 0) (pa_cons (pv 1) (pa_cons pe_int pa_nil)))) pa_nil))) (pg_tup (n := 2) rfl (pgs_cons (pg_name (i := 2) sc_law.nd rfl (by first | exact Or.inl rfl | exact Or.inr rfl)) (pgs_cons (pg_name (i := 3) sc_law.nd rfl (by first | exact Or.inl rfl | exact Or.inr rfl)) pgs_nil))))
      (pss_cons (ps_set (i := 4) sc_law.nd rfl (Or.inl rfl) (pe_call C__law_pick.G (hr.mono (by decide)) (by rfl) C__law_pick.g C__law_pick.kp C__law_pick.b .nil pass0 (pa_cons (pv 0) (pa_cons (pv 1) (pa_cons (pe_lst (pa_cons (pe_call C_past.G (hr.mono (by decide)) (by rfl) C_past.g C_past.kp C_past.b .nil pass0 (pa_cons (pv 2) (pa_cons (pe_tupF (pa_cons pe_str (pa_cons (pv 3) pa_nil))) pa_nil))) (pa_cons (pv 2) (pa_cons (pe_callTy cl_tupleF (by rfl) m_tuple (by decide +kernel) (pa_cons (pe_callB cr_sortedT (by rfl) m_sorted (by decide +kernel) (pa_cons (pv 2) pa_nil)) pa_nil)) pa_nil)))) pa_nil)))))
      (pss_cons (ps_par3 (i := 5) (j := 6) (l := 7) rfl sc_law.nd rfl rfl rfl (by decide) (by decide) (by decide) rfl rfl rfl (pa_cons pe_int (pa_cons (pe_revL (pe_callB cr_sortedT (by rfl) m_sorted (by decide +kernel) (pa_cons (pv 4) pa_nil))) (pa_cons (pe_call C__law_greater.G (hr.mono (by decide)) (by rfl) C__law_greater.g C__law_greater.kp C__law_greater.b .nil pass0 (pa_cons (pe_callTy cl_list (by rfl) m_list (by decide +kernel) (pa_cons (pv 4) pa_nil)) pa_nil)) pa_nil))) (by rfl))
      (pss_cons (ps_for PassesOwn.never rfl (pi_enum (by rfl) m_enumerate (pa_cons (pv 6) pa_nil)) (pg_tup (n := 2) rfl (pgs_cons (pg_name (i := 8) sc_law.nd rfl (by first | exact Or.inl rfl | exact Or.inr rfl)) (pgs_cons (pg_name (i := 9) sc_law.nd rfl (by first | exact Or.inl rfl | exact Or.inr rfl)) pgs_nil))) (pss_cons (ps_set (i := 10) sc_law.nd rfl (Or.inl rfl) (pe_ix ix_list (pv 7) (pe_tidx (pv 4) (pv 9)) (fun _ _ => rfl)))
      (pss_one (ps_set (i := 5) sc_law.nd rfl (Or.inl rfl) (pe_op op_mul (pv 5) (pe_ifExp (pt_cmpR op_gt (pv 10) pe_int (nomark _)) (pe_ifExp (pt_cmpR op_le (pe_op op_add (pv 10) (pv 3)) (pv 8) (nomark _)) pe_int pe_int) (pe_op op_add (pe_callB (cl_min2 rfl) (by rfl) m_min (by decide +kernel) (pa_cons (pv 8) (pa_cons (pv 3) pa_nil))) pe_int)))))))
      (pss_cons (ps_set (i := 11) sc_law.nd rfl (Or.inl rfl) (pe_call C_law_ask.G (hr.mono (by decide)) (by rfl) C_law_ask.g C_law_ask.kp C_law_ask.b .nil pass0 (pa_cons (pv 4) (pa_cons (pv 3) pa_nil))))
      (pss_cons (ps_stop (ps_if (pt_stop (PW.pt (pw_or (pt_not (pt_val (pe_call C__law_same_number.G (hr.mono (by decide)) (by rfl) C__law_same_number.g C__law_same_number.kp C__law_same_number.b .nil pass0 (pa_cons (pe_call C_how_many.G (hr.mono (by decide)) (by rfl) C_how_many.g C_how_many.kp C_how_many.b .nil pass0 (pa_cons (pv 4) (pa_cons (pv 3) pa_nil))) (pa_cons (pv 5) pa_nil))))) (pw_or1 (pt_not (pt_val (pe_call C__law_same_truth.G (hr.mono (by decide)) (by rfl) C__law_same_truth.g C__law_same_truth.kp C__law_same_truth.b .nil pass0 (pa_cons (pe_call C_can_come.G (hr.mono (by decide)) (by rfl) C_can_come.g C_can_come.kp C_can_come.b .nil pass0 (pa_cons (pv 4) (pa_cons (pv 3) pa_nil))) (pa_cons (pe_cmpR op_gt (pv 5) pe_int (nomark _)) pa_nil))))))))) (pss_one (ps_ret pe_bl)) pss_nil))
      (pss_cons (ps_stop (ps_if (pt_cmpR op_gt (pv 5) pe_int (nomark _)) (pss_one (ps_ret (pe_cmpR (op_eqD hr.units) (pv 11) (pe_tupF (pa_cons pe_str (pa_cons pe_int pa_nil))) (nomark _)))) pss_nil))
      (pss_cons (ps_stop (ps_if (pt_stop (PW.pt (pw_or (pt_cmpR (op_neD hr.units) (pe_callB cl_len (by rfl) m_len PySem.boot_len (pa_cons (pv 11) pa_nil)) (pv 5) (nomark _)) (pw_or1 (pt_cmpR (op_neD hr.units) (pe_lc (own := [("_law_a", 15), ("_law_b", 16)]) rfl sc_law.nd (pi_zip (by rfl) m_zip (pa_cons (pv 11) (pa_cons (pe_slice sl_list (pv 11) (po_some pe_int) po_none) pa_nil))) (blkOk_by (own := [("_law_a", 15), ("_law_b", 16)]) (N := ["_law_script", "_law_town", "_law_first", "_law_room", "_law_row", "_law_many", "_law_falling", "_law_far", "_law_rank", "_law_number", "_law_count", "_law_got", "_law_one", "_law_few", "_law_due", "_law_a", "_law_b"]) (sc := (defScope s_law)) (by decide +kernel)) (fun _ _ _ _ _ => (pg_tupK (K := K) (n := 2) rfl rfl (pgs_cons (pg_name (i := 15) sc_law.nd rfl (by first | exact Or.inl rfl | exact Or.inr rfl)) (pgs_cons (pg_name (i := 16) sc_law.nd rfl (by first | exact Or.inl rfl | exact Or.inr rfl)) pgs_nil)))) (fun _ _ _ _ _ => (pts_one (pt_not (pt_cmpR (op_ltTK (K := K) rfl hr.units0) (pv 15) (pv 16) (nomark _))))) (fun _ _ _ _ _ => pe_int)) (pe_lst pa_nil) (nomark _)))))) (pss_one (ps_ret pe_bl)) pss_nil))
      (pss_cons (ps_for PassesOwn.never rfl (pi_list (pe_slice sl_list (pv 11) po_none (po_some pe_int))) (pg_name (i := 12) sc_law.nd rfl (by first | exact Or.inl rfl | exact Or.inr rfl)) (pss_one (ps_stop (ps_if (pt_stop (PW.pt (pw_or (pt_cmpR (op_neD hr.units) (pe_call C_past.G (hr.mono (by decide)) (by rfl) C_past.g C_past.kp C_past.b .nil pass0 (pa_cons (pv 12) (pa_cons (pe_tupF (pa_cons pe_str (pa_cons (pv 3) pa_nil))) pa_nil))) (pv 4) (nomark _)) (pw_or1 (pt_cmpR (op_neD hr.units) (pe_callB cr_sortedT (by rfl) m_sorted (by decide +kernel) (pa_cons (pv 12) pa_nil)) (pe_callB cr_sortedT (by rfl) m_sorted (by decide +kernel) (pa_cons (pv 4) pa_nil)) (nomark _)))))) (pss_one (ps_ret pe_bl)) pss_nil))))
      (pss_cons (ps_stop (ps_if (pt_stop (PW.pt (pw_and (pt_cmpR (op_eqD hr.units) (pe_call C_past.G (hr.mono (by decide)) (by rfl) C_past.g C_past.kp C_past.b .nil pass0 (pa_cons (pv 2) (pa_cons (pe_tupF (pa_cons pe_str (pa_cons (pv 3) pa_nil))) pa_nil))) (pv 4) (nomark _)) (pw_and1 (pt_cmpR (op_notInD (Ld.u65 hr)) (pv 2) (pv 11) (by rfl)))))) (pss_one (ps_ret pe_bl)) pss_nil))
      (pss_cons (ps_set (i := 13) sc_law.nd rfl (Or.inr rfl) (pe_slice sl_tupF (pv 4) po_none (po_some pe_int)))
      (pss_cons (ps_set (i := 14) sc_law.nd rfl (Or.inl rfl) (pe_callB (cr_sortedD1 hr.units) (by rfl) m_sorted (by decide +kernel) (pa_cons (pe_lc (own := [("_law_one", 12)]) rfl sc_law.nd (pi_list (pe_call C__law_orders.G (hr.mono (by decide)) (by rfl) C__law_orders.g C__law_orders.kp C__law_orders.b .nil pass0 (pa_cons (pv 13) pa_nil))) (blkOk_by (own := [("_law_one", 12)]) (N := ["_law_script", "_law_town", "_law_first", "_law_room", "_law_row", "_law_many", "_law_falling", "_law_far", "_law_rank", "_law_number", "_law_count", "_law_got", "_law_one", "_law_few", "_law_due", "_law_a", "_law_b"]) (sc := (defScope s_law)) (by decide +kernel)) (fun _ _ _ _ _ => (pg_name (i := 12) sc_law.nd rfl (by first | exact Or.inl rfl | exact Or.inr rfl))) (fun _ _ _ _ _ => (pts_one (pt_cmpR (op_eqDK (K := K) rfl hr.units) (pe_call C_past.G (hr.mono (by decide)) (by rfl) C_past.g C_past.kp C_past.b .nil pass0 (pa_cons (pv 12) (pa_cons (pe_tupF (pa_cons pe_str (pa_cons (pv 3) pa_nil))) pa_nil))) (pv 13) (nomark _)))) (fun _ _ _ _ _ => (pv 12))) pa_nil)))
      (pss_one (ps_ret (pe_cmpR (op_eqD hr.units) (pe_call C_ahead.G (hr.mono (by decide)) (by rfl) C_ahead.g C_ahead.kp C_ahead.b .nil pass0 (pa_cons (pv 13) (pa_cons (pv 3) pa_nil))) (pv 14) (nomark _))))))))))))))))), fun x hp => ?_⟩)
  walk_at "s"
  walk_at "w"
  refine ⟨(x, 9), _, isl_ow rfl, rfl, ⟨hp, by simp, by simp⟩, fun zs1 d ⟨g1, F, g2, g3, g4⟩ => ?_⟩
  subst g2
  dsimp only at g4
  simp only [List.length_nil] at g1
  walk_at "s"
  walk_at "w"
  refine ⟨(x, 5), _, isl_ow rfl, rfl, ⟨hp, by simp, by omega⟩, fun zs2 d ⟨g5, b, g6, g7⟩ => ?_⟩
  subst g6
  dsimp only at g7
  walk_at "w"
  walk_at "s"
  walk_at "w"
  refine ⟨(F.map some, true, b), by rw [oL_some]; rfl, ⟨⟨by simp; omega, by rw [nums_some]; exact g3⟩, by show b ≤ 9; omega⟩, ?_⟩
  rw [pastR_some, oL_some]
  walk_at "w"
  refine c1_sortedT fun ns' p1 p2 => ?_
  rw [eq_asc p1 p2]
  walk_at "w"
  refine ⟨(x, [.tuple (iL (pastL true b F)), .tuple (iL F), .tuple (iL (asc F))]), _, isl_ow rfl, rfl, ⟨hp, by simp, by simp, by omega⟩, fun zs3 d ⟨g8, g9⟩ => ?_⟩
  obtain ⟨N, rfl, hNF⟩ : ∃ N : List Int, d = .tuple (iL N) ∧ N.Perm F := by
    dsimp only at g9
    rcases List.mem_cons.mp g9 with e | g9
    · exact ⟨_, e, pastL_perm true b F⟩
    · rcases List.mem_cons.mp g9 with e | g9
      · exact ⟨_, e, .refl _⟩
      · exact ⟨_, List.mem_singleton.mp g9, asc_perm F⟩
  have hN : N.Nodup := hNF.nodup_iff.mpr g3
  have hl : N.length ≤ 9 := by rw [hNF.length_eq]; exact g4
  walk_at "s"
  walk_at "w"
  walk_at "s"
  walk_at "w"
  refine c1_sortedT fun ns' p1 p2 => ?_
  rw [eq_asc p1 p2]
  refine ⟨_, rd_fr, ?_⟩
  rw [show (List.map PyData.int (asc N)).reverse = iL (dsc N) by rw [← asc_rev, iL, List.map_reverse]]
  walk_at "w"
  refine ⟨N, rfl, by omega, ?_⟩
  walk_at "w"
  refine ⟨_, _, _, rfl, rfl, rfl, ?_⟩
  walk_at "s"
  refine ss_seq ?_
  refine ss_for (fun i Γ => ∃ a c e f : Cell, Γ = [.sc x, .ow zs3, .dt (.tuple (iL F)), .dt (.int b), .dt (.tuple (iL N)), .dt (.int (((cansA N b).take i).foldl (fun m l => m * l.length) 1 : Nat)), a, .dt (.list (iL (gr N))), c, e, f, .no, .no, .no, .no, .no, .no]) fun ss => ?_
  walk_at "w"
  refine ⟨⟨_, _, _, _, rfl⟩, fun i d Γ2 hd ⟨a, c, e, f, ec⟩ => ?_, fun Γ2 ⟨a, c, e, f, ec⟩ => ?_⟩
  · subst ec
    obtain ⟨v, hv, rfl⟩ : ∃ v, (dsc N)[i]? = some v ∧ d = .tuple [.int i, .int v] := by
      rw [enum_iL, List.getElem?_map, List.getElem?_zipIdx] at hd
      cases hv : (dsc N)[i]? with
      | none => rw [hv] at hd; cases hd
      | some v => rw [hv] at hd; simp at hd; exact ⟨v, rfl, hd.symm⟩
    have hv2 : v ∈ N := (dsc_perm N).mem_iff.mp (List.mem_of_getElem? hv)
    have hi : i < N.length := by rw [← (dsc_perm N).length_eq]; exact (List.getElem?_eq_some_iff.mp hv).1
    walk_at "w"
    refine ⟨hv2, ?_⟩
    refine r2_ixL ⟨_, .inl ⟨rfl, rfl⟩⟩ (atI_nat (x := .int (gc N v)) (by rw [List.getElem?_map, gr_idx hv2]; rfl)) ?_
    have ec1 : (cansA N b)[i]? = some (canL (gc N v) i b) := by
      unfold cansA
      rw [List.getElem?_map, List.getElem?_zipIdx, hv]
      simp
    have eP : ((cansA N b).take (i + 1)).foldl (fun m l => m * l.length) 1 = ((cansA N b).take i).foldl (fun m l => m * l.length) 1 * (canL (gc N v) i b).length := by
      rw [take_snoc ec1, List.foldl_append]
      rfl
    have step : ∀ q : Int, q = ((canL (gc N v) i b).length : Nat) → ((((cansA N b).take i).foldl (fun m l => m * l.length) 1 : Nat) : Int) * q = ((((cansA N b).take (i + 1)).foldl (fun m l => m * l.length) 1 : Nat) : Int) := fun q e => by
      rw [eP, e, Int.natCast_mul]
    walk_at "w"
    · have u1 := of_decide_eq_true ‹decide ((0 : Int) < (gc N v : Int)) = true›
      have u2 := of_decide_eq_true ‹decide ((gc N v : Int) + (b : Int) ≤ (i : Int)) = true›
      refine ⟨_, _, _, _, congrArg (fun z => [_, _, _, _, _, Cell.dt (.int z), _, _, _, _, _, _, _, _, _, _, _]) (step 1 ?_)⟩
      rw [canL_lenE, if_pos (by omega), if_pos (by omega)]
      rfl
    · have u1 := of_decide_eq_true ‹decide ((0 : Int) < (gc N v : Int)) = true›
      have u2 := of_decide_eq_false ‹decide ((gc N v : Int) + (b : Int) ≤ (i : Int)) = false›
      refine ⟨_, _, _, _, congrArg (fun z => [_, _, _, _, _, Cell.dt (.int z), _, _, _, _, _, _, _, _, _, _, _]) (step 0 ?_)⟩
      rw [canL_lenE, if_pos (by omega), if_neg (by omega)]
      rfl
    · have u1 := of_decide_eq_false ‹decide ((0 : Int) < (gc N v : Int)) = false›
      refine ⟨_, _, _, _, congrArg (fun z => [_, _, _, _, _, Cell.dt (.int z), _, _, _, _, _, _, _, _, _, _, _]) (step (min (i : Int) (b : Int) + 1) ?_)⟩
      rw [canL_lenE, if_neg (by omega)]
      omega
  · subst ec
    have eM : List.foldl (fun m l => m * l.length) 1 (List.take (enumD (iL (dsc N))).length (cansA N b)) = manyA N b := by
      rw [show (enumD (iL (dsc N))).length = (cansA N b).length by rw [enum_iL, List.length_map, List.length_zipIdx, (dsc_perm N).length_eq, cansA_len], List.take_length]
      rfl
    rw [eM]
    refine ss_seq ?_
    refine ss_set fun ss => ?_
    refine ve_callOrF ?_
    walk_at "w"
    rcases Nat.lt_or_ge 3000 (manyA N b) with hm | hm
    · refine .inr ⟨(N, b), rfl, ⟨(by omega : N.length ≤ 24), hN, (by omega : b ≤ 9), hm⟩, ?_⟩
      walk_at "w"
      walk_at "s"
      walk_at "w"
      walk_at "s"
      refine ss_same ?_ ?_
      · walk_at "w"
        refine vt_cut false ?_ ?_
        · walk_at "w"
          refine ⟨(N, b), rfl, ⟨(by omega : N.length ≤ 24), hN, (by omega : b ≤ 9)⟩, ?_⟩
          walk_at "w"
          refine ⟨((manyA N b : Int), (manyA N b : Int)), rfl, trivial, ?_⟩
          dsimp only
          rw [decide_eq_true rfl]
          walk_at "w"
          refine ⟨(N, b), rfl, ⟨(by omega : N.length ≤ 24), hN, (by omega : b ≤ 9)⟩, ?_⟩
          walk_at "w"
          refine ⟨(decide (0 < (manyA N b : Int)), decide (0 < (manyA N b : Int))), rfl, trivial, ?_⟩
          dsimp only
          rw [decide_eq_true rfl]
          walk_at "w"
          exact ⟨rfl, rfl⟩
        · refine ⟨fun e => (by cases e), fun _ => ?_⟩
          walk_at "w"
      walk_at "w"
      walk_at "s"
      show VSs K _ (tIfS _ _ _) _
      refine ss_if fun ss => ?_
      refine vt_cutT true ?_ ?_
      · walk_at "w"
        exact ⟨decide_eq_true (by omega), rfl⟩
      · refine ⟨fun _ => ?_, fun e => (by cases e)⟩
        walk_at "w"
        refine r2_eqD rd_dt rd_dt (by decide +kernel) (by decide +kernel) ?_
        walk_at "w"
        exact congrArg PyData.bool (by decide +kernel)
    · refine .inl ⟨(N, b), rfl, ⟨(by omega : N.length ≤ 24), hN, (by omega : b ≤ 9), hm⟩, ?_⟩
      obtain ⟨L, hL⟩ : ∃ L, srtL (aheadL N b) = L := ⟨_, rfl⟩
      have hLl : L.length = manyA N b := by rw [← hL, (srtL_perm _).length_eq, aheadL_len]
      have hLm : ∀ M, M ∈ L ↔ M.Perm N ∧ pastL true b M = N := fun M => by rw [← hL, (srtL_perm _).mem_iff, mem_aheadL hN]
      have hLr : L.Pairwise fun a b => HT.lexLt a b = true := by rw [← hL]; exact srt_rise (aheadL_nd hN)
      dsimp only
      rw [hL]
      walk_at "w"
      walk_at "s"
      walk_at "w"
      walk_at "s"
      refine ss_same ?_ ?_
      · walk_at "w"
        refine vt_cut false ?_ ?_
        · walk_at "w"
          refine ⟨(N, b), rfl, ⟨(by omega : N.length ≤ 24), hN, (by omega : b ≤ 9)⟩, ?_⟩
          walk_at "w"
          refine ⟨((manyA N b : Int), (manyA N b : Int)), rfl, trivial, ?_⟩
          dsimp only
          rw [decide_eq_true rfl]
          walk_at "w"
          refine ⟨(N, b), rfl, ⟨(by omega : N.length ≤ 24), hN, (by omega : b ≤ 9)⟩, ?_⟩
          walk_at "w"
          refine ⟨(decide (0 < (manyA N b : Int)), decide (0 < (manyA N b : Int))), rfl, trivial, ?_⟩
          dsimp only
          rw [decide_eq_true rfl]
          walk_at "w"
          exact ⟨rfl, rfl⟩
        · refine ⟨fun e => (by cases e), fun _ => ?_⟩
          walk_at "w"
      walk_at "w"
      walk_at "s"
      refine ss_same ?_ ?_
      · refine ss_if fun ss => ?_
        refine vt_cutT false ?_ ?_
        · walk_at "w"
          exact ⟨decide_eq_false (by omega), rfl⟩
        · refine ⟨fun e => (by cases e), fun _ => ?_⟩
          walk_at "w"
      walk_at "w"
      walk_at "s"
      refine ss_same ?_ ?_
      · walk_at "w"
        refine vt_cut false ?_ ?_
        · walk_at "w"
          · exact absurd ‹(!decide (((tL L).length : Int) = (manyA N b : Int))) = true› (by rw [show (tL L).length = L.length from List.length_map _, hLl]; simp)
          apply ve_lcT (vs := [15, 16]) (fun p : List Int × List Int => PyData.tuple [.tuple (iL p.1), .tuple (iL p.2)]) (L.zip L.tail) (fun p => !HT.lexLt p.1 p.2) (fun _ => PyData.int 1) (by walk_at "n")
          walk_at "w"
          refine ⟨_, _, rfl, rfl, zip_tL L, by simp, gl_lt (by rw [List.length_zip]; omega), fun p hpm => ⟨_, tg_pair (by decide) (by decide), fun acc srcs => ?_⟩, ?_⟩
          · walk_at "s"
            walk_at "w"
            refine r2_ltT rd_dt rd_dt ?_
            walk_at "w"
            refine ⟨rfl, fun _ => ?_, fun _ => rfl⟩
            walk_at "w"
            exact ⟨rfl, rfl⟩
          rw [adj_none hLr]
          walk_at "w"
          refine r2_neNil rd_fr rd_fr (n := 1) (fun d hd => by cases hd) (by decide) ?_
          walk_at "w"
          exact ⟨rfl, rfl⟩
        · refine ⟨fun e => (by cases e), fun _ => ?_⟩
          walk_at "w"
      walk_at "w"
      refine ss_for (fun k Γ => ∃ o : Cell, Γ = [.sc x, .ow zs3, .dt (.tuple (iL F)), .dt (.int b), .dt (.tuple (iL N)), .dt (.int (manyA N b : Nat)), a, .dt (.list (iL (gr N))), c, e, f, .dt (.list (tL L)), o, .no, .no, .no, .no]) fun ss => ?_
      walk_at "w"
      refine ⟨fun i d Γ2 hd ⟨o, ec⟩ => ?_, fun Γ2 ⟨o, ec⟩ => ?_⟩
      · subst ec
        obtain ⟨M, hM, rfl⟩ : ∃ M, M ∈ L ∧ d = .tuple (iL M) := by
          have hd2 : ((tL L).take 40)[i]? = some d := by rw [← cut_to]; exact hd
          obtain ⟨M, hM, e⟩ := List.mem_map.mp (List.mem_of_mem_take (List.mem_of_getElem? hd2))
          exact ⟨M, hM, e.symm⟩
        obtain ⟨hMp, hMP⟩ := (hLm M).mp hM
        have hMn : M.Nodup := hMp.nodup_iff.mpr hN
        have hMl : M.length ≤ 9 := by rw [hMp.length_eq]; exact hl
        walk_at "w"
        walk_at "s"
        refine ss_same ?_ ?_
        · walk_at "w"
          refine vt_cut false ?_ ?_
          · walk_at "w"
            refine ⟨(M.map some, true, b), by rw [oL_some]; rfl, ⟨⟨by simp; omega, by rw [nums_some]; exact hMn⟩, by show b ≤ 9; omega⟩, ?_⟩
            rw [pastR_some, oL_some, hMP]
            walk_at "w"
            refine r2_neT ?_
            rw [decide_eq_true rfl]
            walk_at "w"
            refine c1_sortedT fun ns' p1 p2 => ?_
            rw [eq_asc p1 p2]
            walk_at "w"
            refine c1_sortedT fun ns' p1 p2 => ?_
            rw [eq_asc p1 p2, asc_of_perm hMp]
            walk_at "w"
            refine r2_neL rd_fr rd_fr ?_
            rw [decide_eq_true rfl]
            walk_at "w"
            exact ⟨rfl, rfl⟩
          · refine ⟨fun e => (by cases e), fun _ => ?_⟩
            walk_at "w"
        walk_at "w"
        exact ⟨_, rfl⟩
      · subst ec
        walk_at "w"
        walk_at "s"
        refine ss_same ?_ ?_
        · walk_at "w"
          refine vt_cut false ?_ ?_
          · walk_at "w"
            refine ⟨(F.map some, true, b), by rw [oL_some]; rfl, ⟨⟨by simp; omega, by rw [nums_some]; exact g3⟩, by show b ≤ 9; omega⟩, ?_⟩
            rw [pastR_some, oL_some]
            walk_at "w"
            refine r2_eqT ?_
            walk_at "w"
            · refine r2_notInD rd_dt rd_dt (shp_ok (shp_ti _) (by decide)) (shp_ok (shp_tL _) (by decide)) ?_
              rw [any_tL ((hLm F).mpr ⟨hNF.symm, of_decide_eq_true ‹decide (pastL true b F = N) = true›⟩)]
              walk_at "w"
              exact ⟨rfl, rfl⟩
            · exact ⟨rfl, rfl⟩
          · refine ⟨fun e => (by cases e), fun _ => ?_⟩
            walk_at "w"
        walk_at "w"
        rw [show (5 : Int) = ((5 : Nat) : Int) from rfl, cut_to, iL_take]
        obtain ⟨W, hW⟩ : ∃ W, N.take 5 = W := ⟨_, rfl⟩
        have hWn : W.Nodup := by rw [← hW]; exact hN.sublist (List.take_sublist _ _)
        have hWl : W.length ≤ 5 := by rw [← hW, List.length_take]; omega
        have hOl : (ordsL W).length ≤ 120 := by rw [ordsL_len]; exact fac_le _ hWl
        rw [hW]
        walk_at "w"
        walk_at "s"
        refine ve_drop 12 ?_
        walk_at "s"
        apply ve_lcT (vs := [12]) (fun M : List Int => PyData.tuple (iL M)) (ordsL W) (fun M => decide (pastL true b M = W)) (fun M => PyData.tuple (iL M)) (by walk_at "n")
        walk_at "w"
        refine ⟨W, rfl, hWl, ?_⟩
        walk_at "w"
        refine ⟨rfl, by simp, gl_lt (by omega), fun M hM => ⟨_, tg_name (by decide), fun acc srcs => ?_⟩, ?_⟩
        · have hMp := (mem_ordsL W M).mp hM
          have hMn : M.Nodup := hMp.nodup_iff.mpr hWn
          have hMl : M.length ≤ 5 := by rw [hMp.length_eq]; exact hWl
          walk_at "s"
          walk_at "w"
          refine ⟨(M.map some, true, b), by rw [oL_some]; rfl, ⟨⟨by simp; omega, by rw [nums_some]; exact hMn⟩, by show b ≤ 9; omega⟩, ?_⟩
          rw [pastR_some, oL_some]
          walk_at "w"
          refine r2_eqT ?_
          walk_at "w"
          refine ⟨rfl, fun _ => ?_, fun _ => rfl⟩
          walk_at "w"
          exact ⟨rfl, rfl⟩
        walk_at "w"
        refine c1_sortTL (L := (ordsL W).filter fun M => decide (pastL true b M = W)) ?_ ?_
        · rcases Nat.eq_zero_or_pos W.length with h0 | h0
          · left
            refine Nat.le_trans (List.length_filter_le _ _) ?_
            rw [ordsL_len, h0]
            exact Nat.le_refl 1
          · right
            intro M hM e
            have := ((mem_ordsL W M).mp ((List.mem_filter.mp hM).1)).length_eq
            rw [e] at this
            simp at this
            omega
        walk_at "w"
        refine ⟨(W, b), rfl, ⟨(by omega : W.length ≤ 24), hWn, (by omega : b ≤ 9), Nat.le_trans (few_many hWn b hWl) (by decide)⟩, ?_⟩
        walk_at "w"
        refine r2_eqTL rd_dt (rd_ow rfl) ?_
        rw [decide_eq_true (few_eq hWn b)]
        walk_at "w"
end
set_option maxHeartbeats 0 in
theorem factsL {P : Program} {w : World} {K : PySem.W.Frag} {h : Heap} {mg : Str → Option Value} {f : Addr} (X : K.In h) (G : h.Ns mainGlobals mg) (hfa : mg ("law" : Str) = some (.ref f)) (c : He.SaysX faL fnL exL K) :
    ∃ fd : FuncData, (∀ (s : Shared) (v : Value), BindsTo s fd ⟨[v], []⟩ [("_law_script", v)]) ∧ ∀ base : Heap, K.In base → base.Ns mainGlobals mg → FnOk P w K mg base CX0 9 f fd ["_law_script"] (spF K (fun ns : List Int => [.sc ns]) (fun ns => ns.length ≤ 63) fun _ => .bool true) := by
  have cX := c
  have c := cX.d
  obtain ⟨e_is_whole, F_is_whole⟩ := c.def_ 0 (d := d_is_whole) rfl
  have g_is_whole := He.glo_ok X G (c.fact 0 (f := .glo "is_whole") rfl)
  obtain ⟨e_is_whole_within, F_is_whole_within⟩ := c.def_ 1 (d := d_is_whole_within) rfl
  have g_is_whole_within := He.glo_ok X G (c.fact 1 (f := .glo "is_whole_within") rfl)
  obtain ⟨e__numbers_of, F__numbers_of⟩ := c.def_ 2 (d := d__numbers_of) rfl
  have g__numbers_of := He.glo_ok X G (c.fact 2 (f := .glo "_numbers_of") rfl)
  obtain ⟨e_is_row, F_is_row⟩ := c.def_ 3 (d := d_is_row) rfl
  have g_is_row := He.glo_ok X G (c.fact 3 (f := .glo "is_row") rfl)
  obtain ⟨e_check_row, F_check_row⟩ := c.def_ 4 (d := d_check_row) rfl
  have g_check_row := He.glo_ok X G (c.fact 4 (f := .glo "check_row") rfl)
  obtain ⟨e_check_unmarked, F_check_unmarked⟩ := c.def_ 5 (d := d_check_unmarked) rfl
  have g_check_unmarked := He.glo_ok X G (c.fact 5 (f := .glo "check_unmarked") rfl)
  obtain ⟨e_stretches, F_stretches⟩ := c.def_ 6 (d := d_stretches) rfl
  have g_stretches := He.glo_ok X G (c.fact 6 (f := .glo "stretches") rfl)
  obtain ⟨e__greater_ahead, F__greater_ahead⟩ := c.def_ 7 (d := d__greater_ahead) rfl
  have g__greater_ahead := He.glo_ok X G (c.fact 7 (f := .glo "_greater_ahead") rfl)
  obtain ⟨e_counts, F_counts⟩ := c.def_ 8 (d := d_counts) rfl
  have g_counts := He.glo_ok X G (c.fact 8 (f := .glo "counts") rfl)
  obtain ⟨e__are_counts, F__are_counts⟩ := c.def_ 9 (d := d__are_counts) rfl
  have g__are_counts := He.glo_ok X G (c.fact 9 (f := .glo "_are_counts") rfl)
  obtain ⟨e_row_of, F_row_of⟩ := c.def_ 10 (d := d_row_of) rfl
  have g_row_of := He.glo_ok X G (c.fact 10 (f := .glo "row_of") rfl)
  obtain ⟨e__is_word, F__is_word⟩ := c.def_ 11 (d := d__is_word) rfl
  have g__is_word := He.glo_ok X G (c.fact 11 (f := .glo "_is_word") rfl)
  obtain ⟨e__is_places, F__is_places⟩ := c.def_ 12 (d := d__is_places) rfl
  have g__is_places := He.glo_ok X G (c.fact 12 (f := .glo "_is_places") rfl)
  obtain ⟨e_is_shelf, F_is_shelf⟩ := c.def_ 13 (d := d_is_shelf) rfl
  have g_is_shelf := He.glo_ok X G (c.fact 13 (f := .glo "is_shelf") rfl)
  obtain ⟨e__check_shelf, F__check_shelf⟩ := c.def_ 14 (d := d__check_shelf) rfl
  have g__check_shelf := He.glo_ok X G (c.fact 14 (f := .glo "_check_shelf") rfl)
  obtain ⟨e_let_on, F_let_on⟩ := c.def_ 15 (d := d_let_on) rfl
  have g_let_on := He.glo_ok X G (c.fact 15 (f := .glo "let_on") rfl)
  obtain ⟨e__let_past, F__let_past⟩ := c.def_ 16 (d := d__let_past) rfl
  have g__let_past := He.glo_ok X G (c.fact 16 (f := .glo "_let_past") rfl)
  obtain ⟨e_past, F_past⟩ := c.def_ 17 (d := d_past) rfl
  have g_past := He.glo_ok X G (c.fact 17 (f := .glo "past") rfl)
  obtain ⟨e_check_places, F_check_places⟩ := c.def_ 18 (d := d_check_places) rfl
  have g_check_places := He.glo_ok X G (c.fact 18 (f := .glo "check_places") rfl)
  obtain ⟨e__can_have, F__can_have⟩ := c.def_ 19 (d := d__can_have) rfl
  have g__can_have := He.glo_ok X G (c.fact 19 (f := .glo "_can_have") rfl)
  obtain ⟨e__counts_ahead, F__counts_ahead⟩ := c.def_ 20 (d := d__counts_ahead) rfl
  have g__counts_ahead := He.glo_ok X G (c.fact 20 (f := .glo "_counts_ahead") rfl)
  obtain ⟨e_how_many, F_how_many⟩ := c.def_ 21 (d := d_how_many) rfl
  have g_how_many := He.glo_ok X G (c.fact 21 (f := .glo "how_many") rfl)
  obtain ⟨e_ahead, F_ahead⟩ := c.def_ 22 (d := d_ahead) rfl
  have g_ahead := He.glo_ok X G (c.fact 22 (f := .glo "ahead") rfl)
  obtain ⟨e_can_come, F_can_come⟩ := c.def_ 23 (d := d_can_come) rfl
  have g_can_come := He.glo_ok X G (c.fact 23 (f := .glo "can_come") rfl)
  obtain ⟨e__law_ask, F__law_ask⟩ := c.def_ 24 (d := d__law_ask) rfl
  have g__law_ask := He.glo_ok X G (c.fact 24 (f := .glo "_law_ask") rfl)
  obtain ⟨e__law_cell_at, F__law_cell_at⟩ := c.def_ 25 (d := d__law_cell_at) rfl
  have g__law_cell_at := He.glo_ok X G (c.fact 25 (f := .glo "_law_cell_at") rfl)
  obtain ⟨e__law_mixed, F__law_mixed⟩ := c.def_ 26 (d := d__law_mixed) rfl
  have g__law_mixed := He.glo_ok X G (c.fact 26 (f := .glo "_law_mixed") rfl)
  obtain ⟨e__law_draw, F__law_draw⟩ := c.def_ 27 (d := d__law_draw) rfl
  have g__law_draw := He.glo_ok X G (c.fact 27 (f := .glo "_law_draw") rfl)
  obtain ⟨e__law_pick, F__law_pick⟩ := c.def_ 28 (d := d__law_pick) rfl
  have g__law_pick := He.glo_ok X G (c.fact 28 (f := .glo "_law_pick") rfl)
  obtain ⟨e__law_same_number, F__law_same_number⟩ := c.def_ 29 (d := d__law_same_number) rfl
  have g__law_same_number := He.glo_ok X G (c.fact 29 (f := .glo "_law_same_number") rfl)
  obtain ⟨e__law_same_truth, F__law_same_truth⟩ := c.def_ 30 (d := d__law_same_truth) rfl
  have g__law_same_truth := He.glo_ok X G (c.fact 30 (f := .glo "_law_same_truth") rfl)
  obtain ⟨e__law_some_plain, F__law_some_plain⟩ := c.def_ 31 (d := d__law_some_plain) rfl
  have g__law_some_plain := He.glo_ok X G (c.fact 31 (f := .glo "_law_some_plain") rfl)
  obtain ⟨e__law_greater, F__law_greater⟩ := c.def_ 32 (d := d__law_greater) rfl
  have g__law_greater := He.glo_ok X G (c.fact 32 (f := .glo "_law_greater") rfl)
  obtain ⟨e__law_orders, F__law_orders⟩ := c.def_ 33 (d := d__law_orders) rfl
  have g__law_orders := He.glo_ok X G (c.fact 33 (f := .glo "_law_orders") rfl)
  obtain ⟨e_law, F_law⟩ := c.def_ 34 (d := d_law) rfl
  have g_law := He.glo_ok X G (c.fact 34 (f := .glo "law") rfl)
  obtain ⟨e__law_which, F__law_which⟩ := c.def_ 35 (d := d__law_which) rfl
  have g__law_which := He.glo_ok X G (c.fact 35 (f := .glo "_law_which") rfl)
  have m_ValueError := He.free_ok X G (c.fact 36 (f := .free "ValueError") rfl)
  have m_all := He.free_ok X G (c.fact 37 (f := .free "all") rfl)
  have m_bool := He.free_ok X G (c.fact 38 (f := .free "bool") rfl)
  have m_dict := He.free_ok X G (c.fact 39 (f := .free "dict") rfl)
  have m_enumerate := He.free_ok X G (c.fact 40 (f := .free "enumerate") rfl)
  have m_int := He.free_ok X G (c.fact 41 (f := .free "int") rfl)
  have m_isinstance := He.free_ok X G (c.fact 42 (f := .free "isinstance") rfl)
  have m_len := He.free_ok X G (c.fact 43 (f := .free "len") rfl)
  have m_list := He.free_ok X G (c.fact 44 (f := .free "list") rfl)
  have m_max := He.free_ok X G (c.fact 45 (f := .free "max") rfl)
  have m_min := He.free_ok X G (c.fact 46 (f := .free "min") rfl)
  have m_range := He.free_ok X G (c.fact 47 (f := .free "range") rfl)
  have m_set := He.free_ok X G (c.fact 48 (f := .free "set") rfl)
  have m_sorted := He.free_ok X G (c.fact 49 (f := .free "sorted") rfl)
  have m_str := He.free_ok X G (c.fact 50 (f := .free "str") rfl)
  have m_sum := He.free_ok X G (c.fact 51 (f := .free "sum") rfl)
  have m_tuple := He.free_ok X G (c.fact 52 (f := .free "tuple") rfl)
  have m_zip := He.free_ok X G (c.fact 53 (f := .free "zip") rfl)
  have c_HEAVY : GlobS K mg "HEAVY" "heavy" := ⟨He.str_ok X G (c.fact 54 (f := .str "HEAVY" "heavy") rfl)⟩
  have c_LIGHT : GlobS K mg "LIGHT" "light" := ⟨He.str_ok X G (c.fact 55 (f := .str "LIGHT" "light") rfl)⟩
  have c_MOST_PLACES : GlobI K mg "MOST_PLACES" 9 := ⟨He.int_ok X G (c.fact 56 (f := .int "MOST_PLACES" 9) rfl)⟩
  have c_MOST_ROWS : GlobI K mg "MOST_ROWS" 3000 := ⟨He.int_ok X G (c.fact 57 (f := .int "MOST_ROWS" 3000) rfl)⟩
  have c_MOST_THINGS : GlobI K mg "MOST_THINGS" 24 := ⟨He.int_ok X G (c.fact 58 (f := .int "MOST_THINGS" 24) rfl)⟩
  have e := hfa.symm.trans g_law
  cases e
  have D_is_whole : Df K mg "is_whole" s_is_whole ["thing"] (He.ga K "is_whole") e_is_whole := Df.of F_is_whole g_is_whole fun _ _ _ _ _ _ us hl => match us, hl with | [_], _ => rfl
  have D_is_whole_within : Df K mg "is_whole_within" s_is_whole_within ["thing", "least", "most"] (He.ga K "is_whole_within") e_is_whole_within := Df.of F_is_whole_within g_is_whole_within fun _ _ _ _ _ _ us hl => match us, hl with | [_, _, _], _ => rfl
  have D__numbers_of : Df K mg "_numbers_of" s__numbers_of ["things"] (He.ga K "_numbers_of") e__numbers_of := Df.of F__numbers_of g__numbers_of fun _ _ _ _ _ _ us hl => match us, hl with | [_], _ => rfl
  have D_is_row : Df K mg "is_row" s_is_row ["thing"] (He.ga K "is_row") e_is_row := Df.of F_is_row g_is_row fun _ _ _ _ _ _ us hl => match us, hl with | [_], _ => rfl
  have D_check_row : Df K mg "check_row" s_check_row ["row"] (He.ga K "check_row") e_check_row := Df.of F_check_row g_check_row fun _ _ _ _ _ _ us hl => match us, hl with | [_], _ => rfl
  have D_check_unmarked : Df K mg "check_unmarked" s_check_unmarked ["row"] (He.ga K "check_unmarked") e_check_unmarked := Df.of F_check_unmarked g_check_unmarked fun _ _ _ _ _ _ us hl => match us, hl with | [_], _ => rfl
  have D_stretches : Df K mg "stretches" s_stretches ["row"] (He.ga K "stretches") e_stretches := Df.of F_stretches g_stretches fun _ _ _ _ _ _ us hl => match us, hl with | [_], _ => rfl
  have D__greater_ahead : Df K mg "_greater_ahead" s__greater_ahead ["numbers"] (He.ga K "_greater_ahead") e__greater_ahead := Df.of F__greater_ahead g__greater_ahead fun _ _ _ _ _ _ us hl => match us, hl with | [_], _ => rfl
  have D_counts : Df K mg "counts" s_counts ["row"] (He.ga K "counts") e_counts := Df.of F_counts g_counts fun _ _ _ _ _ _ us hl => match us, hl with | [_], _ => rfl
  have D__are_counts : Df K mg "_are_counts" s__are_counts ["thing", "many"] (He.ga K "_are_counts") e__are_counts := Df.of F__are_counts g__are_counts fun _ _ _ _ _ _ us hl => match us, hl with | [_, _], _ => rfl
  have D_row_of : Df K mg "row_of" s_row_of ["numbers", "counts"] (He.ga K "row_of") e_row_of := Df.of F_row_of g_row_of fun _ _ _ _ _ _ us hl => match us, hl with | [_, _], _ => rfl
  have D__is_word : Df K mg "_is_word" s__is_word ["thing"] (He.ga K "_is_word") e__is_word := Df.of F__is_word g__is_word fun _ _ _ _ _ _ us hl => match us, hl with | [_], _ => rfl
  have D__is_places : Df K mg "_is_places" s__is_places ["thing"] (He.ga K "_is_places") e__is_places := Df.of F__is_places g__is_places fun _ _ _ _ _ _ us hl => match us, hl with | [_], _ => rfl
  have D_is_shelf : Df K mg "is_shelf" s_is_shelf ["thing"] (He.ga K "is_shelf") e_is_shelf := Df.of F_is_shelf g_is_shelf fun _ _ _ _ _ _ us hl => match us, hl with | [_], _ => rfl
  have D__check_shelf : Df K mg "_check_shelf" s__check_shelf ["shelf"] (He.ga K "_check_shelf") e__check_shelf := Df.of F__check_shelf g__check_shelf fun _ _ _ _ _ _ us hl => match us, hl with | [_], _ => rfl
  have D_let_on : Df K mg "let_on" s_let_on ["standing", "word", "most"] (He.ga K "let_on") e_let_on := Df.of F_let_on g_let_on fun _ _ _ _ _ _ us hl => match us, hl with | [_, _, _], _ => rfl
  have D__let_past : Df K mg "_let_past" s__let_past ["numbers", "word", "places"] (He.ga K "_let_past") e__let_past := Df.of F__let_past g__let_past fun _ _ _ _ _ _ us hl => match us, hl with | [_, _, _], _ => rfl
  have D_past : Df K mg "past" s_past ["row", "shelf"] (He.ga K "past") e_past := Df.of F_past g_past fun _ _ _ _ _ _ us hl => match us, hl with | [_, _], _ => rfl
  have D_check_places : DfD K mg "check_places" s_check_places ["places", "least"] (0) (He.ga K "check_places") e_check_places := DfD.of 1 F_check_places g_check_places rfl (fun _ _ _ _ _ _ _ us its hl hi => match us, its, hl, hi with | [_, _], [_], _, _ => ⟨_, rfl, rfl⟩) (fun _ _ _ _ _ _ _ us its hl hi => match us, its, hl, hi with | [_], [_], _, _ => ⟨_, rfl, rfl⟩)
  have D__can_have : Df K mg "_can_have" s__can_have ["count", "rank", "places"] (He.ga K "_can_have") e__can_have := Df.of F__can_have g__can_have fun _ _ _ _ _ _ us hl => match us, hl with | [_, _, _], _ => rfl
  have D__counts_ahead : Df K mg "_counts_ahead" s__counts_ahead ["row", "places"] (He.ga K "_counts_ahead") e__counts_ahead := Df.of F__counts_ahead g__counts_ahead fun _ _ _ _ _ _ us hl => match us, hl with | [_, _], _ => rfl
  have D_how_many : Df K mg "how_many" s_how_many ["row", "places"] (He.ga K "how_many") e_how_many := Df.of F_how_many g_how_many fun _ _ _ _ _ _ us hl => match us, hl with | [_, _], _ => rfl
  have D_ahead : Df K mg "ahead" s_ahead ["row", "places"] (He.ga K "ahead") e_ahead := Df.of F_ahead g_ahead fun _ _ _ _ _ _ us hl => match us, hl with | [_, _], _ => rfl
  have D_can_come : Df K mg "can_come" s_can_come ["row", "places"] (He.ga K "can_come") e_can_come := Df.of F_can_come g_can_come fun _ _ _ _ _ _ us hl => match us, hl with | [_, _], _ => rfl
  have D__law_ask : Df K mg "_law_ask" s__law_ask ["_law_row", "_law_room"] (He.ga K "_law_ask") e__law_ask := Df.of F__law_ask g__law_ask fun _ _ _ _ _ _ us hl => match us, hl with | [_, _], _ => rfl
  have D__law_cell_at : Df K mg "_law_cell_at" s__law_cell_at ["_law_script", "_law_k"] (He.ga K "_law_cell_at") e__law_cell_at := Df.of F__law_cell_at g__law_cell_at fun _ _ _ _ _ _ us hl => match us, hl with | [_, _], _ => rfl
  have D__law_mixed : Df K mg "_law_mixed" s__law_mixed ["_law_script", "_law_k", "_law_bound"] (He.ga K "_law_mixed") e__law_mixed := Df.of F__law_mixed g__law_mixed fun _ _ _ _ _ _ us hl => match us, hl with | [_, _, _], _ => rfl
  have D__law_draw : Df K mg "_law_draw" s__law_draw ["_law_script", "_law_town", "_law_bound"] (He.ga K "_law_draw") e__law_draw := Df.of F__law_draw g__law_draw fun _ _ _ _ _ _ us hl => match us, hl with | [_, _, _], _ => rfl
  have D__law_pick : Df K mg "_law_pick" s__law_pick ["_law_script", "_law_town", "_law_some"] (He.ga K "_law_pick") e__law_pick := Df.of F__law_pick g__law_pick fun _ _ _ _ _ _ us hl => match us, hl with | [_, _, _], _ => rfl
  have D__law_same_number : Df K mg "_law_same_number" s__law_same_number ["_law_got", "_law_due"] (He.ga K "_law_same_number") e__law_same_number := Df.of F__law_same_number g__law_same_number fun _ _ _ _ _ _ us hl => match us, hl with | [_, _], _ => rfl
  have D__law_same_truth : Df K mg "_law_same_truth" s__law_same_truth ["_law_got", "_law_due"] (He.ga K "_law_same_truth") e__law_same_truth := Df.of F__law_same_truth g__law_same_truth fun _ _ _ _ _ _ us hl => match us, hl with | [_, _], _ => rfl
  have D__law_some_plain : Df K mg "_law_some_plain" s__law_some_plain ["_law_script", "_law_town", "_law_most_there"] (He.ga K "_law_some_plain") e__law_some_plain := Df.of F__law_some_plain g__law_some_plain fun _ _ _ _ _ _ us hl => match us, hl with | [_, _, _], _ => rfl
  have D__law_greater : Df K mg "_law_greater" s__law_greater ["_law_numbers"] (He.ga K "_law_greater") e__law_greater := Df.of F__law_greater g__law_greater fun _ _ _ _ _ _ us hl => match us, hl with | [_], _ => rfl
  have D__law_orders : Df K mg "_law_orders" s__law_orders ["_law_numbers"] (He.ga K "_law_orders") e__law_orders := Df.of F__law_orders g__law_orders fun _ _ _ _ _ _ us hl => match us, hl with | [_], _ => rfl
  have D_law : Df K mg "law" s_law ["_law_script"] (He.ga K "law") e_law := Df.of F_law g_law fun _ _ _ _ _ _ us hl => match us, hl with | [_], _ => rfl
  have D__law_which : Df K mg "_law_which" s__law_which ["_law_e"] (He.ga K "_law_which") e__law_which := Df.of F__law_which g__law_which fun _ _ _ _ _ _ us hl => match us, hl with | [_], _ => rfl
  have b := FunD.bindsA (ps := ["_law_script"]) F_law fun _ _ _ _ _ _ us hl => match us, hl with | [_], _ => rfl
  have g_NoRow := He.glo_ok X G (c.fact 59 (f := .glo "NoRow") rfl)
  have g_NoShelf := He.glo_ok X G (c.fact 60 (f := .glo "NoShelf") rfl)
  have g_NoLine := He.glo_ok X G (c.fact 61 (f := .glo "NoLine") rfl)
  have g_NoPlaces := He.glo_ok X G (c.fact 62 (f := .glo "NoPlaces") rfl)
  have g_Marked := He.glo_ok X G (c.fact 63 (f := .glo "Marked") rfl)
  have g_NoCounts := He.glo_ok X G (c.fact 64 (f := .glo "NoCounts") rfl)
  have g_NoLetting := He.glo_ok X G (c.fact 65 (f := .glo "NoLetting") rfl)
  have g_TooMany := He.glo_ok X G (c.fact 66 (f := .glo "TooMany") rfl)
  have g_NoMove := He.glo_ok X G (c.fact 67 (f := .glo "NoMove") rfl)
  have g_NoText := He.glo_ok X G (c.fact 68 (f := .glo "NoText") rfl)
  have g_NoNumber := He.glo_ok X G (c.fact 69 (f := .glo "NoNumber") rfl)
  have g_Nothing := He.glo_ok X G (c.fact 70 (f := .glo "Nothing") rfl)
  have g_ShelfError := He.glo_ok X G (c.fact 71 (f := .glo "ShelfError") rfl)
  have x_TooMany := ExcF.of X G (c.fact 66 (f := .glo "TooMany") rfl) (c.fact 72 (f := .exc "TooMany") rfl)
  have w_g := D__law_which.g
  have w_k := D__law_which.F.kp
  have w_b := D__law_which.b
  have w_eTooMany := He.exm_ok (c.fact 73 (f := .exm "TooMany" "ShelfError" true) rfl)
  have w_iTooMany : Ld.idxK K [He.ga K "NoRow", He.ga K "NoShelf", He.ga K "NoLine", He.ga K "NoPlaces", He.ga K "Marked", He.ga K "NoCounts", He.ga K "NoLetting", He.ga K "TooMany", He.ga K "NoMove", He.ga K "NoText", He.ga K "NoNumber", He.ga K "Nothing"] (He.ga K "TooMany") = some 7 := Ld.idxK_of rfl (He.klB_ok (by decide) (cX.x 0 rfl))
  have w_e := w_eTooMany
  have w_i := w_iTooMany
  refine ⟨e_law, fun s v => b s [v] rfl, fun base _ _ => ?_⟩
  have W_which := ok__law_which (P := P) (w := w) (mg := mg) (base := base) D__law_which g_NoRow g_NoShelf g_NoLine g_NoPlaces g_Marked g_NoCounts g_NoLetting g_TooMany g_NoMove g_NoText g_NoNumber g_Nothing m_isinstance m_ValueError (idx := Ld.idxK K [He.ga K "NoRow", He.ga K "NoShelf", He.ga K "NoLine", He.ga K "NoPlaces", He.ga K "Marked", He.ga K "NoCounts", He.ga K "NoLetting", He.ga K "TooMany", He.ga K "NoMove", He.ga K "NoText", He.ga K "NoNumber", He.ga K "Nothing"]) (fun X n h => Ld.idxK_kit h)
  have C_is_whole := ok_is_whole (P := P) (w := w) (mg := mg) (base := base) D_is_whole m_bool m_int m_isinstance
  have C_is_whole_within := ok_is_whole_within (P := P) (w := w) (mg := mg) (base := base) D_is_whole_within C_is_whole
  have C__numbers_of := ok__numbers_of (P := P) (w := w) (mg := mg) (base := base) D__numbers_of 
  have C_is_row := ok_is_row (P := P) (w := w) (mg := mg) (base := base) D_is_row C__numbers_of C_is_whole m_all m_isinstance m_len m_set m_tuple c_MOST_THINGS
  have C_check_row := ok_check_row (P := P) (w := w) (mg := mg) (base := base) D_check_row C_is_row
  have C_check_unmarked := ok_check_unmarked (P := P) (w := w) (mg := mg) (base := base) D_check_unmarked C_check_row
  have C_stretches := ok_stretches (P := P) (w := w) (mg := mg) (base := base) D_stretches C_check_row
  have C_greater_aheadL := ok_greater_aheadL (P := P) (w := w) (mg := mg) (base := base) D__greater_ahead m_enumerate m_len
  have C_counts := ok_counts (P := P) (w := w) (mg := mg) (base := base) D_counts C__numbers_of C_check_row C_greater_aheadL
  have C__are_counts := ok__are_counts (P := P) (w := w) (mg := mg) (base := base) D__are_counts C_is_whole_within m_all m_enumerate m_isinstance m_len m_list
  have C_row_of := ok_row_of (P := P) (w := w) (mg := mg) (base := base) D_row_of C__are_counts C_check_unmarked m_len m_sorted m_tuple m_zip
  have C__is_word := ok__is_word (P := P) (w := w) (mg := mg) (base := base) D__is_word m_isinstance m_str c_HEAVY c_LIGHT
  have C__is_places := ok__is_places (P := P) (w := w) (mg := mg) (base := base) D__is_places C_is_whole_within c_MOST_PLACES
  have C_is_shelf := ok_is_shelf (P := P) (w := w) (mg := mg) (base := base) D_is_shelf C__is_places C__is_word m_isinstance m_len m_tuple
  have C__check_shelf := ok__check_shelf (P := P) (w := w) (mg := mg) (base := base) D__check_shelf C_is_shelf
  have C_let_on := ok_let_on (P := P) (w := w) (mg := mg) (base := base) D_let_on m_len m_max m_min c_LIGHT
  have C__let_past := ok__let_past (P := P) (w := w) (mg := mg) (base := base) D__let_past C_let_on m_zip
  have C_past := ok_past (P := P) (w := w) (mg := mg) (base := base) D_past C__check_shelf C__let_past C_check_row C_stretches m_len m_tuple
  have C_check_places := ok_check_places (P := P) (w := w) (mg := mg) (base := base) D_check_places C_is_whole_within c_MOST_PLACES
  have C__can_have := ok__can_have (P := P) (w := w) (mg := mg) (base := base) D__can_have m_list m_min m_range
  have C__counts_ahead := ok__counts_ahead (P := P) (w := w) (mg := mg) (base := base) D__counts_ahead C__can_have C_counts m_dict m_enumerate m_sorted m_zip
  have C_how_many := ok_how_many (P := P) (w := w) (mg := mg) (base := base) D_how_many C__counts_ahead C_check_places C_check_unmarked m_len
  have C_ahead := ok_ahead (P := P) (w := w) (mg := mg) (base := base) D_ahead C__counts_ahead C_how_many C_row_of m_sorted c_MOST_ROWS
  have C_aheadR := ok_aheadR (P := P) (w := w) (mg := mg) (base := base) D_ahead C_how_many c_MOST_ROWS x_TooMany
  have C_can_come := ok_can_come (P := P) (w := w) (mg := mg) (base := base) D_can_come C_how_many
  have C_askN := ok_askN (P := P) (w := w) (mg := mg) (base := base) D__law_ask C_ahead g_ShelfError
  have C_askR := ok_askR (P := P) (w := w) (mg := mg) (base := base) D__law_ask C_aheadR g_ShelfError W_which w_g w_k w_b w_e w_i
  have C_law_ask := ok_law_ask (P := P) (w := w) (mg := mg) (base := base) D__law_ask C_askN C_askR
  have C__law_cell_at := ok__law_cell_at (P := P) (w := w) (mg := mg) (base := base) D__law_cell_at m_len m_min m_range
  have C__law_mixed := ok__law_mixed (P := P) (w := w) (mg := mg) (base := base) D__law_mixed C__law_cell_at
  have C__law_draw := ok__law_draw (P := P) (w := w) (mg := mg) (base := base) D__law_draw C__law_mixed m_len
  have C__law_pick := ok__law_pick (P := P) (w := w) (mg := mg) (base := base) D__law_pick C__law_draw m_len
  have C__law_same_number := ok__law_same_number (P := P) (w := w) (mg := mg) (base := base) D__law_same_number m_bool m_int m_isinstance
  have C__law_same_truth := ok__law_same_truth (P := P) (w := w) (mg := mg) (base := base) D__law_same_truth m_bool m_isinstance
  have C__law_some_plain := ok__law_some_plain (P := P) (w := w) (mg := mg) (base := base) D__law_some_plain C__law_draw C__law_pick m_len m_min m_range m_tuple
  have C__law_greater := ok__law_greater (P := P) (w := w) (mg := mg) (base := base) D__law_greater m_int m_len m_range m_sum
  have C__law_orders := ok__law_orders (P := P) (w := w) (mg := mg) (base := base) D__law_orders m_len m_range
  have C_law := ok_law (P := P) (w := w) (mg := mg) (base := base) D_law C__law_draw C__law_greater C__law_orders C__law_pick C__law_same_number C__law_same_truth C__law_some_plain C_ahead C_can_come C_how_many C_law_ask C_past m_enumerate m_len m_list m_min m_sorted m_tuple m_zip
  exact C_law.G
end Sh
set_option maxHeartbeats 0 in
theorem PySem.Challenge.cw_shelfrows_k07_whole_rows_ahead_holds : PySem.Challenge.rw_shelfrows_k07_whole_rows_ahead.Holds := by
  refine Sh.endL fun {w} {K} {h} {mg} {f} KX G hmg c => ?_
  obtain ⟨fd, hb, hF⟩ := Sh.factsL (P := (PySem.Challenge.rw_shelfrows_k07_whole_rows_ahead).prog) (w := w) KX G hmg c
  exact ⟨fd, _, hb, fun H a ns hl hS => Ld.law_sp hl hS, hF⟩
