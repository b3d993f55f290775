import PyProof.Rows.All
import Wide.All
import OpenK.AllK
import Wide.FinOn
import PyProof.EqAt
import PyProof.EqKinds
import PyProof.TupleCall
import HandS.Base
import HandS.Call
import HandS.List
import HandS.TupAny
import HandS.Strs
import HandS.Conv
import KE.GoesMore
import PyProof.EnumMake
import HandS.Iter
import HandS.Zip
import HandS.SortInts
import HandS.SortKw
import HandS.Comp
import HandS.Ends
import HandS.Dict
import HandS.Text
import HandS.Walk
import HandS.Words
import HandS.WordsList
import HandS.TupMul
import HandS.Style
import HandS.IsInst
import HandS.More
import HandS.SetFor
import HandS.Wide
import KE.KIndexOf
import KE.DatumOrd
import HandS.Defaults
import KE.KDictZip
import HandS.Star
import KE.SortData
import KE.DataMinMax
import PyProof.P3Eq
import HandS.Flow
import HandS.HeadHook1
import HandS.HeadHook2
import HandS.ExcIs
import HandS.Exc
import HandS.ExcOwn
import HandS.ExcCtx
import HandS.Hot
import HandS.HotCalls
import HandS.FStr
import HandS.Deep
import HandS.CallSlots
import HandS.SlotsOwn
import HandS.OwnEq
import KE.KCallOwn
import OpenK.KOps
import HandS.RaiseMore
import HandS.Codes
import KE.KStateDown
import HandS.WordsExc
import HandS.Head0
import HandS.Head1
import HandS.Head2
import HandS.HeadEnd
import PySem.Challenge.RW_shelfrows_k10_rows_refused
set_option Elab.async false
set_option linter.all false
set_option maxRecDepth 100000
set_option Elab.async false
set_option linter.all false
set_option maxRecDepth 100000
namespace He
open PySem PySem.Spec PyProof.Rows L2
/-! further facts of the written part -/
def obsX (fa : List Fa) (fn : List DefD) (ex : List (PySem.W.Frag → Bool)) (K : PySem.W.Frag) : AlD := ((obsD fa fn K).1 && ex.all fun e => e K, (obsD fa fn K).2)
def SaysX (fa : List Fa) (fn : List DefD) (ex : List (PySem.W.Frag → Bool)) (K : PySem.W.Frag) : Prop := obsX fa fn ex K = valD fn
def obsXG (n : Nat) (fa : List Fa) (fn : List DefD) (ex : List (PySem.W.Frag → Bool)) (g : Addr → Option Obj) : AlD := obsX fa fn ex (frG g (asD g n))
def hookX (n : Nat) (fa : List Fa) (fn : List DefD) (ex : List (PySem.W.Frag → Bool)) : PySem.W.Hook where
  α := AlD
  obs := fun s => obsXG n fa fn ex s.heap.get?
  val := fun _ => valD fn
  says := fun _ h => ∃ K : PySem.W.Frag, K.In h ∧ SaysX fa fn ex K
  of := fun _ _ e => ⟨_, frG_in, e⟩
  keeps := fun _ _ _ ⟨K, hK, c⟩ k => ⟨K, PySem.W.Frag.In.keeps hK k, c⟩
theorem obsXG_eq {n : Nat} {fa : List Fa} {fn : List DefD} {ex : List (PySem.W.Frag → Bool)} {g : Addr → Option Obj} {s : Shared} (h : ∀ a, g a = s.heap.get? a) : obsXG n fa fn ex g = (hookX n fa fn ex).obs s := by
  have e : g = s.heap.get? := funext h
  rw [e] <;> rfl
section
variable {fa : List Fa} {fn : List DefD} {ex : List (PySem.W.Frag → Bool)} {K : PySem.W.Frag}
theorem SaysX.d (c : SaysX fa fn ex K) : SaysD fa fn K := by
  have c1 : ((obsD fa fn K).1 && ex.all fun e => e K) = true := congrArg (fun z : AlD => z.1) c
  have c2 : (obsD fa fn K).2 = fn.map DefD.val := congrArg (fun z : AlD => z.2) c
  have c3 : (obsD fa fn K).1 = true := (ba c1).1
  show obsD fa fn K = (true, fn.map DefD.val)
  rw [← c3, ← c2]
theorem SaysX.x (c : SaysX fa fn ex K) (i : Nat) {e : PySem.W.Frag → Bool} (h : ex[i]? = some e := by rfl) : e K = true := by
  have c1 : ((obsD fa fn K).1 && ex.all fun e => e K) = true := congrArg (fun z : AlD => z.1) c
  exact List.all_eq_true.mp (ba c1).2 e (List.mem_of_getElem? h)
end
/-- what isinstance asks of an error's class -/
def xcB (x : Str) (K : PySem.W.Frag) : Bool :=
  eqO (PySem.W.findIn K (.ref (ga K x)) "__getattribute__") (some (some (.builtin "BaseException.__getattribute__"))) && (eqO (PySem.W.findIn K (.ref (ga K x)) "__getattr__") (some none) && (decide (PySem.W.subIn K (.ref (ga K x)) (.type "BaseException") = some true) &&
    (PySem.W.hasDictIn K (ga K x) && (eqO (PySem.W.findIn K (.ref (ga K x)) "__class__") (some (some (.builtin "object.__class__"))) && (eqO (PySem.W.specialIn K (.builtin "object.__class__") "__get__") (some (some (.builtin "getset_descriptor.__get__"))) &&
      (decide (PySem.W.takesIn K (.builtin "object.__class__") = some true) && decide (PySem.W.mroIn K (ga K x) (.type "object") = some true)))))))
def ktB (x y : Str) (b : Bool) (K : PySem.W.Frag) : Bool := decide (PySem.W.kitOne K (.ref (ga K x)) (.ref (ga K y)) = some b)
def kvB (x : Str) (K : PySem.W.Frag) : Bool := decide (PySem.W.kitOne K (.ref (ga K x)) (.type "ValueError") = some true)
/-- all of it, for the class x, the n-th of ys -/
def klB (x : Str) (n : Nat) (ys : List Str) (K : PySem.W.Frag) : Bool := xcB x K && (kvB x K && (ys.zipIdx.all fun p => ktB x p.1 (decide ((p.2 : Int) = n)) K))
/-- what isinstance and == ask of an instance's class -/
def insB (x : Str) (K : PySem.W.Frag) : Bool :=
  eqO (PySem.W.findIn K (.ref (ga K x)) "__class__") (some (some (.builtin "object.__class__"))) && (eqO (PySem.W.specialIn K (.builtin "object.__class__") "__get__") (some (some (.builtin "getset_descriptor.__get__"))) && (decide (PySem.W.takesIn K (.builtin "object.__class__") = some true) && (decide (PySem.W.mroIn K (ga K x) (.type "object") = some true) &&
    (decide (PySem.W.kitOne K (.ref (ga K x)) (.ref (ga K x)) = some true) && (decide (PySem.W.kitOne K (.type "str") (.ref (ga K x)) = some false) && PySem.W.notFirst K (ga K x) (.type "str"))))))
end He
namespace Sh
open PySem PySem.Spec PyProof.Rows L2
def topS (i : Nat) : Stmt := PySem.Challenge.pw_shelfrows_k10_rows_refused.main.body.getD i (.Pass ⟨0, 0, 0, 0⟩)
abbrev s_is_whole : Stmt := topS 16
theorem sc_is_whole : FnScope ["thing"] ["thing"] (defScope s_is_whole) := ⟨rfl, rfl, rfl, by decide +kernel, rfl, by decide +kernel, by decide +kernel⟩
abbrev s_is_whole_within : Stmt := topS 17
theorem sc_is_whole_within : FnScope ["thing", "least", "most"] ["thing", "least", "most"] (defScope s_is_whole_within) := ⟨rfl, rfl, rfl, by decide +kernel, rfl, by decide +kernel, by decide +kernel⟩
abbrev s__numbers_of : Stmt := topS 27
theorem sc__numbers_of : FnScope ["things", "thing"] ["things"] (defScope s__numbers_of) := ⟨rfl, rfl, rfl, by decide +kernel, rfl, by decide +kernel, by decide +kernel⟩
abbrev s_is_row : Stmt := topS 20
theorem sc_is_row : FnScope ["thing", "numbers", "number"] ["thing"] (defScope s_is_row) := ⟨rfl, rfl, rfl, by decide +kernel, rfl, by decide +kernel, by decide +kernel⟩
abbrev s__is_word : Stmt := topS 45
theorem sc__is_word : FnScope ["thing"] ["thing"] (defScope s__is_word) := ⟨rfl, rfl, rfl, by decide +kernel, rfl, by decide +kernel, by decide +kernel⟩
abbrev s__is_places : Stmt := topS 46
theorem sc__is_places : FnScope ["thing"] ["thing"] (defScope s__is_places) := ⟨rfl, rfl, rfl, by decide +kernel, rfl, by decide +kernel, by decide +kernel⟩
abbrev s_is_shelf : Stmt := topS 35
theorem sc_is_shelf : FnScope ["thing"] ["thing"] (defScope s_is_shelf) := ⟨rfl, rfl, rfl, by decide +kernel, rfl, by decide +kernel, by decide +kernel⟩
abbrev s_is_line : Stmt := topS 36
theorem sc_is_line : FnScope ["thing", "shelf"] ["thing"] (defScope s_is_line) := ⟨rfl, rfl, rfl, by decide +kernel, rfl, by decide +kernel, by decide +kernel⟩
abbrev s__are_places : Stmt := topS 47
theorem sc__are_places : FnScope ["thing", "many", "places"] ["thing", "many"] (defScope s__are_places) := ⟨rfl, rfl, rfl, by decide +kernel, rfl, by decide +kernel, by decide +kernel⟩
abbrev s__are_counts : Stmt := topS 29
theorem sc__are_counts : FnScope ["thing", "many", "rank", "count"] ["thing", "many"] (defScope s__are_counts) := ⟨rfl, rfl, rfl, by decide +kernel, rfl, by decide +kernel, by decide +kernel⟩
abbrev s__is_on : Stmt := topS 63
theorem sc__is_on : FnScope ["step"] ["step"] (defScope s__is_on) := ⟨rfl, rfl, rfl, by decide +kernel, rfl, by decide +kernel, by decide +kernel⟩
abbrev s__is_letting : Stmt := topS 62
theorem sc__is_letting : FnScope ["row", "places", "letting", "standing", "put_on", "step"] ["row", "places", "letting"] (defScope s__is_letting) := ⟨rfl, rfl, rfl, by decide +kernel, rfl, by decide +kernel, by decide +kernel⟩
abbrev s_check_row : Stmt := topS 21
theorem sc_check_row : FnScope ["row"] ["row"] (defScope s_check_row) := ⟨rfl, rfl, rfl, by decide +kernel, rfl, by decide +kernel, by decide +kernel⟩
abbrev s_check_unmarked : Stmt := topS 22
theorem sc_check_unmarked : FnScope ["row"] ["row"] (defScope s_check_unmarked) := ⟨rfl, rfl, rfl, by decide +kernel, rfl, by decide +kernel, by decide +kernel⟩
abbrev s_check_places : Stmt := topS 43
theorem sc_check_places : FnScope ["places", "least"] ["places", "least"] (defScope s_check_places) := ⟨rfl, rfl, rfl, by decide +kernel, rfl, by decide +kernel, by decide +kernel⟩
abbrev s_row_of : Stmt := topS 26
theorem sc_row_of : FnScope ["numbers", "counts", "row", "number", "count"] ["numbers", "counts"] (defScope s_row_of) := ⟨rfl, rfl, rfl, by decide +kernel, rfl, by decide +kernel, by decide +kernel⟩
abbrev s_let_on : Stmt := topS 44
theorem sc_let_on : FnScope ["standing", "word", "most", "gone", "one"] ["standing", "word", "most"] (defScope s_let_on) := ⟨rfl, rfl, rfl, by decide +kernel, rfl, by decide +kernel, by decide +kernel⟩
abbrev s__let_past : Stmt := topS 49
theorem sc__let_past : FnScope ["numbers", "word", "places", "standing", "came", "number", "most"] ["numbers", "word", "places"] (defScope s__let_past) := ⟨rfl, rfl, rfl, by decide +kernel, rfl, by decide +kernel, by decide +kernel⟩
abbrev s_past_with : Stmt := topS 41
theorem sc_past_with : FnScope ["row", "word", "places"] ["row", "word", "places"] (defScope s_past_with) := ⟨rfl, rfl, rfl, by decide +kernel, rfl, by decide +kernel, by decide +kernel⟩
abbrev s_comes_out : Stmt := topS 59
theorem sc_comes_out : FnScope ["row", "places", "letting", "step"] ["row", "places", "letting"] (defScope s_comes_out) := ⟨rfl, rfl, rfl, by decide +kernel, rfl, by decide +kernel, by decide +kernel⟩
abbrev s__needed_at : Stmt := topS 80
theorem sc__needed_at : FnScope ["row", "place", "behind", "least", "number"] ["row", "place"] (defScope s__needed_at) := ⟨rfl, rfl, rfl, by decide +kernel, rfl, by decide +kernel, by decide +kernel⟩
abbrev s_needed : Stmt := topS 76
theorem sc_needed : FnScope ["row", "place"] ["row"] (defScope s_needed) := ⟨rfl, rfl, rfl, by decide +kernel, rfl, by decide +kernel, by decide +kernel⟩
abbrev s__put_at : Stmt := topS 85
theorem sc__put_at : FnScope ["row", "one", "other", "left"] ["row", "one", "other"] (defScope s__put_at) := ⟨rfl, rfl, rfl, by decide +kernel, rfl, by decide +kernel, by decide +kernel⟩
abbrev s_move : Stmt := topS 83
theorem sc_move : FnScope ["row", "one", "other", "last"] ["row", "one", "other"] (defScope s_move) := ⟨rfl, rfl, rfl, by decide +kernel, rfl, by decide +kernel, by decide +kernel⟩
abbrev s__greater_ahead : Stmt := topS 28
theorem sc__greater_ahead : FnScope ["numbers", "place", "number", "other"] ["numbers"] (defScope s__greater_ahead) := ⟨rfl, rfl, rfl, by decide +kernel, rfl, by decide +kernel, by decide +kernel⟩
abbrev s_counts : Stmt := topS 23
theorem sc_counts : FnScope ["row"] ["row"] (defScope s_counts) := ⟨rfl, rfl, rfl, by decide +kernel, rfl, by decide +kernel, by decide +kernel⟩
abbrev s__can_have : Stmt := topS 56
theorem sc__can_have : FnScope ["count", "rank", "places"] ["count", "rank", "places"] (defScope s__can_have) := ⟨rfl, rfl, rfl, by decide +kernel, rfl, by decide +kernel, by decide +kernel⟩
abbrev s__counts_ahead : Stmt := topS 55
theorem sc__counts_ahead : FnScope ["row", "places", "now", "rank", "number"] ["row", "places"] (defScope s__counts_ahead) := ⟨rfl, rfl, rfl, by decide +kernel, rfl, by decide +kernel, by decide +kernel⟩
abbrev s_how_many : Stmt := topS 52
theorem sc_how_many : FnScope ["row", "places", "rows", "can_have"] ["row", "places"] (defScope s_how_many) := ⟨rfl, rfl, rfl, by decide +kernel, rfl, by decide +kernel, by decide +kernel⟩
abbrev s_stretches : Stmt := topS 25
theorem sc_stretches : FnScope ["row", "told", "part"] ["row"] (defScope s_stretches) := ⟨rfl, rfl, rfl, by decide +kernel, rfl, by decide +kernel, by decide +kernel⟩
abbrev s_places : Stmt := topS 77
theorem sc_places : FnScope ["row"] ["row"] (defScope s_places) := ⟨rfl, rfl, rfl, by decide +kernel, rfl, by decide +kernel, by decide +kernel⟩
abbrev s_row_text : Stmt := topS 68
theorem sc_row_text : FnScope ["row"] ["row"] (defScope s_row_text) := ⟨rfl, rfl, rfl, by decide +kernel, rfl, by decide +kernel, by decide +kernel⟩
abbrev s_mended : Stmt := topS 84
theorem sc_mended : FnScope ["row", "best", "fewest", "one", "other", "then"] ["row"] (defScope s_mended) := ⟨rfl, rfl, rfl, by decide +kernel, rfl, by decide +kernel, by decide +kernel⟩
abbrev s_past : Stmt := topS 37
theorem sc_past : FnScope ["row", "shelf", "word", "places", "came", "stretch"] ["row", "shelf"] (defScope s_past) := ⟨rfl, rfl, rfl, by decide +kernel, rfl, by decide +kernel, by decide +kernel⟩
abbrev s_moved : Stmt := topS 39
theorem sc_moved : FnScope ["row", "shelf", "came", "place", "part"] ["row", "shelf"] (defScope s_moved) := ⟨rfl, rfl, rfl, by decide +kernel, rfl, by decide +kernel, by decide +kernel⟩
abbrev s_through : Stmt := topS 38
theorem sc_through : FnScope ["row", "line", "came", "shelf"] ["row", "line"] (defScope s_through) := ⟨rfl, rfl, rfl, by decide +kernel, rfl, by decide +kernel, by decide +kernel⟩
abbrev s_shelves : Stmt := topS 78
theorem sc_shelves : FnScope ["row", "places", "most"] ["row", "places"] (defScope s_shelves) := ⟨rfl, rfl, rfl, by decide +kernel, rfl, by decide +kernel, by decide +kernel⟩
abbrev s_own_way : Stmt := topS 60
theorem sc_own_way : FnScope ["row", "places", "way", "standing", "number"] ["row", "places"] (defScope s_own_way) := ⟨rfl, rfl, rfl, by decide +kernel, rfl, by decide +kernel, by decide +kernel⟩
abbrev s_ahead : Stmt := topS 53
theorem sc_ahead : FnScope ["row", "places", "many", "told", "can_have", "ones", "count"] ["row", "places"] (defScope s_ahead) := ⟨rfl, rfl, rfl, by decide +kernel, rfl, by decide +kernel, by decide +kernel⟩
abbrev s_can_come : Stmt := topS 54
theorem sc_can_come : FnScope ["row", "places"] ["row", "places"] (defScope s_can_come) := ⟨rfl, rfl, rfl, by decide +kernel, rfl, by decide +kernel, by decide +kernel⟩
abbrev s_gained : Stmt := topS 61
theorem sc_gained : FnScope ["row", "places", "letting", "came", "then", "number", "count"] ["row", "places", "letting"] (defScope s_gained) := ⟨rfl, rfl, rfl, by decide +kernel, rfl, by decide +kernel, by decide +kernel⟩
abbrev s_near_counts : Stmt := topS 24
theorem sc_near_counts : FnScope ["row", "stretch", "count"] ["row"] (defScope s_near_counts) := ⟨rfl, rfl, rfl, by decide +kernel, rfl, by decide +kernel, by decide +kernel⟩
abbrev s__check_shelf : Stmt := topS 48
theorem sc__check_shelf : FnScope ["shelf"] ["shelf"] (defScope s__check_shelf) := ⟨rfl, rfl, rfl, by decide +kernel, rfl, by decide +kernel, by decide +kernel⟩
abbrev s_check_line : Stmt := topS 42
theorem sc_check_line : FnScope ["line"] ["line"] (defScope s_check_line) := ⟨rfl, rfl, rfl, by decide +kernel, rfl, by decide +kernel, by decide +kernel⟩
abbrev s_merged : Stmt := topS 40
theorem sc_merged : FnScope ["line", "told", "word", "places"] ["line"] (defScope s_merged) := ⟨rfl, rfl, rfl, by decide +kernel, rfl, by decide +kernel, by decide +kernel⟩
abbrev s_line_text : Stmt := topS 69
theorem sc_line_text : FnScope ["line", "word", "places"] ["line"] (defScope s_line_text) := ⟨rfl, rfl, rfl, by decide +kernel, rfl, by decide +kernel, by decide +kernel⟩
abbrev s_sorted_by : Stmt := topS 79
theorem sc_sorted_by : FnScope ["many", "places", "rows", "rank"] ["many", "places"] (defScope s_sorted_by) := ⟨rfl, rfl, rfl, by decide +kernel, rfl, by decide +kernel, by decide +kernel⟩
abbrev s_Line___init__ : Stmt := inClass (topS 74) 0
theorem sc_Line___init__ : FnScope ["self", "shelves", "_"] ["self", "shelves"] (defScope s_Line___init__) := ⟨rfl, rfl, rfl, by decide +kernel, rfl, by decide +kernel, by decide +kernel⟩
abbrev s__law_ask : Stmt := topS 88
theorem sc__law_ask : FnScope ["_law_what", "_law_one", "_law_two", "_law_three", "_law_e"] ["_law_what", "_law_one", "_law_two", "_law_three"] (defScope s__law_ask) := ⟨rfl, rfl, rfl, by decide +kernel, rfl, by decide +kernel, by decide +kernel⟩
abbrev s__law_places_refused : Stmt := topS 89
theorem sc__law_places_refused : FnScope ["_law_row", "_law_bad_one", "_law_some", "_law_what"] ["_law_row"] (defScope s__law_places_refused) := ⟨rfl, rfl, rfl, by decide +kernel, rfl, by decide +kernel, by decide +kernel⟩
abbrev s__law_deeds_refused : Stmt := topS 90
theorem sc__law_deeds_refused : FnScope ["_law_row", "_law_some", "_law_bad_one", "_law_one", "_law_other", "_law_what"] ["_law_row"] (defScope s__law_deeds_refused) := ⟨rfl, rfl, rfl, by decide +kernel, rfl, by decide +kernel, by decide +kernel⟩
abbrev s__law_with_refused : Stmt := topS 91
theorem sc__law_with_refused : FnScope ["_law_row", "_law_bad_one", "_law_what"] ["_law_row"] (defScope s__law_with_refused) := ⟨rfl, rfl, rfl, by decide +kernel, rfl, by decide +kernel, by decide +kernel⟩
abbrev s_law : Stmt := topS 92
theorem sc_law : FnScope ["_law_script", "_law_town", "_law_row", "_law_some", "_law_bad_one", "_law_what"] ["_law_script"] (defScope s_law) := ⟨rfl, rfl, rfl, by decide +kernel, rfl, by decide +kernel, by decide +kernel⟩
abbrev s__law_which : Stmt := topS 87
theorem sc__law_which : FnScope ["_law_e", "_law_own"] ["_law_e"] (defScope s__law_which) := ⟨rfl, rfl, rfl, by decide +kernel, rfl, by decide +kernel, by decide +kernel⟩
/-! ### the head -/
def d_is_whole : He.DefD := ⟨("is_whole", none), "is_whole", "is_whole", defArgs s_is_whole, defBody s_is_whole, defScope s_is_whole, [], []⟩
def d_is_whole_within : He.DefD := ⟨("is_whole_within", none), "is_whole_within", "is_whole_within", defArgs s_is_whole_within, defBody s_is_whole_within, defScope s_is_whole_within, [], []⟩
def d__numbers_of : He.DefD := ⟨("_numbers_of", none), "_numbers_of", "_numbers_of", defArgs s__numbers_of, defBody s__numbers_of, defScope s__numbers_of, [], []⟩
def d_is_row : He.DefD := ⟨("is_row", none), "is_row", "is_row", defArgs s_is_row, defBody s_is_row, defScope s_is_row, [], []⟩
def d__is_word : He.DefD := ⟨("_is_word", none), "_is_word", "_is_word", defArgs s__is_word, defBody s__is_word, defScope s__is_word, [], []⟩
def d__is_places : He.DefD := ⟨("_is_places", none), "_is_places", "_is_places", defArgs s__is_places, defBody s__is_places, defScope s__is_places, [], []⟩
def d_is_shelf : He.DefD := ⟨("is_shelf", none), "is_shelf", "is_shelf", defArgs s_is_shelf, defBody s_is_shelf, defScope s_is_shelf, [], []⟩
def d_is_line : He.DefD := ⟨("is_line", none), "is_line", "is_line", defArgs s_is_line, defBody s_is_line, defScope s_is_line, [], []⟩
def d__are_places : He.DefD := ⟨("_are_places", none), "_are_places", "_are_places", defArgs s__are_places, defBody s__are_places, defScope s__are_places, [], []⟩
def d__are_counts : He.DefD := ⟨("_are_counts", none), "_are_counts", "_are_counts", defArgs s__are_counts, defBody s__are_counts, defScope s__are_counts, [], []⟩
def d__is_on : He.DefD := ⟨("_is_on", none), "_is_on", "_is_on", defArgs s__is_on, defBody s__is_on, defScope s__is_on, [], []⟩
def d__is_letting : He.DefD := ⟨("_is_letting", none), "_is_letting", "_is_letting", defArgs s__is_letting, defBody s__is_letting, defScope s__is_letting, [], []⟩
def d_check_row : He.DefD := ⟨("check_row", none), "check_row", "check_row", defArgs s_check_row, defBody s_check_row, defScope s_check_row, [], []⟩
def d_check_unmarked : He.DefD := ⟨("check_unmarked", none), "check_unmarked", "check_unmarked", defArgs s_check_unmarked, defBody s_check_unmarked, defScope s_check_unmarked, [], []⟩
def d_check_places : He.DefD := ⟨("check_places", none), "check_places", "check_places", defArgs s_check_places, defBody s_check_places, defScope s_check_places, [.int 0], []⟩
def d_row_of : He.DefD := ⟨("row_of", none), "row_of", "row_of", defArgs s_row_of, defBody s_row_of, defScope s_row_of, [], []⟩
def d_let_on : He.DefD := ⟨("let_on", none), "let_on", "let_on", defArgs s_let_on, defBody s_let_on, defScope s_let_on, [], []⟩
def d__let_past : He.DefD := ⟨("_let_past", none), "_let_past", "_let_past", defArgs s__let_past, defBody s__let_past, defScope s__let_past, [], []⟩
def d_past_with : He.DefD := ⟨("past_with", none), "past_with", "past_with", defArgs s_past_with, defBody s_past_with, defScope s_past_with, [], []⟩
def d_comes_out : He.DefD := ⟨("comes_out", none), "comes_out", "comes_out", defArgs s_comes_out, defBody s_comes_out, defScope s_comes_out, [], []⟩
def d__needed_at : He.DefD := ⟨("_needed_at", none), "_needed_at", "_needed_at", defArgs s__needed_at, defBody s__needed_at, defScope s__needed_at, [], []⟩
def d_needed : He.DefD := ⟨("needed", none), "needed", "needed", defArgs s_needed, defBody s_needed, defScope s_needed, [], []⟩
def d__put_at : He.DefD := ⟨("_put_at", none), "_put_at", "_put_at", defArgs s__put_at, defBody s__put_at, defScope s__put_at, [], []⟩
def d_move : He.DefD := ⟨("move", none), "move", "move", defArgs s_move, defBody s_move, defScope s_move, [], []⟩
def d__greater_ahead : He.DefD := ⟨("_greater_ahead", none), "_greater_ahead", "_greater_ahead", defArgs s__greater_ahead, defBody s__greater_ahead, defScope s__greater_ahead, [], []⟩
def d_counts : He.DefD := ⟨("counts", none), "counts", "counts", defArgs s_counts, defBody s_counts, defScope s_counts, [], []⟩
def d__can_have : He.DefD := ⟨("_can_have", none), "_can_have", "_can_have", defArgs s__can_have, defBody s__can_have, defScope s__can_have, [], []⟩
def d__counts_ahead : He.DefD := ⟨("_counts_ahead", none), "_counts_ahead", "_counts_ahead", defArgs s__counts_ahead, defBody s__counts_ahead, defScope s__counts_ahead, [], []⟩
def d_how_many : He.DefD := ⟨("how_many", none), "how_many", "how_many", defArgs s_how_many, defBody s_how_many, defScope s_how_many, [], []⟩
def d_stretches : He.DefD := ⟨("stretches", none), "stretches", "stretches", defArgs s_stretches, defBody s_stretches, defScope s_stretches, [], []⟩
def d_places : He.DefD := ⟨("places", none), "places", "places", defArgs s_places, defBody s_places, defScope s_places, [], []⟩
def d_row_text : He.DefD := ⟨("row_text", none), "row_text", "row_text", defArgs s_row_text, defBody s_row_text, defScope s_row_text, [], []⟩
def d_mended : He.DefD := ⟨("mended", none), "mended", "mended", defArgs s_mended, defBody s_mended, defScope s_mended, [], []⟩
def d_past : He.DefD := ⟨("past", none), "past", "past", defArgs s_past, defBody s_past, defScope s_past, [], []⟩
def d_moved : He.DefD := ⟨("moved", none), "moved", "moved", defArgs s_moved, defBody s_moved, defScope s_moved, [], []⟩
def d_through : He.DefD := ⟨("through", none), "through", "through", defArgs s_through, defBody s_through, defScope s_through, [], []⟩
def d_shelves : He.DefD := ⟨("shelves", none), "shelves", "shelves", defArgs s_shelves, defBody s_shelves, defScope s_shelves, [], []⟩
def d_own_way : He.DefD := ⟨("own_way", none), "own_way", "own_way", defArgs s_own_way, defBody s_own_way, defScope s_own_way, [], []⟩
def d_ahead : He.DefD := ⟨("ahead", none), "ahead", "ahead", defArgs s_ahead, defBody s_ahead, defScope s_ahead, [], []⟩
def d_can_come : He.DefD := ⟨("can_come", none), "can_come", "can_come", defArgs s_can_come, defBody s_can_come, defScope s_can_come, [], []⟩
def d_gained : He.DefD := ⟨("gained", none), "gained", "gained", defArgs s_gained, defBody s_gained, defScope s_gained, [], []⟩
def d_near_counts : He.DefD := ⟨("near_counts", none), "near_counts", "near_counts", defArgs s_near_counts, defBody s_near_counts, defScope s_near_counts, [], []⟩
def d__check_shelf : He.DefD := ⟨("_check_shelf", none), "_check_shelf", "_check_shelf", defArgs s__check_shelf, defBody s__check_shelf, defScope s__check_shelf, [], []⟩
def d_check_line : He.DefD := ⟨("check_line", none), "check_line", "check_line", defArgs s_check_line, defBody s_check_line, defScope s_check_line, [], []⟩
def d_merged : He.DefD := ⟨("merged", none), "merged", "merged", defArgs s_merged, defBody s_merged, defScope s_merged, [], []⟩
def d_line_text : He.DefD := ⟨("line_text", none), "line_text", "line_text", defArgs s_line_text, defBody s_line_text, defScope s_line_text, [], []⟩
def d_sorted_by : He.DefD := ⟨("sorted_by", none), "sorted_by", "sorted_by", defArgs s_sorted_by, defBody s_sorted_by, defScope s_sorted_by, [], []⟩
def d_Line___init__ : He.DefD := ⟨("Line", some "__init__"), "__init__", "Line.__init__", defArgs s_Line___init__, defBody s_Line___init__, defScope s_Line___init__, [], []⟩
def d__law_ask : He.DefD := ⟨("_law_ask", none), "_law_ask", "_law_ask", defArgs s__law_ask, defBody s__law_ask, defScope s__law_ask, [], []⟩
def d__law_places_refused : He.DefD := ⟨("_law_places_refused", none), "_law_places_refused", "_law_places_refused", defArgs s__law_places_refused, defBody s__law_places_refused, defScope s__law_places_refused, [], []⟩
def d__law_deeds_refused : He.DefD := ⟨("_law_deeds_refused", none), "_law_deeds_refused", "_law_deeds_refused", defArgs s__law_deeds_refused, defBody s__law_deeds_refused, defScope s__law_deeds_refused, [], []⟩
def d__law_with_refused : He.DefD := ⟨("_law_with_refused", none), "_law_with_refused", "_law_with_refused", defArgs s__law_with_refused, defBody s__law_with_refused, defScope s__law_with_refused, [], []⟩
def d_law : He.DefD := ⟨("law", none), "law", "law", defArgs s_law, defBody s_law, defScope s_law, [], []⟩
def d__law_which : He.DefD := ⟨("_law_which", none), "_law_which", "_law_which", defArgs s__law_which, defBody s__law_which, defScope s__law_which, [], []⟩
def fnL : List He.DefD := [d_is_whole, d_is_whole_within, d__numbers_of, d_is_row, d__is_word, d__is_places, d_is_shelf, d_is_line, d__are_places, d__are_counts, d__is_on, d__is_letting, d_check_row, d_check_unmarked, d_check_places, d_row_of, d_let_on, d__let_past, d_past_with, d_comes_out, d__needed_at, d_needed, d__put_at, d_move, d__greater_ahead, d_counts, d__can_have, d__counts_ahead, d_how_many, d_stretches, d_places, d_row_text, d_mended, d_past, d_moved, d_through, d_shelves, d_own_way, d_ahead, d_can_come, d_gained, d_near_counts, d__check_shelf, d_check_line, d_merged, d_line_text, d_sorted_by, d_Line___init__, d__law_ask, d__law_places_refused, d__law_deeds_refused, d__law_with_refused, d_law, d__law_which]
abbrev exL : List (PySem.W.Frag → Bool) := [He.klB "NoRow" 0 ["NoRow", "NoShelf", "NoLine", "NoPlaces", "Marked", "NoCounts", "NoLetting", "TooMany", "NoMove", "NoText", "NoNumber", "Nothing"], He.klB "NoShelf" 1 ["NoRow", "NoShelf", "NoLine", "NoPlaces", "Marked", "NoCounts", "NoLetting", "TooMany", "NoMove", "NoText", "NoNumber", "Nothing"], He.klB "NoLine" 2 ["NoRow", "NoShelf", "NoLine", "NoPlaces", "Marked", "NoCounts", "NoLetting", "TooMany", "NoMove", "NoText", "NoNumber", "Nothing"], He.klB "NoPlaces" 3 ["NoRow", "NoShelf", "NoLine", "NoPlaces", "Marked", "NoCounts", "NoLetting", "TooMany", "NoMove", "NoText", "NoNumber", "Nothing"], He.klB "Marked" 4 ["NoRow", "NoShelf", "NoLine", "NoPlaces", "Marked", "NoCounts", "NoLetting", "TooMany", "NoMove", "NoText", "NoNumber", "Nothing"], He.klB "NoCounts" 5 ["NoRow", "NoShelf", "NoLine", "NoPlaces", "Marked", "NoCounts", "NoLetting", "TooMany", "NoMove", "NoText", "NoNumber", "Nothing"], He.klB "NoLetting" 6 ["NoRow", "NoShelf", "NoLine", "NoPlaces", "Marked", "NoCounts", "NoLetting", "TooMany", "NoMove", "NoText", "NoNumber", "Nothing"], He.klB "TooMany" 7 ["NoRow", "NoShelf", "NoLine", "NoPlaces", "Marked", "NoCounts", "NoLetting", "TooMany", "NoMove", "NoText", "NoNumber", "Nothing"], He.klB "NoMove" 8 ["NoRow", "NoShelf", "NoLine", "NoPlaces", "Marked", "NoCounts", "NoLetting", "TooMany", "NoMove", "NoText", "NoNumber", "Nothing"], He.insB "Line"]
def faL : List He.Fa := [.glo "is_whole", .glo "is_whole_within", .glo "_numbers_of", .glo "is_row", .glo "_is_word", .glo "_is_places", .glo "is_shelf", .glo "is_line", .glo "_are_places", .glo "_are_counts", .glo "_is_on", .glo "_is_letting", .glo "check_row", .glo "check_unmarked", .glo "check_places", .glo "row_of", .glo "let_on", .glo "_let_past", .glo "past_with", .glo "comes_out", .glo "_needed_at", .glo "needed", .glo "_put_at", .glo "move", .glo "_greater_ahead", .glo "counts", .glo "_can_have", .glo "_counts_ahead", .glo "how_many", .glo "stretches", .glo "places", .glo "row_text", .glo "mended", .glo "past", .glo "moved", .glo "through", .glo "shelves", .glo "own_way", .glo "ahead", .glo "can_come", .glo "gained", .glo "near_counts", .glo "_check_shelf", .glo "check_line", .glo "merged", .glo "line_text", .glo "sorted_by", .glo "_law_ask", .glo "_law_places_refused", .glo "_law_deeds_refused", .glo "_law_with_refused", .glo "law", .glo "_law_which", .free "ValueError", .free "all", .free "bool", .free "dict", .free "enumerate", .free "int", .free "isinstance", .free "len", .free "list", .free "max", .free "min", .free "range", .free "set", .free "sorted", .free "str", .free "tuple", .free "zip", .str "HEAVY" "heavy", .str "LIGHT" "light", .int "MOST_PLACES" 9, .int "MOST_ROWS" 3000, .int "MOST_SHELVES" 8, .int "MOST_THINGS" 24, .str "ON" "on", .glo "Line", .cls "Line", .mkr "Line", .noat "Line" "_shelves", .noat "Line" "_standing", .noat "Line" "_out", .noat "Line" "_there", .noat "Line" "_done", .meth "Line" "__init__", .glo "NoRow", .glo "NoShelf", .glo "NoLine", .glo "NoPlaces", .glo "Marked", .glo "NoCounts", .glo "NoLetting", .glo "TooMany", .glo "NoMove", .glo "NoText", .glo "NoNumber", .glo "Nothing", .glo "ShelfError", .exc "NoRow", .exc "NoShelf", .exc "NoLine", .exc "NoPlaces", .exc "Marked", .exc "NoCounts", .exc "NoLetting", .exc "TooMany", .exc "NoMove", .exm "NoRow" "ShelfError" true, .exm "NoShelf" "ShelfError" true, .exm "NoLine" "ShelfError" true, .exm "NoPlaces" "ShelfError" true, .exm "Marked" "ShelfError" true, .exm "NoCounts" "ShelfError" true, .exm "NoLetting" "ShelfError" true, .exm "TooMany" "ShelfError" true, .exm "NoMove" "ShelfError" true]
abbrev RR : PySem.W.OpenRow := PySem.W.OpenLaw.row PySem.Challenge.rw_shelfrows_k10_rows_refused
abbrev hkL : PySem.W.Hook := He.hookX 4 faL fnL exL
def obL (s : PySem.W.SharedT) : He.AlD := He.obsXG 4 faL fnL exL (HandSHeadRun.getT s)
theorem obL_eq (s : PySem.W.SharedT) : obL s = hkL.obs s.abs := He.obsXG_eq (HandSHeadRun.getT_eq s)
def lo0 : List PySem.Str := ["_wall", "__name__", "ShelfError", "NoRow", "NoShelf", "NoLine", "NoPlaces", "Marked", "NoCounts", "NoLetting", "TooMany", "NoMove", "NoText", "NoNumber", "Nothing", "is_whole", "is_whole_within", "MOST_THINGS", "is_row", "check_row", "check_unmarked", "counts", "near_counts", "stretches", "row_of", "_numbers_of", "_greater_ahead", "_are_counts", "LIGHT", "HEAVY"]
def lo1 : List PySem.Str := ["MOST_PLACES", "MOST_SHELVES", "is_shelf", "is_line", "past", "through", "moved", "merged", "past_with", "check_line", "check_places", "let_on", "_is_word", "_is_places", "_are_places", "_check_shelf", "_let_past", "MOST_ROWS", "how_many", "ahead", "can_come", "_counts_ahead", "_can_have", "ON", "comes_out", "own_way", "gained", "_is_letting", "_is_on", "MARK"]
def lo2 : List PySem.Str := ["EMPTY_ROW", "NO_SHELVES", "row_text", "line_text", "text_of", "_number_text", "COME", "Line", "needed", "places", "shelves", "sorted_by", "_needed_at", "_places_to_sort", "move", "mended", "_put_at", "_law_which", "_law_ask", "_law_places_refused", "_law_deeds_refused", "_law_with_refused"]
def looseL : List PySem.Str := lo0 ++ lo1 ++ lo2
set_option maxHeartbeats 0 in
theorem runL (w : World) : HandSHeadRun.RunEq RR (PySem.W.view RR.prog [92]) hkL obL 10000 looseL w := by
  intro os
  kernel_rfl
end Sh
section
open PySem PySem.Spec PySem.W PySem.Calls PyProof.Rows
set_option maxHeartbeats 0 in
theorem Sh.endL (F : ∀ {w : PySem.World} {K : PySem.W.Frag} {h : PySem.Heap} {mg : PySem.Str → Option PySem.Value} {f : PySem.Addr}, K.In h → h.Ns PySem.mainGlobals mg → mg ("law" : PySem.Str) = some (.ref f) → He.SaysX Sh.faL Sh.fnL Sh.exL K →
    ∃ (fd : PySem.FuncData) (sp : L2.Sp), (∀ (s : PySem.Shared) (v : PySem.Value), BindsTo s fd ⟨[v], []⟩ [("_law_script", v)]) ∧ (∀ (H : L2.Hp) (a : PySem.Addr) (ns : List Int), ns.length ≤ 63 → L2.SqL K H a (ns.map L2.V.int) → sp [.ref a] H (fun v _ => v = .bl true) fun _ _ _ => False) ∧
      ∀ base : PySem.Heap, K.In base → base.Ns PySem.mainGlobals mg → L2.FnOk (PySem.Challenge.rw_shelfrows_k10_rows_refused).prog w K mg base L2.CX0 11 f fd ["_law_script"] sp) : PySem.Challenge.rw_shelfrows_k10_rows_refused.Holds := by
  w_on; o_law
  refine HandSHeadRun.head_any (r := OpenLaw.row PySem.Challenge.rw_shelfrows_k10_rows_refused) (q := view (OpenLaw.row PySem.Challenge.rw_shelfrows_k10_rows_refused).prog [92]) (H := Sh.hkL) (ob := Sh.obL) (M := 10000) (loose := Sh.looseL) (d := HandSHeadRun.topDef (OpenLaw.row PySem.Challenge.rw_shelfrows_k10_rows_refused).prog 92) (kwd := []) Sh.obL_eq
    (by kernel_rfl) (fun s => by kernel_rfl) Sh.runL (by kernel_rfl) (by kernel_rfl) (by kernel_rfl) (by rfl) (by first | assumption | decide +kernel) (by decide +kernel) ⟨rfl, rfl, rfl, rfl, rfl, by decide +kernel⟩ ?hw ?hc
  case hw => w_witness2
  case hc =>
    refine L2.walk_ofE (l := PySem.Challenge.rw_shelfrows_k10_rows_refused) (n := 63) (k := 11) (x := "_law_script") (CX := L2.CX0) rfl (by decide) (by kernel_rfl) ⟨rfl, by decide, by decide⟩ ?F (fun _ _ _ _ z => z)
    intro w mg fa h Y G hmg0
    obtain ⟨K, KX, c⟩ := Y
    have hmg : mg ("law" : PySem.Str) = some (.ref fa) := by
      have e : (HandSHeadRun.topDef (OpenLaw.row PySem.Challenge.rw_shelfrows_k10_rows_refused).prog 92).name = ("law" : PySem.Str) := by kernel_rfl
      rw [← e]
      exact hmg0
    obtain ⟨fd, sp, hb, hs, hF⟩ := F KX G hmg c
    exact ⟨K, fd, sp, KX, hb, fun H a ns hl _ hS => hs H a ns hl hS, hF⟩
end
set_option Elab.async false
set_option linter.all false
set_option maxRecDepth 100000
/-! tuples that are known as the objects they are (no dict of their own): made by displays, tuple(..), slices, + -/
namespace Lx
open PySem PySem.Spec PyProof.Rows L2
abbrev tupO (its : List Value) : Obj := { cls := .type "tuple", data := .seq its.toArray }
/-- a new tuple: locked as its own object -/
def NewT (H : Hp) (xs : List V) (Q : VK) : Prop := ∀ p o, o.dict = none → H p = none → Q (.ref p) (upd H p (.frz o (.tup xs)))
section
variable {X : Cx} {pins : List (Addr × Obj)} {σ : L2.St} {H : Hp} {s : Shared}
theorem newT_at {xs : List V} {its : List Value} {Q : VK} {tk : Nat} (I : Inv X pins σ H s) (hz : xs.length ≤ sizeLine) (r : Vals xs its) (q : NewT H xs Q) :
    EP X pins σ Q (.ref s.heap.objs.size) { s with heap := s.heap.push { cls := .type "tuple", data := .seq its.toArray }, toks := tk } :=
  ⟨.ref s.heap.objs.size, _, I.laid (t' := tk) (o := .frz (tupO its) (.tup xs)) (fun b ob q => Heap.get?_push_of_some _ q) (Nat.le_refl _) ⟨Heap.get?_push_size _ rfl, hz, its, r, IsTup.new _ _⟩, rfl, q _ _ rfl (I.hok.fresh (Nat.le_refl _))⟩
end
section
variable {X : Cx} {es : List Expr} {t : TA} {pos : Pos}
def tTupF (t : TA) : TE := fun σ H Q => t σ H fun xs H1 => xs.length ≤ sizeLine ∧ NewT H1 xs Q
theorem pe_tupF {x1} (h : PA X es t) : PE X (.Tuple es x1 pos) (tTupF t) := by
  refine ⟨fun pins s σ H Q I hq => ?_⟩
  refine wpAny_Tuple_spliced (thn (h.run pos pins s σ H _ I hq) fun us s1 ⟨xs, H1, I1, r, z, q⟩ => ⟨by rw [← r.length]; exact z, ?_⟩)
  exact newT_at (tk := s1.toks) I1 z r q
def rTupOfF (K : PySem.W.Frag) : List V → Hp → VK → Prop := fun xs H Q => ∃ p ys, xs = [.ref p] ∧ ((SqL K H p ys ∧ NewT H ys Q) ∨ (SqT K H p ys ∧ Q (.ref p) H))
theorem cl_tupleF : CallR X (.type "tuple") (rTupOfF X.K) := by
  intro pins s σ H xs us Q I r h
  obtain ⟨p, ys, rfl, h⟩ := h
  obtain ⟨u, rfl, rx⟩ := vals1 r
  cases rx
  rcases h with ⟨hq, q⟩ | ⟨hq, q⟩
  · obtain ⟨its, r', pl, hz⟩ := I.list hq
    have hlen := r'.length
    refine call_tuple_list pl.isList (fun h' kp => ?_) (by simp only [List.size_toArray] <;> omega)
    have I1 : Inv X pins σ H { s with heap := h' } := I.kept (t' := s.toks) kp
    exact newT_at (tk := s.toks) I1 hz r' q
  · obtain ⟨its, r', pl, hz⟩ := I.tuple hq
    exact call_tuple_same pl ⟨.ref p, H, I, rfl, q⟩
def rCatF (K : PySem.W.Frag) : R2 := fun x y H Q => ∃ a b xs ys, x = .ref a ∧ y = .ref b ∧ SqT K H a xs ∧ SqT K H b ys ∧ xs.length + ys.length ≤ sizeLine ∧
  (xs = [] → Q (.ref b) H) ∧ (xs ≠ [] → ys = [] → Q (.ref a) H) ∧ (xs ≠ [] → ys ≠ [] → NewT H (xs ++ ys) Q)
theorem op_catF : OpR X (binaryOp .Add) (rCatF X.K) := by
  intro pins s σ H x y v u Q I rx ry h
  obtain ⟨a, b, xs, ys, rfl, rfl, ha, hb, hz, q0, q1, q2⟩ := h
  cases rx
  cases ry
  obtain ⟨its, r1, p1, _⟩ := I.tuple ha
  obtain ⟨its2, r2, p2, _⟩ := I.tuple hb
  by_cases hx : xs = []
  · subst hx
    cases r1
    exact cat_tup0 p1 p2 ⟨.ref b, H, I, rfl, q0 rfl⟩
  · refine HT.cat_tup p1 p2 (fun z => hx (r1.nil_iff.mp z)) (fun z => ⟨.ref a, H, I, rfl, q1 hx (r2.nil_iff.mp z)⟩) (fun z => ?_) (by rw [← r1.length, ← r2.length]; exact hz)
    exact newT_at (tk := s.toks) I (by rw [List.length_append]; exact hz) (r1.append r2) (q2 hx fun w => z (r2.nil_iff.mpr w))
def rSlF (K : PySem.W.Frag) : V → Option Int → Option Int → Hp → VK → Prop := fun x lo hi H Q => ∃ a xs, x = .ref a ∧ SqT K H a xs ∧
  (HT.sIx xs.length 0 lo = 0 ∧ HT.sIx xs.length xs.length hi = xs.length → Q (.ref a) H) ∧ (¬ (HT.sIx xs.length 0 lo = 0 ∧ HT.sIx xs.length xs.length hi = xs.length) → NewT H (cutV xs lo hi) Q)
theorem sl_tupF : SlR X (rSlF X.K) := by
  intro pins s σ H x v vl vu lo hi sl Q I rx hs pl pu h
  obtain ⟨a, xs, rfl, hx, q1, q2⟩ := h
  cases rx
  obtain ⟨its, r, ht, hz⟩ := I.tuple hx
  have hlen : its.toArray.size = xs.length := by rw [List.size_toArray]; exact r.length.symm
  refine ⟨"tuple", _, PyProof.Rows.slot_tuple_getitem.lookup, ht.typeIs, ?_⟩
  by_cases hw : HT.sIx xs.length 0 lo = 0 ∧ HT.sIx xs.length xs.length hi = xs.length
  · exact getItem_tuple_whole ht hs pl pu (by rw [hlen]; exact hw) ⟨.ref a, H, I, rfl, q1 hw⟩
  · refine HT.getItem_tuple_cut ht hs pl pu (by rw [hlen]; exact hw) ?_ (by rw [hlen]; exact hz)
    rw [hlen]
    exact newT_at (its := (its.drop (HT.sIx xs.length 0 lo)).take (HT.sIx xs.length xs.length hi - HT.sIx xs.length 0 lo)) (tk := s.toks) I (Nat.le_trans (cutV_length xs lo hi) hz) ((r.drop (HT.sIx xs.length 0 lo)).take (HT.sIx xs.length xs.length hi - HT.sIx xs.length 0 lo)) (q2 hw)
end
/-! ### t.index(x), flat items -/
section
variable {X : Cx}
def rTIndex : V → V → Hp → VK → Prop := fun x y H Q => ∃ (a : Addr) (o : Obj) (ys : List V) (j : Nat) (z : V), x = .ref a ∧ o.dict = none ∧ H a = some (.frz o (.tup ys)) ∧ flatV y = true ∧ ys.all flatV = true ∧ ys[j]? = some z ∧ eqV z y = true ∧
  (∀ (m : Nat) (z' : V), m < j → ys[m]? = some z' → eqV z' y = false) ∧ Q (.int (j : Nat)) H
def tTIdx (ta tb : TE) : TE := fun σ H Q => ta σ H fun x H1 => (∃ a o ys, x = .ref a ∧ o.dict = none ∧ H1 a = some (.frz o (.tup ys))) ∧ tb σ H1 fun y H2 => ∃ z, [y] = [z] ∧ rTIndex x z H2 Q
end
end Lx
set_option Elab.async false
set_option linter.all false
set_option maxRecDepth 100000
set_option maxHeartbeats 1000000
/-! zip of two iterators of any kind -/
namespace Lx
open PySem
open PySem.Sem (wp)
/-- an iterator at i over what stands at l: its state by the number of items gone, and the step -/
structure Stp (prog : Program) (w : World) (i l : Addr) (St : Nat → Heap → Prop) (n : Nat) (at_ : Nat → Option Value) : Prop where
  mv : ∀ (k : Nat) (c : Addr) (h h' : Heap), St k h → Heap.ExtBut c h h' → i ≠ c → l ≠ c → St k h'
  obj : ∀ (k : Nat) (h : Heap), St k h → ∃ o, h.get? i = some o
  go : ∀ (A : Around) (E : Value → Shared → Prop) (s : Shared) (k : Nat) (x : Value) (Q : Value → Shared → Prop), St k s.heap → at_ k = some x → (∀ h', St (k + 1) h' → Heap.SameBut i s.heap h' → Q x { s with heap := h' }) → wpAny (model prog w) A (Builtin.SmallTypes.nextOf (.ref i)) Q E s
  stop : ∀ (A : Around) (E : Value → Shared → Prop) (s : Shared) (k : Nat) (Q : Value → Shared → Prop), A.handled = none → St k s.heap → at_ k = none → (∀ h' e, Heap.ExtBut i s.heap h' → (∃ o, h'.get? e = some o ∧ o.cls = .type "StopIteration") → E (.ref e) { s with heap := h' }) → wpAny (model prog w) A (Builtin.SmallTypes.nextOf (.ref i)) Q E s
theorem stp_t {prog : Program} {w : World} {i l : Addr} {xs : Array Value} : Stp prog w i l (fun k h => h.IsTupleIter i l k ∧ h.IsTuple l xs) xs.size (fun k => xs[k]?) where
  mv := fun k c h h' ⟨a, b⟩ e n1 n2 => ⟨a.extBut e n1, b.extBut e n2⟩
  obj := fun k h ⟨⟨o, e, _⟩, _⟩ => ⟨o, e⟩
  go := fun A E s k x Q ⟨a, b⟩ hx q => RZ.nextOf_tuple_item a b hx fun h' a' sb => q h' ⟨a', b.extBut sb.extBut (fun z => by
    subst z
    obtain ⟨o, e, c, _⟩ := a
    obtain ⟨o', e', c', _⟩ := b
    rw [e] at e'; cases e'
    rw [c] at c'
    injection c' with c'
    exact absurd c' (by decide))⟩ sb
  stop := fun A E s k Q hh ⟨a, b⟩ hx q => RZ.nextOf_tuple_end hh a b hx q
theorem stp_l {prog : Program} {w : World} {i l : Addr} {xs : Array Value} : Stp prog w i l (fun k h => h.IsListIter i l k ∧ h.IsList l xs) xs.size (fun k => xs[k]?) where
  mv := fun k c h h' ⟨a, b⟩ e n1 n2 => ⟨a.extBut e n1, b.extBut e n2⟩
  obj := fun k h ⟨⟨o, e, _⟩, _⟩ => ⟨o, e⟩
  go := fun A E s k x Q ⟨a, b⟩ hx q => wpAny_nextOf_list_item a b hx fun h' a' sb => q h' ⟨a', b.extBut sb.extBut (fun z => by
    subst z
    obtain ⟨o, e, c, _⟩ := a
    obtain ⟨o', e', c', _⟩ := b
    rw [e] at e'; cases e'
    rw [c] at c'
    injection c' with c'
    exact absurd c' (by decide))⟩ sb
  stop := fun A E s k Q hh ⟨a, b⟩ hx q => wpAny_nextOf_list_end hh a b hx q
section
variable {prog : Program} {w : World} {A : Around} {E : Value → Shared → Prop} {s : Shared} {z TI TO i1 i2 l1 l2 : Addr} {S1 S2 : Nat → Heap → Prop} {n1 n2 : Nat} {f1 f2 : Nat → Option Value}
theorem zipG_item {k1 k2 : Nat} {x y a b : Value} {Q : Value → Shared → Prop} (D : ZipApart z TI TO i1 i2 l1 l2) (T1 : Stp prog w i1 l1 S1 n1 f1) (T2 : Stp prog w i2 l2 S2 n2 f2) (hz : IsZip s.heap z TI TO .none) (hTI : IsPair s.heap TI (.ref i1) (.ref i2)) (hTO : IsPair s.heap TO a b) (h1 : S1 k1 s.heap) (h2 : S2 k2 s.heap) (hx : f1 k1 = some x) (hy : f2 k2 = some y)
    (hQ : ∀ h', IsZip h' z TI TO (rawInt s.heap.objs.size) → IsPair h' TO x y → S1 (k1 + 1) h' → S2 (k2 + 1) h' → IsPair h' s.heap.objs.size x y → h'.objs.size = s.heap.objs.size + 1 → (∀ c o, c ≠ z → c ≠ TO → c ≠ i1 → c ≠ i2 → s.heap.get? c = some o → h'.get? c = some o) → Q (.ref s.heap.objs.size) { s with heap := h' }) :
    wpAny (model prog w) A (Builtin.«zip.__next__» ⟨[.ref z], []⟩) (fun fin s' => ∃ v, fin = .done (.ret v) ∧ Q v s') E s := by
  show wpAny _ _ (field (.ref z) 2 >>= _) _ _ _; refine wpAny_bind (wpAny_field hz rfl (x := .bool false) rfl ?_)
  show wpAny _ _ (field (.ref z) 3 >>= _) _ _ _; refine wpAny_bind (wpAny_field hz rfl (x := .ref TI) rfl ?_); refine wpAny_bind (wpAny_seqItems hTI rfl ?_)
  show wpAny _ _ (Builtin.SmallTypes.ownedTupleIsFree (.ref z) >>= _) _ _ _; refine wpAny_bind ?_
  unfold Builtin.SmallTypes.ownedTupleIsFree; refine wpAny_bind (wpAny_field hz rfl (x := .none) rfl (wpAny_pure ?_))
  simp only [if_true]; refine wpAny_bind (wpAny_rule ?_); refine wpAny_bind (wpAny_field hz rfl (x := .ref TO) rfl ?_); refine wpAny_bind (wpAny_setField_rec hz (by simp) fun g1 hz1 hs1 => ?_)
  replace hz1 : IsZip g1 z TI TO .ellipsis := hz1
  refine wpAny_bind ?_; simp only [List.zipIdx_cons, List.zipIdx_nil, List.forIn_cons, List.forIn_nil]; refine wpAny_bind (wpAny_bind (wpAny_onRaise ?_))
  show wpAny _ _ (Builtin.SmallTypes.nextOf (.ref i1) >>= _) _ _ _
  refine wpAny_bind (T1.go _ _ _ k1 x _ (T1.mv _ _ _ _ h1 hs1.extBut D.i1z D.l1z) hx fun g2 q1 hs2 => wpAny_pure ?_)
  have o2 : IsPair g2 TO a b := hs2.extBut _ _ D.TOi1 (hs1.extBut _ _ D.TOz hTO)
  refine wpAny_bind (wpAny_seqItems o2 rfl ?_); refine wpAny_bind (wpAny_updateSeq_pair o2 fun g3 o3 hs3 => ?_)
  replace o3 : IsPair g3 TO x b := o3
  refine wpAny_bind (wpAny_letGo (wpAny_pure ?_)); refine wpAny_bind (wpAny_bind (wpAny_onRaise ?_))
  show wpAny _ _ (Builtin.SmallTypes.nextOf (.ref i2) >>= _) _ _ _
  refine wpAny_bind (T2.go _ _ _ k2 y _ (T2.mv _ _ _ _ (T2.mv _ _ _ _ (T2.mv _ _ _ _ h2 hs1.extBut D.i2z D.l2z) hs2.extBut D.i12.symm D.l2i1) hs3.extBut D.TOi2.symm D.l2TO) hy fun g4 q2 hs4 => wpAny_pure ?_)
  have o4 : IsPair g4 TO x b := hs4.extBut _ _ D.TOi2 o3
  refine wpAny_bind (wpAny_seqItems o4 rfl ?_); refine wpAny_bind (wpAny_updateSeq_pair o4 fun g5 o5 hs5 => ?_)
  replace o5 : IsPair g5 TO x y := o5
  refine wpAny_bind (wpAny_letGo (wpAny_pure (wpAny_pure ?_))); refine wpAny_bind (wpAny_seqItems o5 rfl ?_); refine wpAny_bind (wpAny_newTuple ?_)
  have sz : g5.objs.size = s.heap.objs.size := by rw [hs5.1, hs4.1, hs3.1, hs2.1, hs1.1]
  have z5 : IsZip g5 z TI TO .ellipsis := hs5.extBut _ _ D.TOz.symm (hs4.extBut _ _ D.i2z.symm (hs3.extBut _ _ D.TOz.symm (hs2.extBut _ _ D.i1z.symm hz1)))
  have k5 : ∀ c o, c ≠ z → c ≠ TO → c ≠ i1 → c ≠ i2 → s.heap.get? c = some o → g5.get? c = some o := fun c o c1 c2 c3 c4 e => hs5.extBut _ _ c2 (hs4.extBut _ _ c4 (hs3.extBut _ _ c2 (hs2.extBut _ _ c3 (hs1.extBut _ _ c1 e))))
  have a1 : S1 (k1 + 1) g5 := T1.mv _ _ _ _ (T1.mv _ _ _ _ (T1.mv _ _ _ _ q1 hs3.extBut D.TOi1.symm D.l1TO) hs4.extBut D.i12 D.l1i2) hs5.extBut D.TOi1.symm D.l1TO
  have a2 : S2 (k2 + 1) g5 := T2.mv _ _ _ _ q2 hs5.extBut D.TOi2.symm D.l2TO
  have zlt : z < g5.objs.size := Heap.lt_size z5
  show wpAny _ _ (Builtin.SmallTypes.ownedTupleHandOut (.ref z) (.ref g5.objs.size) >>= _) _ _ _
  refine wpAny_bind ?_; unfold Builtin.SmallTypes.ownedTupleHandOut
  have pushed : Heap.ExtBut z g5 (g5.push { cls := .type "tuple", data := .seq #[x, y] }) := fun c o _ e => Heap.get?_push_of_some _ e
  have z6 : IsZip (g5.push { cls := .type "tuple", data := .seq #[x, y] }) z TI TO .ellipsis := Heap.get?_push_of_some _ z5
  refine wpAny_bind (wpAny_setField_rec z6 (by simp) fun g7 z7 hs7 => ?_)
  replace z7 : IsZip g7 z TI TO (rawInt g5.objs.size) := z7
  refine wpAny_setField_rec z7 (by simp) fun g8 z8 hs8 => ?_
  replace z8 : IsZip g8 z TI TO (rawInt g5.objs.size) := z8
  have up : ∀ c o, c ≠ z → g5.get? c = some o → g8.get? c = some o := fun c o c1 e => hs8.extBut _ _ c1 (hs7.extBut _ _ c1 (pushed _ _ c1 e))
  have b1 : S1 (k1 + 1) g8 := T1.mv _ z _ _ a1 (fun c o n e => up c o n e) D.i1z D.l1z
  have b2 : S2 (k2 + 1) g8 := T2.mv _ z _ _ a2 (fun c o n e => up c o n e) D.i2z D.l2z
  have t8 : IsPair g8 g5.objs.size x y := hs8.extBut _ _ (Nat.ne_of_gt zlt) (hs7.extBut _ _ (Nat.ne_of_gt zlt) (Heap.get?_push_size _ rfl))
  have s8 : g8.objs.size = g5.objs.size + 1 := by rw [hs8.1, hs7.1, Heap.size_push]
  rw [sz] at z8 t8 s8
  refine wpAny_pure ⟨_, rfl, ?_⟩; show Q (.ref g5.objs.size) _; rw [sz]
  exact hQ g8 z8 (up _ _ D.TOz o5) b1 b2 t8 s8 fun c o c1 c2 c3 c4 e => up c o c1 (k5 c o c1 c2 c3 c4 e)
theorem zipG_end {k1 k2 : Nat} {a b : Value} {Q : Fin → Shared → Prop} (hh : A.handled = none) (D : ZipApart z TI TO i1 i2 l1 l2) (T1 : Stp prog w i1 l1 S1 n1 f1) (T2 : Stp prog w i2 l2 S2 n2 f2) (hz : IsZip s.heap z TI TO .none) (hTI : IsPair s.heap TI (.ref i1) (.ref i2)) (hTO : IsPair s.heap TO a b) (h1 : S1 k1 s.heap) (h2 : S2 k2 s.heap) (hend : f1 k1 = none ∨ f2 k2 = none)
    (hE : ∀ h' e, (∀ c o, c ≠ z → c ≠ TO → c ≠ i1 → c ≠ i2 → s.heap.get? c = some o → h'.get? c = some o) → (∃ o, h'.get? e = some o ∧ o.cls = .type "StopIteration") → E (.ref e) { s with heap := h' }) : wpAny (model prog w) A (Builtin.«zip.__next__» ⟨[.ref z], []⟩) Q E s := by
  show wpAny _ _ (field (.ref z) 2 >>= _) _ _ _; refine wpAny_bind (wpAny_field hz rfl (x := .bool false) rfl ?_)
  show wpAny _ _ (field (.ref z) 3 >>= _) _ _ _; refine wpAny_bind (wpAny_field hz rfl (x := .ref TI) rfl ?_); refine wpAny_bind (wpAny_seqItems hTI rfl ?_)
  show wpAny _ _ (Builtin.SmallTypes.ownedTupleIsFree (.ref z) >>= _) _ _ _; refine wpAny_bind ?_
  unfold Builtin.SmallTypes.ownedTupleIsFree; refine wpAny_bind (wpAny_field hz rfl (x := .none) rfl (wpAny_pure ?_))
  simp only [if_true]; refine wpAny_bind (wpAny_rule ?_); refine wpAny_bind (wpAny_field hz rfl (x := .ref TO) rfl ?_); refine wpAny_bind (wpAny_setField_rec hz (by simp) fun g1 hz1 hs1 => ?_)
  replace hz1 : IsZip g1 z TI TO .ellipsis := hz1
  refine wpAny_bind ?_; simp only [List.zipIdx_cons, List.zipIdx_nil, List.forIn_cons, List.forIn_nil]; refine wpAny_bind (wpAny_bind (wpAny_onRaise ?_))
  show wpAny _ _ (Builtin.SmallTypes.nextOf (.ref i1) >>= _) _ _ _
  have p1 := T1.mv _ _ _ _ h1 hs1.extBut D.i1z D.l1z
  cases hx : f1 k1 with
  | none =>
    refine wpAny_bind (T1.stop _ _ _ k1 _ hh p1 hx fun g2 e hs2 ⟨oe, e1, e2⟩ => ?_)
    have z2 : IsZip g2 z TI TO .ellipsis := hs2 _ _ D.i1z.symm hz1
    have ez : e ≠ z := fun x => by subst x; rw [z2] at e1; cases e1; simp at e2
    exact wpAny_setField_rec z2 (by simp) fun g3 _ hs3 => hE g3 e (fun c o c1 _ c3 _ x => hs3.extBut _ _ c1 (hs2 _ _ c3 (hs1.extBut _ _ c1 x))) ⟨oe, hs3.extBut _ _ ez e1, e2⟩
  | some x =>
    have hy : f2 k2 = none := hend.resolve_left (by rw [hx]; exact fun z => nomatch z)
    refine wpAny_bind (T1.go _ _ _ k1 x _ p1 hx fun g2 q1 hs2 => wpAny_pure ?_)
    have o2 : IsPair g2 TO a b := hs2.extBut _ _ D.TOi1 (hs1.extBut _ _ D.TOz hTO)
    refine wpAny_bind (wpAny_seqItems o2 rfl ?_); refine wpAny_bind (wpAny_updateSeq_pair o2 fun g3 o3 hs3 => ?_); refine wpAny_bind (wpAny_letGo (wpAny_pure ?_)); refine wpAny_bind (wpAny_bind (wpAny_onRaise ?_))
    show wpAny _ _ (Builtin.SmallTypes.nextOf (.ref i2) >>= _) _ _ _
    refine wpAny_bind (T2.stop _ _ _ k2 _ hh (T2.mv _ _ _ _ (T2.mv _ _ _ _ (T2.mv _ _ _ _ h2 hs1.extBut D.i2z D.l2z) hs2.extBut D.i12.symm D.l2i1) hs3.extBut D.TOi2.symm D.l2TO) hy fun g4 e hs4 ⟨oe, e1, e2⟩ => ?_)
    have z4 : IsZip g4 z TI TO .ellipsis := hs4 _ _ D.i2z.symm (hs3.extBut _ _ D.TOz.symm (hs2.extBut _ _ D.i1z.symm hz1))
    have ez : e ≠ z := fun x => by subst x; rw [z4] at e1; cases e1; simp at e2
    exact wpAny_setField_rec z4 (by simp) fun g5 _ hs5 => hE g5 e (fun c o c1 c2 c3 c4 x => hs5.extBut _ _ c1 (hs4 _ _ c4 (hs3.extBut _ _ c2 (hs2.extBut _ _ c3 (hs1.extBut _ _ c1 x))))) ⟨oe, hs5.extBut _ _ ez e1, e2⟩
end
end Lx
namespace Lx
open PySem PySem.Spec PyProof.Rows
open PySem.Sem (wp)
abbrev zpO (T I : Addr) : Obj := { cls := .type "zip", data := .fields #[.none, .bool false, .bool false, .ref T, .ref I] }
abbrev prO (x y : Value) : Obj := { cls := .type "tuple", data := .seq #[x, y] }
abbrev zg2 (h : Heap) (o1 o2 : Obj) : Heap := (h.push o1).push o2
abbrev zg3 (h : Heap) (o1 o2 : Obj) : Heap := (zg2 h o1 o2).push (prO (.ref h.objs.size) (.ref (h.push o1).objs.size))
abbrev zg4 (h : Heap) (o1 o2 : Obj) : Heap := (zg3 h o1 o2).push (prO .none .none)
abbrev zg5 (h : Heap) (o1 o2 : Obj) : Heap := (zg4 h o1 o2).push (zpO (zg2 h o1 o2).objs.size (zg3 h o1 o2).objs.size)
theorem meets_zipG {v1 v2 : Value} {o1 o2 : Obj} {H1 H2 : Heap → Prop} (B1 : Begins v1 o1 H1) (B2 : Begins v2 o2 H2) (up : ∀ h, H2 h → H2 (h.push o1)) :
    Meets (Builtin.«zip.__new__» ⟨[.type "zip", v1, v2], []⟩) (fun _ R s => H1 s.heap ∧ H2 s.heap ∧ R (.ok (.ret (.ref (zg4 s.heap o1 o2).objs.size))) { s with heap := zg5 s.heap o1 o2 }) :=
  .of_wp fun prog w A R s h => by
    obtain ⟨hp, g, d, tk, os⟩ := s; obtain ⟨h1, h2, h⟩ := h
    have hsub := sub_zip
    have q1 : ∀ {A' : Around} {E : Value → Shared → Prop} {Q : Value → Shared → Prop}, Q (.ref hp.objs.size) ⟨hp.push o1, g, d, tk, os⟩ → wpAny (model prog w) A' (pyIter v1) Q E ⟨hp, g, d, tk, os⟩ := fun q => B1.iter prog w _ _ ⟨hp, g, d, tk, os⟩ _ h1 q
    have q2 : ∀ {A' : Around} {E : Value → Shared → Prop} {Q : Value → Shared → Prop}, Q (.ref (hp.push o1).objs.size) ⟨(hp.push o1).push o2, g, d, tk, os⟩ → wpAny (model prog w) A' (pyIter v2) Q E ⟨hp.push o1, g, d, tk, os⟩ := fun q => B2.iter prog w _ _ ⟨hp.push o1, g, d, tk, os⟩ _ (up _ h2) q
    wp_walk using q1, q2
    exact ⟨_, rfl, h⟩
theorem call_zipG {prog : Program} {w : World} {A : Around} {E : Value → Shared → Prop} {s : Shared} {v1 v2 : Value} {o1 o2 : Obj} {H1 H2 : Heap → Prop} {Q : Value → Shared → Prop} (B1 : Begins v1 o1 H1) (B2 : Begins v2 o2 H2) (up : ∀ h, H2 h → H2 (h.push o1)) (h1 : H1 s.heap) (h2 : H2 s.heap)
    (h : ∀ h', IsZip h' (s.heap.objs.size + 4) (s.heap.objs.size + 2) (s.heap.objs.size + 3) .none → IsPair h' (s.heap.objs.size + 2) (.ref s.heap.objs.size) (.ref (s.heap.objs.size + 1)) → IsPair h' (s.heap.objs.size + 3) .none .none → h'.get? s.heap.objs.size = some o1 → h'.get? (s.heap.objs.size + 1) = some o2 → (∀ c o, s.heap.get? c = some o → h'.get? c = some o) → Q (.ref (s.heap.objs.size + 4)) { s with heap := h' }) :
    wpAny (model prog w) A (call (.type "zip") [v1, v2]) Q E s := by
  refine callType_new F.called_zip (by decide) (F.typeCall_zip_2 _ _) (F.newCall_zip_2 _ _) (fun obj => F.args_object_init_3 obj _ _) F.entry_zip_new (meets_zipG B1 B2 up) ⟨h1, h2, ?_⟩
  have e1 : (s.heap.push o1).objs.size = s.heap.objs.size + 1 := Heap.size_push ..
  have e2 : (zg2 s.heap o1 o2).objs.size = s.heap.objs.size + 2 := by rw [Heap.size_push, e1]
  have e3 : (zg3 s.heap o1 o2).objs.size = s.heap.objs.size + 3 := by rw [Heap.size_push, e2]
  have e4 : (zg4 s.heap o1 o2).objs.size = s.heap.objs.size + 4 := by rw [Heap.size_push, e3]
  have u : ∀ {h : Heap} {o : Obj} {c : Addr} {p : Obj}, h.get? c = some p → (h.push o).get? c = some p := fun x => Heap.get?_push_of_some _ x
  have g5 : (zg5 s.heap o1 o2).get? (zg4 s.heap o1 o2).objs.size = some (zpO (zg2 s.heap o1 o2).objs.size (zg3 s.heap o1 o2).objs.size) := Heap.get?_push_size _ rfl
  have g4 : (zg5 s.heap o1 o2).get? (zg3 s.heap o1 o2).objs.size = some (prO .none .none) := u (Heap.get?_push_size _ rfl)
  have g3 : (zg5 s.heap o1 o2).get? (zg2 s.heap o1 o2).objs.size = some (prO (.ref s.heap.objs.size) (.ref (s.heap.push o1).objs.size)) := u (u (Heap.get?_push_size _ rfl))
  have g2 : (zg5 s.heap o1 o2).get? (s.heap.push o1).objs.size = some o2 := u (u (u (Heap.get?_push_size _ B2.free)))
  have g1 : (zg5 s.heap o1 o2).get? s.heap.objs.size = some o1 := u (u (u (u (Heap.get?_push_size _ B1.free))))
  show _ ∧ _
  rw [e2, e3, e4] at g5; rw [e1, e2] at g3; rw [e3] at g4; rw [e1] at g2; rw [e4]
  exact ⟨⟨_, g5, rfl⟩, h _ g5 g3 g4 g1 g2 fun c o x => u (u (u (u (u x))))⟩
theorem pyNext_zipG_item {prog : Program} {w : World} {A : Around} {E : Value → Shared → Prop} {s : Shared} {z TI TO i1 i2 l1 l2 : Addr} {S1 S2 : Nat → Heap → Prop} {n1 n2 : Nat} {f1 f2 : Nat → Option Value} {k1 k2 : Nat} {x y a b : Value} {Q : Option Value → Shared → Prop} (D : ZipApart z TI TO i1 i2 l1 l2) (T1 : Stp prog w i1 l1 S1 n1 f1) (T2 : Stp prog w i2 l2 S2 n2 f2) (hz : IsZip s.heap z TI TO .none) (hTI : IsPair s.heap TI (.ref i1) (.ref i2)) (hTO : IsPair s.heap TO a b) (h1 : S1 k1 s.heap) (h2 : S2 k2 s.heap) (hx : f1 k1 = some x) (hy : f2 k2 = some y)
    (hQ : ∀ h', IsZip h' z TI TO (rawInt s.heap.objs.size) → IsPair h' TO x y → S1 (k1 + 1) h' → S2 (k2 + 1) h' → IsPair h' s.heap.objs.size x y → h'.objs.size = s.heap.objs.size + 1 → (∀ c o, c ≠ z → c ≠ TO → c ≠ i1 → c ≠ i2 → s.heap.get? c = some o → h'.get? c = some o) → Q (some (.ref s.heap.objs.size)) { s with heap := h' }) : wpAny (model prog w) A (pyNext (.ref z)) Q E s := by
  have hT : s.TypeIs (.ref z) "zip" := ⟨_, hz, rfl⟩
  unfold pyNext
  exact wpAny_bind (wpAny_attempt (wpAny_callSpecial?_slot (name := Str.ofString "__next__") hT F.slot_zip_next (wpAny_call_entry F.slot_zip_next hT F.entry_zip_next (zipG_item D T1 T2 hz hTI hTO h1 h2 hx hy fun h' a1 a2 a3 a4 a5 a6 a7 => wpAny_pure (hQ h' a1 a2 a3 a4 a5 a6 a7)) (F.args_zip_next_1 _))))
theorem pyNext_zipG_end {prog : Program} {w : World} {A : Around} {E : Value → Shared → Prop} {s : Shared} {z TI TO i1 i2 l1 l2 : Addr} {S1 S2 : Nat → Heap → Prop} {n1 n2 : Nat} {f1 f2 : Nat → Option Value} {k1 k2 : Nat} {a b : Value} {Q : Option Value → Shared → Prop} (hh : A.handled = none) (D : ZipApart z TI TO i1 i2 l1 l2) (T1 : Stp prog w i1 l1 S1 n1 f1) (T2 : Stp prog w i2 l2 S2 n2 f2) (hz : IsZip s.heap z TI TO .none) (hTI : IsPair s.heap TI (.ref i1) (.ref i2)) (hTO : IsPair s.heap TO a b) (h1 : S1 k1 s.heap) (h2 : S2 k2 s.heap) (hend : f1 k1 = none ∨ f2 k2 = none)
    (hQ : ∀ h', (∀ c o, c ≠ z → c ≠ TO → c ≠ i1 → c ≠ i2 → s.heap.get? c = some o → h'.get? c = some o) → Q none { s with heap := h' }) : wpAny (model prog w) A (pyNext (.ref z)) Q E s := by
  have hT : s.TypeIs (.ref z) "zip" := ⟨_, hz, rfl⟩
  unfold pyNext
  refine wpAny_bind (wpAny_attempt (wpAny_callSpecial?_slot (name := Str.ofString "__next__") hT F.slot_zip_next (wpAny_call_entry F.slot_zip_next hT F.entry_zip_next (zipG_end hh D T1 T2 hz hTI hTO h1 h2 hend fun h' e hk ⟨o, ho, hc⟩ => ?_) (F.args_zip_next_1 _))))
  exact wpAny_bind (wpAny_isInstance (T := "StopIteration") (b := true) ⟨o, ho, hc⟩ isSubtype_stop (wpAny_pure (hQ _ hk)))
end Lx
set_option Elab.async false
set_option linter.all false
set_option maxRecDepth 100000
/-! values as data over the hand layer: cells, temporaries, the states that bear them -/
namespace Ld
open PySem PySem.Spec PyProof.Rows L2 Lx
abbrev Dat := PyData
/-- a resource at an address: what must hold of its places, which are its own -/
structure Res where
  lent : Bool
  holds : Hp → Hp → Addr → (Addr → Prop) → Prop
  dom : ∀ {B H a F x}, holds B H a F → F x → H x ≠ none
  frame : ∀ {B B' H H' a F}, holds B H a F → Same B B' → (∀ x, F x → H' x = H x) → holds B' H' a F
/-- what a name's slot is known to hold: nothing known | data that never changes | a list of this def's own | a list that a caller lent -/
inductive Cell where
  | no | dt (d : Dat) | ow (ds : List Dat) | ln (ds : List Dat) | sc (ns : List Int) | ob (p : HO) | li (R : Res)
/-- a value under way: data | a new list | what slot i holds -/
inductive Tmp where
  | dt (d : Dat) | fr (ds : List Dat) | br (i : Nat) | sc (ns : List Int) | ob (p : HO) | li (R : Res)
structure Hs where
  b : Hp
  h : Hp
structure Gr (L : Addr → Prop) (S S' : Hs) : Prop where
  b : Same S.b S'.b
  h : ∀ a o, ¬ L a → S.h a = some o → S'.h a = some o
  own : ∀ a, S.b a = none → S.h a ≠ none → S'.b a = none
  dom : ∀ a, S.h a ≠ none → S'.h a ≠ none
abbrev L0 : Addr → Prop := fun _ => False
theorem Gr.refl (L : Addr → Prop) (S : Hs) : Gr L S S := ⟨Same.refl _, fun _ _ _ h => h, fun _ h _ => h, fun _ h => h⟩
theorem Gr.trans {L L' : Addr → Prop} {A B C : Hs} (x : Gr L A B) (y : Gr L' B C) (hl : ∀ a, L' a → L a ∨ A.h a = none) : Gr L A C :=
  ⟨x.b.trans y.b, fun a o n e => y.h a o (fun z => (hl a z).elim n fun q => by rw [q] at e; cases e) (x.h a o n e), fun a e n => y.own a (x.own a e n) (x.dom a n), fun a n => y.dom a (x.dom a n)⟩
theorem Gr.trans0 {L : Addr → Prop} {A B C : Hs} (x : Gr L A B) (y : Gr L0 B C) : Gr L A C := x.trans y fun _ z => z.elim
section
variable {K : PySem.W.Frag} {H H' : Hp}
mutual
/-- data as it stands in the heap: lists and tuples that are tracked -/
inductive Dq (H : Hp) : V → Dat → Prop
  | non : Dq H .non .none
  | bl (b : Bool) : Dq H (.bl b) (.bool b)
  | int (i : Int) : Dq H (.int i) (.int i)
  | str (x : Str) : Dq H (.str x) (.str x)
  | lst {a : Addr} {xs : List V} {ds : List Dat} : H a = some (.lst xs) → DqAll H xs ds → Dq H (.ref a) (.list ds)
  | tup {a : Addr} {o : Obj} {xs : List V} {ds : List Dat} : o.dict = none → H a = some (.frz o (.tup xs)) → DqAll H xs ds → Dq H (.ref a) (.tuple ds)
inductive DqAll (H : Hp) : List V → List Dat → Prop
  | nil : DqAll H [] []
  | cons {v : V} {vs : List V} {d : Dat} {ds : List Dat} : Dq H v d → DqAll H vs ds → DqAll H (v :: vs) (d :: ds)
end
mutual
theorem dp_mono (e : Same H H') : ∀ (d : Dat) (v : V), Dq H v d → Dq H' v d
  | .none, _, h => by cases h; exact .non
  | .bool b, _, h => by cases h; exact .bl b
  | .int i, _, h => by cases h; exact .int i
  | .str x, _, h => by cases h; exact .str x
  | .list ds, _, h => by
    cases h with
    | lst h1 h2 => exact .lst (e _ _ h1) (dpa_mono e ds _ h2)
  | .tuple ds, _, h => by
    cases h with
    | tup hd h1 h2 => exact .tup hd (e _ _ h1) (dpa_mono e ds _ h2)
  | .dict _, _, h => by cases h
theorem dpa_mono (e : Same H H') : ∀ (ds : List Dat) (vs : List V), DqAll H vs ds → DqAll H' vs ds
  | [], _, h => by cases h; exact .nil
  | d :: ds, _, h => by
    cases h with
    | cons h1 h2 => exact .cons (dp_mono e d _ h1) (dpa_mono e ds _ h2)
end
mutual
theorem dq_dp : ∀ (d : Dat) (v : V), Dq H v d → Dp K H v d
  | .none, _, h => by cases h; exact .non
  | .bool b, _, h => by cases h; exact .bl b
  | .int i, _, h => by cases h; exact .int i
  | .str x, _, h => by cases h; exact .str x
  | .list ds, _, h => by
    cases h with
    | lst h1 h2 => exact .lst (.inl (.inl h1)) (dqa_dpa ds _ h2)
  | .tuple ds, _, h => by
    cases h with
    | tup hd h1 h2 => exact .tup (.inl (.inr ⟨_, h1⟩)) (dqa_dpa ds _ h2)
  | .dict _, _, h => by cases h
theorem dqa_dpa : ∀ (ds : List Dat) (vs : List V), DqAll H vs ds → DpAll K H vs ds
  | [], _, h => by cases h; exact .nil
  | d :: ds, _, h => by
    cases h with
    | cons h1 h2 => exact .cons (dq_dp d _ h1) (dqa_dpa ds _ h2)
end
end
section
variable {K : PySem.W.Frag} {H H' : Hp}
theorem DqAll.len : ∀ {vs : List V} {ds : List Dat}, DqAll H vs ds → vs.length = ds.length
  | _, _, .nil => rfl
  | _, _, .cons _ h => by rw [List.length_cons, List.length_cons, DqAll.len h]
theorem DqAll.get : ∀ {vs : List V} {ds : List Dat} {i : Nat} {d : Dat}, DqAll H vs ds → ds[i]? = some d → ∃ v, vs[i]? = some v ∧ Dq H v d
  | _, _, _, _, .nil, h => by simp at h
  | _, _, 0, _, .cons h1 _, h => by cases h; exact ⟨_, rfl, h1⟩
  | _, _, i + 1, _, .cons _ h2, h => DqAll.get (i := i) h2 h
theorem DqAll.getV : ∀ {vs : List V} {ds : List Dat} {i : Nat} {v : V}, DqAll H vs ds → vs[i]? = some v → ∃ d, ds[i]? = some d ∧ Dq H v d
  | _, _, _, _, .nil, h => by simp at h
  | _, _, 0, _, .cons h1 _, h => by cases h; exact ⟨_, rfl, h1⟩
  | _, _, i + 1, _, .cons _ h2, h => DqAll.getV (i := i) h2 h
theorem DqAll.app : ∀ {vs ws : List V} {ds es : List Dat}, DqAll H vs ds → DqAll H ws es → DqAll H (vs ++ ws) (ds ++ es)
  | _, _, _, _, .nil, h => h
  | _, _, _, _, .cons h1 h2, h => .cons h1 (DqAll.app h2 h)
theorem DqAll.take : ∀ {vs : List V} {ds : List Dat} (n : Nat), DqAll H vs ds → DqAll H (vs.take n) (ds.take n)
  | _, _, 0, _ => .nil
  | _, _, _ + 1, .nil => .nil
  | _, _, n + 1, .cons h1 h2 => .cons h1 (DqAll.take n h2)
theorem DqAll.drop : ∀ {vs : List V} {ds : List Dat} (n : Nat), DqAll H vs ds → DqAll H (vs.drop n) (ds.drop n)
  | _, _, 0, h => h
  | _, _, _ + 1, .nil => .nil
  | _, _, n + 1, .cons _ h2 => DqAll.drop n h2
theorem DqAll.set {v : V} {d : Dat} (q : Dq H v d) : ∀ {vs : List V} {ds : List Dat} (n : Nat), DqAll H vs ds → DqAll H (vs.set n v) (ds.set n d)
  | _, _, _, .nil => .nil
  | _, _, 0, .cons _ h2 => .cons q h2
  | _, _, n + 1, .cons h1 h2 => .cons h1 (DqAll.set q n h2)
theorem DqAll.one {v : V} {d : Dat} (h : Dq H v d) : DqAll H [v] [d] := .cons h .nil
theorem DqAll.rev : ∀ {vs : List V} {ds : List Dat}, DqAll H vs ds → DqAll H vs.reverse ds.reverse
  | _, _, .nil => .nil
  | _, _, .cons h1 h2 => by rw [List.reverse_cons, List.reverse_cons]; exact (DqAll.rev h2).app (.one h1)
theorem DqAll.dropLast {vs : List V} {ds : List Dat} (h : DqAll H vs ds) : DqAll H vs.dropLast ds.dropLast := by
  rw [List.dropLast_eq_take, List.dropLast_eq_take, h.len]; exact h.take _
theorem DqAll.eraseIdx : ∀ {vs : List V} {ds : List Dat} (n : Nat), DqAll H vs ds → DqAll H (vs.eraseIdx n) (ds.eraseIdx n)
  | _, _, _, .nil => .nil
  | _, _, 0, .cons _ h2 => h2
  | _, _, n + 1, .cons h1 h2 => .cons h1 (DqAll.eraseIdx n h2)
end
section
variable {K : PySem.W.Frag} {H H' : Hp}
theorem dpa_ints : ∀ {ns : List Int} {vs : List V}, DqAll H vs (ns.map PyData.int) → vs = ns.map V.int
  | [], _, h => by cases h; rfl
  | n :: ns, _, h => by
    cases h with
    | cons h1 h2 => cases h1; rw [dpa_ints h2]; rfl
theorem dpa_of_ints : ∀ (ns : List Int), DqAll H (ns.map V.int) (ns.map PyData.int)
  | [] => .nil
  | n :: ns => .cons (.int n) (dpa_of_ints ns)
theorem dpa_bools : ∀ {ns : List Bool} {vs : List V}, DqAll H vs (ns.map PyData.bool) → vs = ns.map V.bl
  | [], _, h => by cases h; rfl
  | n :: ns, _, h => by
    cases h with
    | cons h1 h2 => cases h1; rw [dpa_bools h2]; rfl
/-- scalars -/
def vd : V → Dat
  | .bl b => .bool b
  | .int i => .int i
  | .str x => .str x
  | _ => .none
def sc : V → Bool
  | .non => true
  | .bl _ => true
  | .int _ => true
  | .str _ => true
  | _ => false
theorem dp_sc {v : V} (h : sc v = true) : Dq H v (vd v) := by
  cases v with
  | non => exact .non
  | bl b => exact .bl b
  | int i => exact .int i
  | str x => exact .str x
  | byt _ => cases h
  | flt _ => cases h
  | ref _ => cases h
  | ty _ => cases h
end
/-! ### a state bears the cells -/
section
variable (K : PySem.W.Frag) (L : Addr → Prop) (S0 : Hs)
abbrev Wh := Addr → Option (Sum Nat Nat)
structure Own (w : Wh) (k : Sum Nat Nat) (S : Hs) (a : Addr) (ds : List Dat) : Prop where
  nb : S.b a = none
  at_ : w a = some k
  is : ∃ vs, S.h a = some (.lst vs) ∧ DqAll S.b vs ds
structure OwnO (w : Wh) (k : Sum Nat Nat) (S : Hs) (a : Addr) (p : HO) : Prop where
  nb : S.b a = none
  at_ : w a = some k
  is : S.h a = some p
structure OwnL (w : Wh) (k : Sum Nat Nat) (S : Hs) (a : Addr) (R : Res) (N : Addr → Prop) : Prop where
  ex : ∃ F : Addr → Prop, R.holds S.b S.h a F ∧ ∀ x, F x → S.b x = none ∧ w x = some k ∧ N x
def SlotOk (w : Wh) (S : Hs) (i : Nat) (o : Option (Option V)) : Cell → Prop
  | .no => True
  | .dt d => ∃ v, o = some (some v) ∧ Dq S.b v d
  | .ow ds => ∃ a, o = some (some (.ref a)) ∧ Own w (.inl i) S a ds ∧ S0.h a = none
  | .ln ds => ∃ a, o = some (some (.ref a)) ∧ Own w (.inl i) S a ds ∧ L a
  | .sc ns => ∃ a, o = some (some (.ref a)) ∧ SqL K S.b a (ns.map V.int)
  | .ob p => ∃ a, o = some (some (.ref a)) ∧ OwnO w (.inl i) S a p ∧ S0.h a = none
  | .li R => ∃ a, o = some (some (.ref a)) ∧ OwnL w (.inl i) S a R (fun x => S0.h x = none ∨ (R.lent = true ∧ L x))
def TmpOk (w : Wh) (S : Hs) (σ : L2.St) (k : Nat) (v : V) : Tmp → Prop
  | .dt d => Dq S.b v d
  | .fr ds => ∃ a, v = .ref a ∧ Own w (.inr k) S a ds ∧ S0.h a = none
  | .br i => σ[i]? = some (some v)
  | .sc ns => ∃ a, v = .ref a ∧ SqL K S.b a (ns.map V.int)
  | .ob p => ∃ a, v = .ref a ∧ OwnO w (.inr k) S a p ∧ S0.h a = none
  | .li R => ∃ a, v = .ref a ∧ OwnL w (.inr k) S a R (fun x => S0.h x = none)
def TmpsOk (w : Wh) (S : Hs) (σ : L2.St) : List Tmp → List V → Prop
  | [], [] => True
  | t :: ts, v :: vs => TmpOk K S0 w S σ ts.length v t ∧ TmpsOk w S σ ts vs
  | _, _ => False
structure Env (Γ : List Cell) (Θ : List Tmp) (σ : L2.St) (τ : List V) (S : Hs) : Prop where
  gr : Gr L S0 S
  sub : Same S.b S.h
  len : σ.length = Γ.length
  ok : ∃ w : Wh, (∀ i c, Γ[i]? = some c → SlotOk K L S0 w S i σ[i]? c) ∧ TmpsOk K S0 w S σ Θ τ
end
section
variable {K : PySem.W.Frag} {L : Addr → Prop} {S0 S S' : Hs} {Γ : List Cell} {Θ : List Tmp} {σ : L2.St} {τ : List V} {w : Wh}
theorem Own.grow {k : Sum Nat Nat} {a : Addr} {ds : List Dat} (h : Own w k S a ds) (g : Gr L0 S S') : Own w k S' a ds := by
  obtain ⟨n, e, vs, q, p⟩ := h
  exact ⟨g.own a n (by rw [q]; exact fun z => nomatch z), e, vs, g.h a _ (fun z => z) q, dpa_mono g.b _ _ p⟩
theorem OwnO.grow {k : Sum Nat Nat} {a : Addr} {p : HO} (h : OwnO w k S a p) (g : Gr L0 S S') : OwnO w k S' a p := by
  obtain ⟨n, e, q⟩ := h
  exact ⟨g.own a n (by rw [q]; exact fun z => nomatch z), e, g.h a _ (fun z => z) q⟩
theorem OwnL.grow {k : Sum Nat Nat} {a : Addr} {R : Res} {N : Addr → Prop} (h : OwnL w k S a R N) (g : Gr L0 S S') : OwnL w k S' a R N := by
  obtain ⟨F, q, f⟩ := h
  refine ⟨F, R.frame q g.b fun x hx => ?_, fun x hx => ⟨g.own x (f x hx).1 (R.dom q hx), (f x hx).2⟩⟩
  cases e : S.h x with
  | none => exact absurd e (R.dom q hx)
  | some o => exact g.h x o (fun z => z) e
theorem OwnL.reK {k k' : Sum Nat Nat} {a : Addr} {R : Res} {N N' : Addr → Prop} {w' : Wh} (h : OwnL w k S a R N) (f : ∀ x, w x = some k → w' x = some k') (n : ∀ x, N x → N' x) : OwnL w' k' S a R N' := by
  obtain ⟨F, q, g⟩ := h
  exact ⟨F, q, fun x hx => ⟨(g x hx).1, f x (g x hx).2.1, n x (g x hx).2.2⟩⟩
theorem OwnL.reW {k k' : Sum Nat Nat} {a p : Addr} {R : Res} {N : Addr → Prop} (h : OwnL w k S a R N) (hp : S.h p = none) : OwnL (fun b => if b = p then some k' else w b) k S a R N := by
  obtain ⟨F, q, g⟩ := h
  exact ⟨F, q, fun x hx => ⟨(g x hx).1, by rw [if_neg (fun e => R.dom q hx (by rw [e]; exact hp))]; exact (g x hx).2.1, (g x hx).2.2⟩⟩
theorem TmpsOk.imp {w' : Wh} {σ' : L2.St} : ∀ {Θ : List Tmp} {τ : List V}, TmpsOk K S0 w S σ Θ τ → (∀ (k : Nat) v t, k < Θ.length → TmpOk K S0 w S σ k v t → TmpOk K S0 w' S' σ' k v t) → TmpsOk K S0 w' S' σ' Θ τ
  | [], [], _, _ => trivial
  | t :: ts, v :: vs, h, f => ⟨f _ _ _ (by simp) h.1, TmpsOk.imp h.2 fun k v t hk => f k v t (by simp; omega)⟩
  | [], _ :: _, h, _ => h.elim
  | _ :: _, [], h, _ => h.elim
theorem TmpsOk.imp' {w' : Wh} {σ' : L2.St} : ∀ {Θ : List Tmp} {τ : List V}, TmpsOk K S0 w S σ Θ τ → (∀ (k : Nat) v t, k < Θ.length → t ∈ Θ → TmpOk K S0 w S σ k v t → TmpOk K S0 w' S' σ' k v t) → TmpsOk K S0 w' S' σ' Θ τ
  | [], [], _, _ => trivial
  | t :: ts, v :: vs, h, f => ⟨f _ _ _ (by simp) (by simp) h.1, TmpsOk.imp' h.2 fun k v t hk hm => f k v t (by simp; omega) (List.mem_cons_of_mem _ hm)⟩
  | [], _ :: _, h, _ => h.elim
  | _ :: _, [], h, _ => h.elim
theorem SlotOk.grow {i : Nat} {o : Option (Option V)} {c : Cell} (h : SlotOk K L S0 w S i o c) (g : Gr L0 S S') : SlotOk K L S0 w S' i o c := by
  cases c with
  | no => trivial
  | dt d => obtain ⟨v, e, q⟩ := h; exact ⟨v, e, dp_mono g.b _ _ q⟩
  | ow ds => obtain ⟨a, e, q, n⟩ := h; exact ⟨a, e, q.grow g, n⟩
  | ln ds => obtain ⟨a, e, q, n⟩ := h; exact ⟨a, e, q.grow g, n⟩
  | sc ns => obtain ⟨a, e, q⟩ := h; exact ⟨a, e, g.b.seq q⟩
  | ob pp => obtain ⟨a, e, q, n⟩ := h; exact ⟨a, e, q.grow g, n⟩
  | li R => obtain ⟨a, e, q⟩ := h; exact ⟨a, e, q.grow g⟩
theorem TmpOk.grow {k : Nat} {v : V} {t : Tmp} (h : TmpOk K S0 w S σ k v t) (g : Gr L0 S S') : TmpOk K S0 w S' σ k v t := by
  cases t with
  | dt d => exact dp_mono g.b _ _ h
  | fr ds => obtain ⟨a, e, q, n⟩ := h; exact ⟨a, e, q.grow g, n⟩
  | br i => exact h
  | sc ns => obtain ⟨a, e, q⟩ := h; exact ⟨a, e, g.b.seq q⟩
  | ob pp => obtain ⟨a, e, q, n⟩ := h; exact ⟨a, e, q.grow g, n⟩
  | li R => obtain ⟨a, e, q⟩ := h; exact ⟨a, e, q.grow g⟩
/-- the heap grows -/
theorem Env.grow (E : Env K L S0 Γ Θ σ τ S) (g : Gr L0 S S') (sub : Same S'.b S'.h) : Env K L S0 Γ Θ σ τ S' := by
  obtain ⟨w, h1, h2⟩ := E.ok
  exact ⟨E.gr.trans0 g, sub, E.len, w, fun i c e => (h1 i c e).grow g, h2.imp fun _ _ _ _ q => q.grow g⟩
theorem Env.pop {t : Tmp} {v : V} (E : Env K L S0 Γ (t :: Θ) σ (v :: τ) S) : Env K L S0 Γ Θ σ τ S := by
  obtain ⟨w, h1, h2⟩ := E.ok
  exact ⟨E.gr, E.sub, E.len, w, h1, h2.2⟩
theorem Env.top {t : Tmp} {v : V} (E : Env K L S0 Γ (t :: Θ) σ (v :: τ) S) : ∃ w, TmpOk K S0 w S σ Θ.length v t := let ⟨w, _, h2⟩ := E.ok; ⟨w, h2.1⟩
theorem Env.push {d : Dat} {v : V} (E : Env K L S0 Γ Θ σ τ S) (h : Dq S.b v d) : Env K L S0 Γ (.dt d :: Θ) σ (v :: τ) S := by
  obtain ⟨w, h1, h2⟩ := E.ok
  exact ⟨E.gr, E.sub, E.len, w, h1, h, h2⟩
theorem Env.pushBr {i : Nat} {v : V} (E : Env K L S0 Γ Θ σ τ S) (h : σ[i]? = some (some v)) : Env K L S0 Γ (.br i :: Θ) σ (v :: τ) S := by
  obtain ⟨w, h1, h2⟩ := E.ok
  exact ⟨E.gr, E.sub, E.len, w, h1, h, h2⟩
theorem gr_new {p : Addr} {o : HO} (h : S.h p = none) (sub : Same S.b S.h) : Gr L0 S ⟨S.b, upd S.h p o⟩ :=
  ⟨Same.refl _, fun a o' _ e => by show upd S.h p o a = some o'; rw [upd_ne (ne_of_none e h)]; exact e, fun _ e _ => e, fun a n => by
    show upd S.h p o a ≠ none
    by_cases e : a = p
    · rw [e, upd_same]; exact fun z => nomatch z
    · rw [upd_ne e]; exact n⟩
theorem sub_new {p : Addr} {o : HO} (h : S.h p = none) (sub : Same S.b S.h) : Same S.b (upd S.h p o) := fun a o' e => by
  rw [upd_ne (ne_of_none (sub a o' e) h)]; exact sub a o' e
theorem gr_newB {p : Addr} {o : HO} (h : S.h p = none) (sub : Same S.b S.h) : Gr L0 S ⟨upd S.b p o, upd S.h p o⟩ := by
  have nb : S.b p = none := by
    cases q : S.b p with
    | none => rfl
    | some u => rw [sub p u q] at h; cases h
  refine ⟨fun a o' e => ?_, (gr_new h sub).h, fun a e n => ?_, (gr_new h sub).dom⟩
  · show upd S.b p o a = some o'
    rw [upd_ne (ne_of_none e nb)]; exact e
  · show upd S.b p o a = none
    rw [upd_ne (fun z => n (by rw [z]; exact h))]; exact e
theorem sub_newB {p : Addr} {o : HO} (h : S.h p = none) (sub : Same S.b S.h) : Same (upd S.b p o) (upd S.h p o) := fun a o' e => by
  by_cases q : a = p
  · rw [q, upd_same] at e; rw [q, upd_same]; exact e
  · rw [upd_ne q] at e; rw [upd_ne q]; exact sub a o' e
/-- a new object that never changes -/
theorem Env.newB {p : Addr} {o : HO} (E : Env K L S0 Γ Θ σ τ S) (h : S.h p = none) : Env K L S0 Γ Θ σ τ ⟨upd S.b p o, upd S.h p o⟩ := E.grow (gr_newB h E.sub) (sub_newB h E.sub)
theorem Env.fresh {p : Addr} (E : Env K L S0 Γ Θ σ τ S) (h : S.h p = none) : S.b p = none := by
  cases q : S.b p with
  | none => rfl
  | some u => rw [E.sub p u q] at h; cases h
theorem Env.fresh0 {p : Addr} (E : Env K L S0 Γ Θ σ τ S) (h : S.h p = none) : S0.h p = none := by
  cases q : S0.h p with
  | none => rfl
  | some u => exact absurd h (E.gr.dom p (by rw [q]; exact fun z => nomatch z))
theorem Own.lt {k : Sum Nat Nat} {a p : Addr} {ds : List Dat} (h : Own w k S a ds) (hp : S.h p = none) : a ≠ p := by
  obtain ⟨_, _, vs, q, _⟩ := h
  exact ne_of_none q hp
theorem OwnO.lt {k : Sum Nat Nat} {a p : Addr} {o : HO} (h : OwnO w k S a o) (hp : S.h p = none) : a ≠ p := ne_of_none h.is hp
theorem OwnO.reW {k k' : Sum Nat Nat} {a p : Addr} {o : HO} (h : OwnO w k S a o) (hp : a ≠ p) : OwnO (fun b => if b = p then some k' else w b) k S a o :=
  ⟨h.nb, by show (if a = p then some k' else w a) = some k; rw [if_neg hp]; exact h.at_, h.is⟩
/-- a new tuple of data -/
theorem Env.newTup {p : Addr} {o : Obj} {vs : List V} {ds : List Dat} (E : Env K L S0 Γ Θ σ τ S) (hd : o.dict = none) (h : S.h p = none) (q : DqAll S.b vs ds) : Env K L S0 Γ (.dt (.tuple ds) :: Θ) σ (.ref p :: τ) ⟨upd S.b p (.frz o (.tup vs)), upd S.h p (.frz o (.tup vs))⟩ :=
  (E.newB h).push (.tup hd upd_same (dpa_mono (gr_newB h E.sub).b _ _ q))
theorem sqt_f {K : PySem.W.Frag} {H : Hp} {a : Addr} {o : Obj} {xs : List V} (h : H a = some (.frz o (.tup xs))) : SqT K H a xs := .inl (.inr ⟨o, h⟩)
/-- where an address is owned, by a word w that is changed at a fresh place -/
theorem Own.reW {k k' : Sum Nat Nat} {a p : Addr} {ds : List Dat} (h : Own w k S a ds) (hp : a ≠ p) : Own (fun b => if b = p then some k' else w b) k S a ds :=
  ⟨h.nb, by show (if a = p then some k' else w a) = some k; rw [if_neg hp]; exact h.at_, h.is⟩
theorem SlotOk.reW {k' : Sum Nat Nat} {p : Addr} {i : Nat} {o : Option (Option V)} {c : Cell} (h : SlotOk K L S0 w S i o c) (hp : S.h p = none) : SlotOk K L S0 (fun b => if b = p then some k' else w b) S i o c := by
  cases c with
  | no => trivial
  | dt d => exact h
  | ow ds => obtain ⟨a, e, q, n⟩ := h; exact ⟨a, e, q.reW (q.lt hp), n⟩
  | ln ds => obtain ⟨a, e, q, n⟩ := h; exact ⟨a, e, q.reW (q.lt hp), n⟩
  | sc ns => exact h
  | ob pp => obtain ⟨a, e, q, n⟩ := h; exact ⟨a, e, q.reW (q.lt hp), n⟩
  | li R => obtain ⟨a, e, q⟩ := h; exact ⟨a, e, q.reW hp⟩
theorem TmpOk.reW {k' : Sum Nat Nat} {p : Addr} {k : Nat} {v : V} {t : Tmp} (h : TmpOk K S0 w S σ k v t) (hp : S.h p = none) : TmpOk K S0 (fun b => if b = p then some k' else w b) S σ k v t := by
  cases t with
  | dt d => exact h
  | fr ds => obtain ⟨a, e, q, n⟩ := h; exact ⟨a, e, q.reW (q.lt hp), n⟩
  | br i => exact h
  | sc ns => exact h
  | ob pp => obtain ⟨a, e, q, n⟩ := h; exact ⟨a, e, q.reW (q.lt hp), n⟩
  | li R => obtain ⟨a, e, q⟩ := h; exact ⟨a, e, q.reW hp⟩
/-- a new list of one's own -/
theorem Env.newLst {p : Addr} {vs : List V} {ds : List Dat} (E : Env K L S0 Γ Θ σ τ S) (h : S.h p = none) (q : DqAll S.b vs ds) : Env K L S0 Γ (.fr ds :: Θ) σ (.ref p :: τ) ⟨S.b, upd S.h p (.lst vs)⟩ := by
  have g := gr_new (o := .lst vs) h E.sub
  have nb := E.fresh h
  have n0 := E.fresh0 h
  obtain ⟨w, h1, h2⟩ := E.ok
  refine ⟨E.gr.trans0 g, sub_new h E.sub, E.len, fun b => if b = p then some (.inr Θ.length) else w b, fun i c e => ((h1 i c e).reW h).grow g, ⟨p, rfl, ⟨nb, if_pos rfl, vs, upd_same, q⟩, n0⟩, h2.imp fun _ _ _ _ z => (z.reW h).grow g⟩
/-- a new object of one's own -/
theorem Env.newOb {p : Addr} {o : HO} (E : Env K L S0 Γ Θ σ τ S) (h : S.h p = none) : Env K L S0 Γ (.ob o :: Θ) σ (.ref p :: τ) ⟨S.b, upd S.h p o⟩ := by
  have g := gr_new (o := o) h E.sub
  have nb := E.fresh h
  have n0 := E.fresh0 h
  obtain ⟨w, h1, h2⟩ := E.ok
  refine ⟨E.gr.trans0 g, sub_new h E.sub, E.len, fun b => if b = p then some (.inr Θ.length) else w b, fun i c e => ((h1 i c e).reW h).grow g, ⟨p, rfl, ⟨nb, if_pos rfl, upd_same⟩, n0⟩, h2.imp fun _ _ _ _ z => (z.reW h).grow g⟩
/-- names are forgotten -/
theorem Env.forget {Γ' : List Cell} (E : Env K L S0 Γ Θ σ τ S) (hl : Γ'.length = Γ.length) (h : ∀ (i : Nat) (c : Cell), Γ'[i]? = some c → c = Cell.no ∨ Γ[i]? = some c) : Env K L S0 Γ' Θ σ τ S := by
  obtain ⟨w, h1, h2⟩ := E.ok
  refine ⟨E.gr, E.sub, E.len.trans hl.symm, w, fun i c e => ?_, h2⟩
  rcases h i c e with rfl | q
  · trivial
  · exact h1 i c q
/-- a slot is stored: data -/
theorem Env.setDt {d : Dat} {v : V} {i : Nat} (E : Env K L S0 Γ Θ σ τ S) (hb : ∀ t ∈ Θ, t ≠ .br i) (h : Dq S.b v d) : Env K L S0 (Γ.set i (.dt d)) Θ (σ.set i (some v)) τ S := by
  obtain ⟨w, h1, h2⟩ := E.ok
  refine ⟨E.gr, E.sub, by rw [List.length_set, List.length_set]; exact E.len, w, fun j c e => ?_, h2.imp' fun k u t hk hm q => ?_⟩
  · by_cases q : i = j
    · subst q
      have hi : i < Γ.length := by
        have := (List.getElem?_eq_some_iff.mp e).1
        rw [List.length_set] at this; exact this
      rw [List.getElem?_set_self hi] at e
      cases e
      exact ⟨v, List.getElem?_set_self (by rw [E.len]; exact hi), h⟩
    · rw [List.getElem?_set_ne q] at e
      rw [List.getElem?_set_ne q]
      exact h1 j c e
  · cases t with
    | dt d => exact q
    | fr ds => exact q
    | sc ns => exact q
    | ob pp => exact q
    | li R => exact q
    | br j =>
      show (σ.set i (some v))[j]? = some (some u)
      have q' : σ[j]? = some (some u) := q
      have hij : i ≠ j := fun z => hb _ hm (by rw [z])
      rw [List.getElem?_set_ne hij]; exact q'
end
end Ld
set_option Elab.async false
set_option linter.all false
set_option maxRecDepth 100000
namespace Ld
open PySem PySem.Spec PyProof.Rows L2 Lx
/-! ### lists of one's own: frozen, stored, changed -/
def Cell.ls : Cell → Option (List Dat)
  | .ow ds => some ds
  | .ln ds => some ds
  | _ => none
def Cell.put : Cell → List Dat → Cell
  | .ow _, ds => .ow ds
  | .ln _, ds => .ln ds
  | c, _ => c
section
variable {K : PySem.W.Frag} {L : Addr → Prop} {S0 S S' : Hs} {Γ : List Cell} {Θ : List Tmp} {σ : L2.St} {τ : List V} {w : Wh}
theorem Own.apart {k k' : Sum Nat Nat} {a a' : Addr} {ds ds' : List Dat} (h : Own w k S a ds) (h' : Own w k' S a' ds') (n : k ≠ k') : a ≠ a' := fun e => n (by
  have e1 := h.at_
  have e2 := h'.at_
  rw [e, e2] at e1
  exact (Option.some.inj e1).symm)
theorem Own.apartO {k k' : Sum Nat Nat} {a a' : Addr} {ds : List Dat} {p : HO} (h : Own w k S a ds) (h' : OwnO w k' S a' p) (n : k ≠ k') : a ≠ a' := fun e => n (by
  have e1 := h.at_
  have e2 := h'.at_
  rw [e, e2] at e1
  exact (Option.some.inj e1).symm)
theorem OwnO.apart {k k' : Sum Nat Nat} {a a' : Addr} {p q : HO} (h : OwnO w k S a p) (h' : OwnO w k' S a' q) (n : k ≠ k') : a ≠ a' := fun e => n (by
  have e1 := h.at_
  have e2 := h'.at_
  rw [e, e2] at e1
  exact (Option.some.inj e1).symm)
theorem Own.frzO {k k' : Sum Nat Nat} {a a' : Addr} {ds : List Dat} {p : HO} {vs : List V} (h : Own w k S a ds) (h' : OwnO w k' S a' p) (n : k' ≠ k) : OwnO w k' ⟨upd S.b a (.lst vs), S.h⟩ a' p := by
  have ne : a' ≠ a := (h.apartO h' n.symm).symm
  obtain ⟨nb, e, q⟩ := h'
  exact ⟨by show upd S.b a (.lst vs) a' = none; rw [upd_ne ne]; exact nb, e, q⟩
theorem Own.mutO {k k' : Sum Nat Nat} {a a' : Addr} {ds : List Dat} {p o : HO} (h : Own w k S a ds) (h' : OwnO w k' S a' p) (n : k' ≠ k) : OwnO w k' ⟨S.b, upd S.h a o⟩ a' p := by
  have ne : a' ≠ a := (h.apartO h' n.symm).symm
  obtain ⟨nb, e, q⟩ := h'
  exact ⟨nb, e, by show upd S.h a o a' = _; rw [upd_ne ne]; exact q⟩
theorem Own.frzL {k k' : Sum Nat Nat} {a a' : Addr} {ds : List Dat} {R : Res} {N : Addr → Prop} {vs : List V} (h : Own w k S a ds) (h' : OwnL w k' S a' R N) (n : k' ≠ k) : OwnL w k' ⟨upd S.b a (.lst vs), S.h⟩ a' R N := by
  obtain ⟨F, q, f⟩ := h'
  have ne : ∀ x, F x → x ≠ a := fun x hx e => n (by
    have e1 := h.at_
    rw [← e, (f x hx).2.1] at e1
    exact Option.some.inj e1)
  refine ⟨F, R.frame q (fun c o z => ?_) fun x hx => rfl, fun x hx => ⟨?_, (f x hx).2⟩⟩
  · show upd S.b a (.lst vs) c = some o
    rw [upd_ne (ne_of_none z h.nb)]; exact z
  · show upd S.b a (.lst vs) x = none
    rw [upd_ne (ne x hx)]; exact (f x hx).1
theorem OwnL.mutE {k k' : Sum Nat Nat} {a a' : Addr} {R : Res} {N : Addr → Prop} {o : HO} (ha : w a = some k) (h' : OwnL w k' S a' R N) (n : k' ≠ k) : OwnL w k' ⟨S.b, upd S.h a o⟩ a' R N := by
  obtain ⟨F, q, f⟩ := h'
  refine ⟨F, R.frame q (Same.refl _) fun x hx => ?_, f⟩
  have ne : x ≠ a := fun e => n (by
    rw [← e, (f x hx).2.1] at ha
    exact Option.some.inj ha)
  exact upd_ne ne
theorem Own.mutL {k k' : Sum Nat Nat} {a a' : Addr} {ds : List Dat} {R : Res} {N : Addr → Prop} {o : HO} (h : Own w k S a ds) (h' : OwnL w k' S a' R N) (n : k' ≠ k) : OwnL w k' ⟨S.b, upd S.h a o⟩ a' R N := h'.mutE h.at_ n
theorem OwnO.mutL {k k' : Sum Nat Nat} {a a' : Addr} {p o : HO} {R : Res} {N : Addr → Prop} (h : OwnO w k S a p) (h' : OwnL w k' S a' R N) (n : k' ≠ k) : OwnL w k' ⟨S.b, upd S.h a o⟩ a' R N := h'.mutE h.at_ n
/-- b holds one more list -/
theorem Own.frz {k k' : Sum Nat Nat} {a a' : Addr} {ds ds' : List Dat} {vs : List V} (h : Own w k S a ds) (h' : Own w k' S a' ds') (n : k' ≠ k) : Own w k' ⟨upd S.b a (.lst vs), S.h⟩ a' ds' := by
  have ne : a' ≠ a := h'.apart h n
  obtain ⟨nb, e, us, q, p⟩ := h'
  refine ⟨by show upd S.b a (.lst vs) a' = none; rw [upd_ne ne]; exact nb, e, us, q, dpa_mono (fun c o z => ?_) _ _ p⟩
  show upd S.b a (.lst vs) c = some o
  rw [upd_ne (ne_of_none z h.nb)]; exact z
theorem frz_b {k : Sum Nat Nat} {a : Addr} {ds : List Dat} {vs : List V} (h : Own w k S a ds) : Same S.b (upd S.b a (.lst vs)) := fun c o z => by
  rw [upd_ne (ne_of_none z h.nb)]; exact z
theorem gr_frz {k : Sum Nat Nat} {a : Addr} {ds : List Dat} {vs : List V} (g : Gr L S0 S) (h : Own w k S a ds) (n0 : S0.h a = none) : Gr L S0 ⟨upd S.b a (.lst vs), S.h⟩ :=
  ⟨g.b.trans (frz_b h), g.h, fun c e n => by
    show upd S.b a (.lst vs) c = none
    rw [upd_ne (fun z => n (by rw [z]; exact n0))]
    exact g.own c e n, g.dom⟩
theorem sub_frz {a : Addr} {vs : List V} (s : Same S.b S.h) (h : S.h a = some (.lst vs)) : Same (upd S.b a (.lst vs)) S.h := fun c o e => by
  by_cases q : c = a
  · rw [q, upd_same] at e; rw [q, h]; exact e
  · rw [upd_ne q] at e; exact s c o e
/-- the list under way is now data -/
theorem Env.frzTop {ds : List Dat} {v : V} (E : Env K L S0 Γ (.fr ds :: Θ) σ (v :: τ) S) : ∃ S', S'.h = S.h ∧ Env K L S0 Γ (.dt (.list ds) :: Θ) σ (v :: τ) S' := by
  obtain ⟨w, h1, ⟨a, rfl, o, n0⟩, h2⟩ := E.ok
  obtain ⟨nb, ea, vs, q, p⟩ := id o
  refine ⟨⟨upd S.b a (.lst vs), S.h⟩, rfl, gr_frz E.gr o n0, sub_frz E.sub q, E.len, w, fun i c e => ?_, .lst upd_same (dpa_mono (frz_b o) _ _ p), h2.imp fun k u t hk z => ?_⟩
  · have z := h1 i c e
    cases c with
    | no => trivial
    | dt d => obtain ⟨v, e, r⟩ := z; exact ⟨v, e, dp_mono (frz_b o) _ _ r⟩
    | ow es => obtain ⟨b, e, r, n⟩ := z; exact ⟨b, e, o.frz r (fun z => nomatch z), n⟩
    | ln es => obtain ⟨b, e, r, n⟩ := z; exact ⟨b, e, o.frz r (fun z => nomatch z), n⟩
    | sc ns => obtain ⟨b, e, r⟩ := z; exact ⟨b, e, (frz_b o).seq r⟩
    | ob pp => obtain ⟨b, e, r, n⟩ := z; exact ⟨b, e, o.frzO r (fun z => nomatch z), n⟩
    | li R => obtain ⟨b, e, r⟩ := z; exact ⟨b, e, o.frzL r (fun z => nomatch z)⟩
  · cases t with
    | dt d => exact dp_mono (frz_b o) _ _ z
    | fr es => obtain ⟨b, e, r, n⟩ := z; exact ⟨b, e, o.frz r (fun z => absurd (Sum.inr.inj z) (Nat.ne_of_lt hk)), n⟩
    | br j => exact z
    | sc ns => obtain ⟨b, e, r⟩ := z; exact ⟨b, e, (frz_b o).seq r⟩
    | ob pp => obtain ⟨b, e, r, n⟩ := z; exact ⟨b, e, o.frzO r (fun z => absurd (Sum.inr.inj z) (Nat.ne_of_lt hk)), n⟩
    | li R => obtain ⟨b, e, r⟩ := z; exact ⟨b, e, o.frzL r (fun z => absurd (Sum.inr.inj z) (Nat.ne_of_lt hk))⟩
/-- .. the list in slot i -/
theorem Env.frzSlot {ds : List Dat} {i : Nat} (E : Env K L S0 Γ Θ σ τ S) (hi : Γ[i]? = some (.ow ds)) : ∃ S', S'.h = S.h ∧ Env K L S0 (Γ.set i (.dt (.list ds))) Θ σ τ S' := by
  obtain ⟨w, h1, h2⟩ := E.ok
  obtain ⟨a, ei, o, n0⟩ := h1 i _ hi
  obtain ⟨nb, ea, vs, q, p⟩ := id o
  refine ⟨⟨upd S.b a (.lst vs), S.h⟩, rfl, gr_frz E.gr o n0, sub_frz E.sub q, by rw [List.length_set]; exact E.len, w, fun j c e => ?_, h2.imp fun k u t hk z => ?_⟩
  · by_cases hj : i = j
    · subst hj
      rw [List.getElem?_set_self (List.getElem?_eq_some_iff.mp hi).1] at e
      cases e
      exact ⟨_, ei, .lst upd_same (dpa_mono (frz_b o) _ _ p)⟩
    · rw [List.getElem?_set_ne hj] at e
      have z := h1 j c e
      cases c with
      | no => trivial
      | dt d => obtain ⟨v, e, r⟩ := z; exact ⟨v, e, dp_mono (frz_b o) _ _ r⟩
      | ow es => obtain ⟨b, e, r, n⟩ := z; exact ⟨b, e, o.frz r (fun z => hj (Sum.inl.inj z).symm), n⟩
      | ln es => obtain ⟨b, e, r, n⟩ := z; exact ⟨b, e, o.frz r (fun z => hj (Sum.inl.inj z).symm), n⟩
      | sc ns => obtain ⟨b, e, r⟩ := z; exact ⟨b, e, (frz_b o).seq r⟩
      | ob pp => obtain ⟨b, e, r, n⟩ := z; exact ⟨b, e, o.frzO r (fun z => hj (Sum.inl.inj z).symm), n⟩
      | li R => obtain ⟨b, e, r⟩ := z; exact ⟨b, e, o.frzL r (fun z => hj (Sum.inl.inj z).symm)⟩
  · cases t with
    | dt d => exact dp_mono (frz_b o) _ _ z
    | fr es => obtain ⟨b, e, r, n⟩ := z; exact ⟨b, e, o.frz r (fun z => nomatch z), n⟩
    | br j => exact z
    | sc ns => obtain ⟨b, e, r⟩ := z; exact ⟨b, e, (frz_b o).seq r⟩
    | ob pp => obtain ⟨b, e, r, n⟩ := z; exact ⟨b, e, o.frzO r (fun z => nomatch z), n⟩
    | li R => obtain ⟨b, e, r⟩ := z; exact ⟨b, e, o.frzL r (fun z => nomatch z)⟩
/-- a slot is stored: a new list -/
theorem Env.setFr {ds : List Dat} {v : V} {i : Nat} (E : Env K L S0 Γ (.fr ds :: Θ) σ (v :: τ) S) (hb : ∀ t ∈ Θ, t ≠ .br i) : Env K L S0 (Γ.set i (.ow ds)) Θ (σ.set i (some v)) τ S := by
  obtain ⟨w, h1, ⟨a, rfl, o, n0⟩, h2⟩ := E.ok
  have re : ∀ {k : Sum Nat Nat} {b : Addr} {es : List Dat}, Own w k S b es → k ≠ .inr Θ.length → Own (fun c => if c = a then some (.inl i) else w c) k S b es := fun {k b es} r n =>
    ⟨r.nb, by show (if b = a then some (Sum.inl i) else w b) = some k; rw [if_neg (r.apart o n)]; exact r.at_, r.is⟩
  have reO : ∀ {k : Sum Nat Nat} {b : Addr} {es : HO}, OwnO w k S b es → k ≠ .inr Θ.length → OwnO (fun c => if c = a then some (.inl i) else w c) k S b es := fun {k b es} r n =>
    ⟨r.nb, by show (if b = a then some (Sum.inl i) else w b) = some k; rw [if_neg (o.apartO r n.symm).symm]; exact r.at_, r.is⟩
  have reL : ∀ {k : Sum Nat Nat} {b : Addr} {R : Res} {N : Addr → Prop}, OwnL w k S b R N → k ≠ .inr Θ.length → OwnL (fun c => if c = a then some (.inl i) else w c) k S b R N := fun {k b R N} r n =>
    r.reK (fun x hx => by show (if x = a then some (Sum.inl i) else w x) = some k; rw [if_neg (fun e => n (by rw [e, o.at_] at hx; exact (Option.some.inj hx).symm))]; exact hx) fun _ h => h
  refine ⟨E.gr, E.sub, by rw [List.length_set, List.length_set]; exact E.len, fun c => if c = a then some (.inl i) else w c, fun j c e => ?_, h2.imp' fun k u t hk hm z => ?_⟩
  · by_cases hj : i = j
    · subst hj
      have hi : i < Γ.length := by
        have := (List.getElem?_eq_some_iff.mp e).1
        rw [List.length_set] at this; exact this
      rw [List.getElem?_set_self hi] at e
      cases e
      exact ⟨a, List.getElem?_set_self (by rw [E.len]; exact hi), ⟨o.nb, if_pos rfl, o.is⟩, n0⟩
    · rw [List.getElem?_set_ne hj] at e
      rw [List.getElem?_set_ne hj]
      have z := h1 j c e
      cases c with
      | no => trivial
      | dt d => exact z
      | ow es => obtain ⟨b, e, r, n⟩ := z; exact ⟨b, e, re r (fun z => nomatch z), n⟩
      | ln es => obtain ⟨b, e, r, n⟩ := z; exact ⟨b, e, re r (fun z => nomatch z), n⟩
      | sc ns => exact z
      | ob pp => obtain ⟨b, e, r, n⟩ := z; exact ⟨b, e, reO r (fun z => nomatch z), n⟩
      | li R => obtain ⟨b, e, r⟩ := z; exact ⟨b, e, reL r (fun z => nomatch z)⟩
  · cases t with
    | dt d => exact z
    | fr es => obtain ⟨b, e, r, n⟩ := z; exact ⟨b, e, re r (fun z => absurd (Sum.inr.inj z) (Nat.ne_of_lt hk)), n⟩
    | sc ns => exact z
    | ob pp => obtain ⟨b, e, r, n⟩ := z; exact ⟨b, e, reO r (fun z => absurd (Sum.inr.inj z) (Nat.ne_of_lt hk)), n⟩
    | li R => obtain ⟨b, e, r⟩ := z; exact ⟨b, e, reL r (fun z => absurd (Sum.inr.inj z) (Nat.ne_of_lt hk))⟩
    | br j =>
      show (σ.set i (some (V.ref a)))[j]? = some (some u)
      have hij : i ≠ j := fun z => hb _ hm (by rw [z])
      rw [List.getElem?_set_ne hij]; exact z
/-- .. a new object -/
theorem Env.setOb {ds : HO} {v : V} {i : Nat} (E : Env K L S0 Γ (.ob ds :: Θ) σ (v :: τ) S) (hb : ∀ t ∈ Θ, t ≠ .br i) : Env K L S0 (Γ.set i (.ob ds)) Θ (σ.set i (some v)) τ S := by
  obtain ⟨w, h1, ⟨a, rfl, o, n0⟩, h2⟩ := E.ok
  have re : ∀ {k : Sum Nat Nat} {b : Addr} {es : List Dat}, Own w k S b es → k ≠ .inr Θ.length → Own (fun c => if c = a then some (.inl i) else w c) k S b es := fun {k b es} r n =>
    ⟨r.nb, by show (if b = a then some (Sum.inl i) else w b) = some k; rw [if_neg (r.apartO o n)]; exact r.at_, r.is⟩
  have reO : ∀ {k : Sum Nat Nat} {b : Addr} {es : HO}, OwnO w k S b es → k ≠ .inr Θ.length → OwnO (fun c => if c = a then some (.inl i) else w c) k S b es := fun {k b es} r n =>
    ⟨r.nb, by show (if b = a then some (Sum.inl i) else w b) = some k; rw [if_neg (r.apart o n)]; exact r.at_, r.is⟩
  have reL : ∀ {k : Sum Nat Nat} {b : Addr} {R : Res} {N : Addr → Prop}, OwnL w k S b R N → k ≠ .inr Θ.length → OwnL (fun c => if c = a then some (.inl i) else w c) k S b R N := fun {k b R N} r n =>
    r.reK (fun x hx => by show (if x = a then some (Sum.inl i) else w x) = some k; rw [if_neg (fun e => n (by rw [e, o.at_] at hx; exact (Option.some.inj hx).symm))]; exact hx) fun _ h => h
  refine ⟨E.gr, E.sub, by rw [List.length_set, List.length_set]; exact E.len, fun c => if c = a then some (.inl i) else w c, fun j c e => ?_, h2.imp' fun k u t hk hm z => ?_⟩
  · by_cases hj : i = j
    · subst hj
      have hi : i < Γ.length := by
        have := (List.getElem?_eq_some_iff.mp e).1
        rw [List.length_set] at this; exact this
      rw [List.getElem?_set_self hi] at e
      cases e
      exact ⟨a, List.getElem?_set_self (by rw [E.len]; exact hi), ⟨o.nb, if_pos rfl, o.is⟩, n0⟩
    · rw [List.getElem?_set_ne hj] at e
      rw [List.getElem?_set_ne hj]
      have z := h1 j c e
      cases c with
      | no => trivial
      | dt d => exact z
      | ow es => obtain ⟨b, e, r, n⟩ := z; exact ⟨b, e, re r (fun z => nomatch z), n⟩
      | ln es => obtain ⟨b, e, r, n⟩ := z; exact ⟨b, e, re r (fun z => nomatch z), n⟩
      | sc ns => exact z
      | ob pp => obtain ⟨b, e, r, n⟩ := z; exact ⟨b, e, reO r (fun z => nomatch z), n⟩
      | li R => obtain ⟨b, e, r⟩ := z; exact ⟨b, e, reL r (fun z => nomatch z)⟩
  · cases t with
    | dt d => exact z
    | fr es => obtain ⟨b, e, r, n⟩ := z; exact ⟨b, e, re r (fun z => absurd (Sum.inr.inj z) (Nat.ne_of_lt hk)), n⟩
    | sc ns => exact z
    | ob pp => obtain ⟨b, e, r, n⟩ := z; exact ⟨b, e, reO r (fun z => absurd (Sum.inr.inj z) (Nat.ne_of_lt hk)), n⟩
    | li R => obtain ⟨b, e, r⟩ := z; exact ⟨b, e, reL r (fun z => absurd (Sum.inr.inj z) (Nat.ne_of_lt hk))⟩
    | br j =>
      show (σ.set i (some (V.ref a)))[j]? = some (some u)
      have hij : i ≠ j := fun z => hb _ hm (by rw [z])
      rw [List.getElem?_set_ne hij]; exact z
/-- .. a new resource -/
theorem Env.setLi {R : Res} {v : V} {i : Nat} (E : Env K L S0 Γ (.li R :: Θ) σ (v :: τ) S) (hb : ∀ t ∈ Θ, t ≠ .br i) : Env K L S0 (Γ.set i (.li R)) Θ (σ.set i (some v)) τ S := by
  classical
  obtain ⟨w, h1, ⟨a, rfl, o⟩, h2⟩ := E.ok
  let w' : Wh := fun c => if w c = some (.inr Θ.length) then some (.inl i) else w c
  have re : ∀ {k : Sum Nat Nat} {x : Addr}, w x = some k → k ≠ .inr Θ.length → w' x = some k := fun {k x} e n => by
    show (if w x = some (.inr Θ.length) then some (.inl i) else w x) = some k
    rw [if_neg (fun z => n (by rw [e] at z; exact Option.some.inj z))]; exact e
  refine ⟨E.gr, E.sub, by rw [List.length_set, List.length_set]; exact E.len, w', fun j c e => ?_, h2.imp' fun k u t hk hm z => ?_⟩
  · by_cases hj : i = j
    · subst hj
      have hi : i < Γ.length := by
        have := (List.getElem?_eq_some_iff.mp e).1
        rw [List.length_set] at this; exact this
      rw [List.getElem?_set_self hi] at e
      cases e
      exact ⟨a, List.getElem?_set_self (by rw [E.len]; exact hi), o.reK (fun x hx => if_pos hx) fun x hx => .inl hx⟩
    · rw [List.getElem?_set_ne hj] at e
      rw [List.getElem?_set_ne hj]
      have z := h1 j c e
      cases c with
      | no => trivial
      | dt d => exact z
      | ow es => obtain ⟨b, e, r, n⟩ := z; exact ⟨b, e, ⟨r.nb, re r.at_ (fun z => nomatch z), r.is⟩, n⟩
      | ln es => obtain ⟨b, e, r, n⟩ := z; exact ⟨b, e, ⟨r.nb, re r.at_ (fun z => nomatch z), r.is⟩, n⟩
      | sc ns => exact z
      | ob pp => obtain ⟨b, e, r, n⟩ := z; exact ⟨b, e, ⟨r.nb, re r.at_ (fun z => nomatch z), r.is⟩, n⟩
      | li R => obtain ⟨b, e, r⟩ := z; exact ⟨b, e, r.reK (fun x hx => re hx (fun z => nomatch z)) fun _ h => h⟩
  · have nk : ∀ {k : Nat}, k < Θ.length → (Sum.inr k : Sum Nat Nat) ≠ .inr Θ.length := fun hk z => absurd (Sum.inr.inj z) (Nat.ne_of_lt hk)
    cases t with
    | dt d => exact z
    | fr es => obtain ⟨b, e, r, n⟩ := z; exact ⟨b, e, ⟨r.nb, re r.at_ (nk hk), r.is⟩, n⟩
    | sc ns => exact z
    | ob pp => obtain ⟨b, e, r, n⟩ := z; exact ⟨b, e, ⟨r.nb, re r.at_ (nk hk), r.is⟩, n⟩
    | li R => obtain ⟨b, e, r⟩ := z; exact ⟨b, e, r.reK (fun x hx => re hx (nk hk)) fun _ h => h⟩
    | br j =>
      show (σ.set i (some (V.ref a)))[j]? = some (some u)
      have hij : i ≠ j := fun z => hb _ hm (by rw [z])
      rw [List.getElem?_set_ne hij]; exact z
theorem Own.mut {k k' : Sum Nat Nat} {a a' : Addr} {ds ds' : List Dat} {o : HO} (h : Own w k S a ds) (h' : Own w k' S a' ds') (n : k' ≠ k) : Own w k' ⟨S.b, upd S.h a o⟩ a' ds' := by
  have ne : a' ≠ a := h'.apart h n
  obtain ⟨nb, e, us, q, p⟩ := h'
  exact ⟨nb, e, us, by show upd S.h a o a' = _; rw [upd_ne ne]; exact q, p⟩
theorem sub_mut {a : Addr} {o : HO} (s : Same S.b S.h) (nb : S.b a = none) : Same S.b (upd S.h a o) := fun c u e => by
  rw [upd_ne (ne_of_none e nb)]; exact s c u e
/-- the list in slot i is changed -/
theorem Env.mutSlot {c : Cell} {ds : List Dat} {i : Nat} (E : Env K L S0 Γ Θ σ τ S) (hi : Γ[i]? = some c) (hc : c.ls = some ds) :
    ∃ a vs, σ[i]? = some (some (.ref a)) ∧ S.h a = some (.lst vs) ∧ DqAll S.b vs ds ∧ ∀ vs' ds', DqAll S.b vs' ds' → Env K L S0 (Γ.set i (c.put ds')) Θ σ τ ⟨S.b, upd S.h a (.lst vs')⟩ := by
  obtain ⟨w, h1, h2⟩ := E.ok
  have hil := (List.getElem?_eq_some_iff.mp hi).1
  obtain ⟨a, ei, o, n0⟩ : ∃ a, σ[i]? = some (some (.ref a)) ∧ Own w (.inl i) S a ds ∧ (S0.h a = none ∨ L a) := by
    have z := h1 i c hi
    cases c with
    | no => cases hc
    | dt d => cases hc
    | ow es => cases hc; obtain ⟨a, e, r, n⟩ := z; exact ⟨a, e, r, .inl n⟩
    | ln es => cases hc; obtain ⟨a, e, r, n⟩ := z; exact ⟨a, e, r, .inr n⟩
    | sc ns => cases hc
    | ob pp => cases hc
    | li R => cases hc
  obtain ⟨nb, ea, vs, q, p⟩ := id o
  refine ⟨a, vs, ei, q, p, fun vs' ds' p' => ⟨⟨E.gr.b, fun b u n e => ?_, E.gr.own, fun b n => ?_⟩, sub_mut E.sub nb, by rw [List.length_set]; exact E.len, w, fun j c' e => ?_, h2.imp fun k u t hk z => ?_⟩⟩
  · show upd S.h a (.lst vs') b = some u
    have ne : b ≠ a := fun z => by
      subst z
      rcases n0 with z | z
      · rw [z] at e; cases e
      · exact n z
    rw [upd_ne ne]; exact E.gr.h b u n e
  · show upd S.h a (.lst vs') b ≠ none
    by_cases z : b = a
    · rw [z, upd_same]; exact fun z => nomatch z
    · rw [upd_ne z]; exact E.gr.dom b n
  · by_cases hj : i = j
    · subst hj
      rw [List.getElem?_set_self hil] at e
      have ow' : Own w (.inl i) ⟨S.b, upd S.h a (.lst vs')⟩ a ds' := ⟨nb, ea, vs', upd_same, p'⟩
      have z := h1 i c hi
      cases c with
      | no => cases hc
      | dt d => cases hc
      | ow es => cases e; obtain ⟨b, e, r, n⟩ := z; rw [ei] at e; cases e; exact ⟨_, ei, ow', n⟩
      | ln es => cases e; obtain ⟨b, e, r, n⟩ := z; rw [ei] at e; cases e; exact ⟨_, ei, ow', n⟩
      | sc ns => cases hc
      | ob pp => cases hc
      | li R => cases hc
    · rw [List.getElem?_set_ne hj] at e
      have z := h1 j c' e
      cases c' with
      | no => trivial
      | dt d => exact z
      | ow es => obtain ⟨b, e, r, n⟩ := z; exact ⟨b, e, o.mut r (fun z => hj (Sum.inl.inj z).symm), n⟩
      | ln es => obtain ⟨b, e, r, n⟩ := z; exact ⟨b, e, o.mut r (fun z => hj (Sum.inl.inj z).symm), n⟩
      | sc ns => exact z
      | ob pp => obtain ⟨b, e, r, n⟩ := z; exact ⟨b, e, o.mutO r (fun z => hj (Sum.inl.inj z).symm), n⟩
      | li R => obtain ⟨b, e, r⟩ := z; exact ⟨b, e, o.mutL r (fun z => hj (Sum.inl.inj z).symm)⟩
  · cases t with
    | dt d => exact z
    | fr es => obtain ⟨b, e, r, n⟩ := z; exact ⟨b, e, o.mut r (fun z => nomatch z), n⟩
    | br j => exact z
    | sc ns => exact z
    | ob pp => obtain ⟨b, e, r, n⟩ := z; exact ⟨b, e, o.mutO r (fun z => nomatch z), n⟩
    | li R => obtain ⟨b, e, r⟩ := z; exact ⟨b, e, o.mutL r (fun z => nomatch z)⟩
theorem OwnO.mut {k k' : Sum Nat Nat} {a a' : Addr} {ds' : List Dat} {p o : HO} (h : OwnO w k S a p) (h' : Own w k' S a' ds') (n : k' ≠ k) : Own w k' ⟨S.b, upd S.h a o⟩ a' ds' := by
  have ne : a' ≠ a := h'.apartO h n
  obtain ⟨nb, e, us, q, p⟩ := h'
  exact ⟨nb, e, us, by show upd S.h a o a' = _; rw [upd_ne ne]; exact q, p⟩
theorem OwnO.mutO {k k' : Sum Nat Nat} {a a' : Addr} {p p' o : HO} (h : OwnO w k S a p) (h' : OwnO w k' S a' p') (n : k' ≠ k) : OwnO w k' ⟨S.b, upd S.h a o⟩ a' p' := by
  have ne : a' ≠ a := h'.apart h n
  obtain ⟨nb, e, q⟩ := h'
  exact ⟨nb, e, by show upd S.h a o a' = _; rw [upd_ne ne]; exact q⟩
/-- the object in slot i is changed -/
theorem Env.mutOb {p : HO} {i : Nat} (E : Env K L S0 Γ Θ σ τ S) (hi : Γ[i]? = some (.ob p)) :
    ∃ a, σ[i]? = some (some (.ref a)) ∧ S.h a = some p ∧ ∀ p', Env K L S0 (Γ.set i (.ob p')) Θ σ τ ⟨S.b, upd S.h a p'⟩ := by
  obtain ⟨w, h1, h2⟩ := E.ok
  have hil := (List.getElem?_eq_some_iff.mp hi).1
  obtain ⟨a, ei, o, n0⟩ := h1 i _ hi
  obtain ⟨nb, ea, q⟩ := id o
  refine ⟨a, ei, q, fun p' => ⟨⟨E.gr.b, fun b u n e => ?_, E.gr.own, fun b n => ?_⟩, sub_mut E.sub nb, by rw [List.length_set]; exact E.len, w, fun j c' e => ?_, h2.imp fun k u t hk z => ?_⟩⟩
  · show upd S.h a p' b = some u
    rw [upd_ne (ne_of_none e n0)]; exact E.gr.h b u n e
  · show upd S.h a p' b ≠ none
    by_cases z : b = a
    · rw [z, upd_same]; exact fun z => nomatch z
    · rw [upd_ne z]; exact E.gr.dom b n
  · by_cases hj : i = j
    · subst hj
      rw [List.getElem?_set_self hil] at e
      cases e
      exact ⟨a, ei, ⟨nb, ea, upd_same⟩, n0⟩
    · rw [List.getElem?_set_ne hj] at e
      have z := h1 j c' e
      cases c' with
      | no => trivial
      | dt d => exact z
      | ow es => obtain ⟨b, e, r, n⟩ := z; exact ⟨b, e, o.mut r (fun z => hj (Sum.inl.inj z).symm), n⟩
      | ln es => obtain ⟨b, e, r, n⟩ := z; exact ⟨b, e, o.mut r (fun z => hj (Sum.inl.inj z).symm), n⟩
      | sc ns => exact z
      | ob es => obtain ⟨b, e, r, n⟩ := z; exact ⟨b, e, o.mutO r (fun z => hj (Sum.inl.inj z).symm), n⟩
      | li R => obtain ⟨b, e, r⟩ := z; exact ⟨b, e, o.mutL r (fun z => hj (Sum.inl.inj z).symm)⟩
  · cases t with
    | dt d => exact z
    | fr es => obtain ⟨b, e, r, n⟩ := z; exact ⟨b, e, o.mut r (fun z => nomatch z), n⟩
    | br j => exact z
    | sc ns => exact z
    | ob es => obtain ⟨b, e, r, n⟩ := z; exact ⟨b, e, o.mutO r (fun z => nomatch z), n⟩
    | li R => obtain ⟨b, e, r⟩ := z; exact ⟨b, e, o.mutL r (fun z => nomatch z)⟩
theorem Env.ob_at {p : HO} {i : Nat} {v : V} (E : Env K L S0 Γ (.br i :: Θ) σ (v :: τ) S) (hi : Γ[i]? = some (.ob p)) : ∃ a, v = .ref a ∧ S.h a = some p := by
  obtain ⟨w, h1, z, h2⟩ := E.ok
  obtain ⟨a, e, o, n⟩ := h1 i _ hi
  have z' : σ[i]? = some (some v) := z
  rw [z'] at e; cases e
  exact ⟨a, rfl, o.is⟩
/-- the new list under way is changed -/
theorem Env.mutTop {ds : List Dat} {v : V} (E : Env K L S0 Γ (.fr ds :: Θ) σ (v :: τ) S) :
    ∃ a vs, v = .ref a ∧ S.h a = some (.lst vs) ∧ DqAll S.b vs ds ∧ ∀ vs' ds', DqAll S.b vs' ds' → Env K L S0 Γ (.fr ds' :: Θ) σ (v :: τ) ⟨S.b, upd S.h a (.lst vs')⟩ := by
  obtain ⟨w, h1, ⟨a, rfl, o, n0⟩, h2⟩ := E.ok
  obtain ⟨nb, ea, vs, q, p⟩ := id o
  refine ⟨a, vs, rfl, q, p, fun vs' ds' p' => ⟨⟨E.gr.b, fun b u n e => ?_, E.gr.own, fun b n => ?_⟩, sub_mut E.sub nb, E.len, w, fun j c' e => ?_, ⟨a, rfl, ⟨nb, ea, vs', upd_same, p'⟩, n0⟩, h2.imp fun k u t hk z => ?_⟩⟩
  · show upd S.h a (.lst vs') b = some u
    rw [upd_ne (ne_of_none e n0)]; exact E.gr.h b u n e
  · show upd S.h a (.lst vs') b ≠ none
    by_cases z : b = a
    · rw [z, upd_same]; exact fun z => nomatch z
    · rw [upd_ne z]; exact E.gr.dom b n
  · have z := h1 j c' e
    cases c' with
    | no => trivial
    | dt d => exact z
    | ow es => obtain ⟨b, e, r, n⟩ := z; exact ⟨b, e, o.mut r (fun z => nomatch z), n⟩
    | ln es => obtain ⟨b, e, r, n⟩ := z; exact ⟨b, e, o.mut r (fun z => nomatch z), n⟩
    | sc ns => exact z
    | ob pp => obtain ⟨b, e, r, n⟩ := z; exact ⟨b, e, o.mutO r (fun z => nomatch z), n⟩
    | li R => obtain ⟨b, e, r⟩ := z; exact ⟨b, e, o.mutL r (fun z => nomatch z)⟩
  · cases t with
    | dt d => exact z
    | fr es => obtain ⟨b, e, r, n⟩ := z; exact ⟨b, e, o.mut r (fun z => absurd (Sum.inr.inj z) (Nat.ne_of_lt hk)), n⟩
    | br j => exact z
    | sc ns => exact z
    | ob pp => obtain ⟨b, e, r, n⟩ := z; exact ⟨b, e, o.mutO r (fun z => absurd (Sum.inr.inj z) (Nat.ne_of_lt hk)), n⟩
    | li R => obtain ⟨b, e, r⟩ := z; exact ⟨b, e, o.mutL r (fun z => absurd (Sum.inr.inj z) (Nat.ne_of_lt hk))⟩
end
/-! ### a value under way, read as data -/
def rd (Γ : List Cell) : Tmp → Dat → Prop
  | .dt e, d => e = d
  | .fr ds, d => d = .list ds
  | .br i, d => Γ[i]? = some (.dt d) ∨ ∃ ds, d = .list ds ∧ (Γ[i]? = some (.ow ds) ∨ Γ[i]? = some (.ln ds))
  | .sc _, _ => False
  | .ob _, _ => False
  | .li _, _ => False
section
variable {K : PySem.W.Frag} {L : Addr → Prop} {S0 S S' : Hs} {Γ : List Cell} {Θ : List Tmp} {σ : L2.St} {τ : List V} {w : Wh}
theorem Own.dp {k : Sum Nat Nat} {a : Addr} {ds : List Dat} (h : Own w k S a ds) (sub : Same S.b S.h) : Dq S.h (.ref a) (.list ds) := by
  obtain ⟨_, _, vs, q, p⟩ := h
  exact .lst q (dpa_mono sub _ _ p)
theorem Env.rd {t : Tmp} {v : V} {d : Dat} (E : Env K L S0 Γ (t :: Θ) σ (v :: τ) S) (h : rd Γ t d) : Dq S.h v d := by
  obtain ⟨w, h1, z, h2⟩ := E.ok
  cases t with
  | dt e => cases h; exact dp_mono E.sub _ _ z
  | fr ds => cases h; obtain ⟨a, rfl, o, n⟩ := z; exact o.dp E.sub
  | sc ns => exact h.elim
  | ob pp => exact h.elim
  | li R => exact h.elim
  | br i =>
    have z' : σ[i]? = some (some v) := z
    rcases h with h | ⟨ds, rfl, h⟩
    · obtain ⟨u, e, q⟩ := h1 i _ h
      rw [z'] at e; cases e
      exact dp_mono E.sub _ _ q
    · rcases h with h | h
      · obtain ⟨a, e, o, _⟩ := h1 i _ h
        rw [z'] at e; cases e
        exact o.dp E.sub
      · obtain ⟨a, e, o, _⟩ := h1 i _ h
        rw [z'] at e; cases e
        exact o.dp E.sub
theorem Env.dt {v : V} {d : Dat} (E : Env K L S0 Γ (.dt d :: Θ) σ (v :: τ) S) : Dq S.b v d := let ⟨_, z⟩ := E.top; z
end
theorem dp_int {H : Hp} {v : V} {i : Int} (h : Dq H v (.int i)) : v = .int i := by cases h; rfl
theorem dp_bool {H : Hp} {v : V} {i : Bool} (h : Dq H v (.bool i)) : v = .bl i := by cases h; rfl
theorem dp_none {H : Hp} {v : V} (h : Dq H v .none) : v = .non := by cases h; rfl
theorem dp_str {H : Hp} {v : V} {x : Str} (h : Dq H v (.str x)) : v = .str x := by cases h; rfl
theorem dp_list {H : Hp} {v : V} {ds : List Dat} (h : Dq H v (.list ds)) : ∃ a xs, v = .ref a ∧ H a = some (.lst xs) ∧ DqAll H xs ds := by cases h with | lst a b => exact ⟨_, _, rfl, a, b⟩
theorem dp_tup {H : Hp} {v : V} {ds : List Dat} (h : Dq H v (.tuple ds)) : ∃ a o xs, v = .ref a ∧ o.dict = none ∧ H a = some (.frz o (.tup xs)) ∧ DqAll H xs ds := by cases h with | tup d a b => exact ⟨_, _, _, rfl, d, a, b⟩
/-! ### judgements over the cells -/
section
variable (K : PySem.W.Frag) (Γ : List Cell) (Θ : List Tmp)
def VE (t : TE) (Q : List Cell → Tmp → Prop) : Prop := ∀ (L : Addr → Prop) (S0 : Hs) (σ : L2.St) (τ : List V) (S : Hs) (Qv : VK), Env K L S0 Γ Θ σ τ S →
  (∀ Γ' S' v c, Env K L S0 Γ' (c :: Θ) σ (v :: τ) S' → Q Γ' c → Qv v S'.h) → t σ S.h Qv
/-- .. with data at the end -/
def VD (t : TE) (Q : List Cell → Dat → Prop) : Prop := ∀ (L : Addr → Prop) (S0 : Hs) (σ : L2.St) (τ : List V) (S : Hs) (Qv : VK), Env K L S0 Γ Θ σ τ S →
  (∀ Γ' S' v d, Env K L S0 Γ' (.dt d :: Θ) σ (v :: τ) S' → Q Γ' d → Qv v S'.h) → t σ S.h Qv
def VT (t : TT) (Q : List Cell → Bool → Prop) : Prop := ∀ (L : Addr → Prop) (S0 : Hs) (σ : L2.St) (τ : List V) (S : Hs) (Qv : Bool → Hp → Prop), Env K L S0 Γ Θ σ τ S →
  (∀ Γ' S' b, Env K L S0 Γ' Θ σ τ S' → Q Γ' b → Qv b S'.h) → t σ S.h Qv
/-- a part of a slice -/
def VO (t : TO) (Q : List Cell → Option Int → Prop) : Prop := ∀ (L : Addr → Prop) (S0 : Hs) (σ : L2.St) (τ : List V) (S : Hs) (Qv : Option Int → Hp → Prop), Env K L S0 Γ Θ σ τ S →
  (∀ Γ' S' b, Env K L S0 Γ' Θ σ τ S' → Q Γ' b → Qv b S'.h) → t σ S.h Qv
structure DE where
  nx : List Cell → Prop
  rt : List Cell → Dat → Prop
  bk : List Cell → Prop := fun _ => False
  ct : List Cell → Prop := fun _ => False
def VS (t : TS) (R : DE) : Prop := ∀ (L : Addr → Prop) (S0 : Hs) (σ : L2.St) (τ : List V) (S : Hs) (D : Ends), Env K L S0 Γ Θ σ τ S →
  (∀ Γ' σ' S', Env K L S0 Γ' Θ σ' τ S' → R.nx Γ' → D.nx σ' S'.h) → (∀ Γ' σ' S' v d, Env K L S0 Γ' Θ σ' τ S' → Dq S'.b v d → R.rt Γ' d → D.rt v S'.h) →
  (∀ Γ' σ' S', Env K L S0 Γ' Θ σ' τ S' → R.bk Γ' → D.bk σ' S'.h) → (∀ Γ' σ' S', Env K L S0 Γ' Θ σ' τ S' → R.ct Γ' → D.ct σ' S'.h) → t D σ S.h
end
/-- what is under way becomes data -/
def Fz (Γ : List Cell) (Q : List Cell → Dat → Prop) : Tmp → Prop
  | .dt d => Q Γ d
  | .fr ds => Q Γ (.list ds)
  | .br i => ∃ ds, Γ[i]? = some (.ow ds) ∧ Q (Γ.set i (.dt (.list ds))) (.list ds)
  | .sc _ => False
  | .ob _ => False
  | .li _ => False
section
variable {K : PySem.W.Frag} {Γ : List Cell} {Θ : List Tmp}
theorem vd_of {t : TE} {Q : List Cell → Dat → Prop} (h : VE K Γ Θ t fun Γ1 c => Fz Γ1 Q c) : VD K Γ Θ t Q := fun L S0 σ τ S Qv E q => h L S0 σ τ S Qv E fun Γ' S' v c E' z => by
  cases c with
  | dt d => exact q Γ' S' v d E' z
  | fr ds =>
    obtain ⟨S2, e, E2⟩ := E'.frzTop
    rw [← e]
    exact q Γ' S2 v _ E2 z
  | br i =>
    obtain ⟨ds, hi, z⟩ := z
    obtain ⟨S2, e, E2⟩ := E'.frzSlot hi
    rw [← e]
    obtain ⟨w, h1, z2, h2⟩ := id E2.ok
    have hl := (List.getElem?_eq_some_iff.mp hi).1
    obtain ⟨u, eu, qu⟩ := h1 i _ (List.getElem?_set_self hl)
    have z2' : σ[i]? = some (some v) := z2
    rw [z2'] at eu; cases eu
    exact q _ S2 v _ (E2.pop.push qu) z
  | sc ns => exact z.elim
  | ob pp => exact z.elim
  | li R => exact z.elim
theorem ve_mono {t : TE} {Q Q' : List Cell → Tmp → Prop} (h : VE K Γ Θ t Q) (f : ∀ Γ c, Q Γ c → Q' Γ c) : VE K Γ Θ t Q' := fun L S0 σ τ S Qv E q => h L S0 σ τ S Qv E fun Γ' S' v c E' z => q Γ' S' v c E' (f _ _ z)
/-! names, constants -/
theorem ve_var {i : Nat} {d : Dat} {Q : List Cell → Tmp → Prop} (h : Γ[i]? = some (.dt d)) (q : Q Γ (.dt d)) : VE K Γ Θ (tVar i) Q := fun L S0 σ τ S Qv E k => by
  obtain ⟨w, h1, h2⟩ := id E.ok
  obtain ⟨v, e, p⟩ := h1 i _ h
  exact ⟨v, e, k Γ S v _ (E.push p) q⟩
theorem ve_own {i : Nat} {c : Cell} {ds : List Dat} {Q : List Cell → Tmp → Prop} (h : Γ[i]? = some c) (hc : c.ls = some ds) (q : Q Γ (.br i)) : VE K Γ Θ (tVar i) Q := fun L S0 σ τ S Qv E k => by
  obtain ⟨a, vs, e, _⟩ := E.mutSlot h hc
  exact ⟨_, e, k Γ S _ _ (E.pushBr e) q⟩
theorem ve_c {v : V} {Q : List Cell → Tmp → Prop} (hs : sc v = true) (q : Q Γ (.dt (vd v))) : VE K Γ Θ (tC v) Q := fun L S0 σ τ S Qv E k => k Γ S v _ (E.push (dp_sc hs)) q
theorem ve_int {i : Int} {Q : List Cell → Tmp → Prop} (q : Q Γ (.dt (.int i))) : VE K Γ Θ (tC (.int i)) Q := ve_c rfl q
theorem ve_bl {i : Bool} {Q : List Cell → Tmp → Prop} (q : Q Γ (.dt (.bool i))) : VE K Γ Θ (tC (.bl i)) Q := ve_c rfl q
theorem ve_non {Q : List Cell → Tmp → Prop} (q : Q Γ (.dt .none)) : VE K Γ Θ (tC .non) Q := ve_c rfl q
theorem ve_str {x : Str} {Q : List Cell → Tmp → Prop} (q : Q Γ (.dt (.str x))) : VE K Γ Θ (tC (.str x)) Q := ve_c rfl q
/-! operators by two values -/
def R2V (K : PySem.W.Frag) (r : R2) (Γ : List Cell) (Θ : List Tmp) (x y : Tmp) (Q : List Cell → Tmp → Prop) : Prop := ∀ (L : Addr → Prop) (S0 : Hs) (σ : L2.St) (τ : List V) (S : Hs) (vx vy : V) (Qv : VK), Env K L S0 Γ (y :: x :: Θ) σ (vy :: vx :: τ) S →
  (∀ Γ' S' v c, Env K L S0 Γ' (c :: Θ) σ (v :: τ) S' → Q Γ' c → Qv v S'.h) → r vx vy S.h Qv
theorem ve_op {r : R2} {ta tb : TE} {Q : List Cell → Tmp → Prop} (h : VE K Γ Θ ta fun Γ1 x => VE K Γ1 (x :: Θ) tb fun Γ2 y => R2V K r Γ2 Θ x y Q) : VE K Γ Θ (tOp r ta tb) Q := fun L S0 σ τ S Qv E k =>
  h L S0 σ τ S _ E fun Γ1 S1 vx x E1 h1 => h1 L S0 σ _ S1 _ E1 fun Γ2 S2 vy y E2 h2 => h2 L S0 σ τ S2 vx vy Qv E2 k
theorem r2_ii {f : Int → Int → Int} {i j : Int} {Q : List Cell → Tmp → Prop} (q : Q Γ (.dt (.int (f i j)))) : R2V K (rI0 fun i j => .int (f i j)) Γ Θ (.dt (.int i)) (.dt (.int j)) Q := fun L S0 σ τ S vx vy Qv E k =>
  ⟨i, j, dp_int E.pop.dt, dp_int E.dt, k Γ S _ _ (E.pop.pop.push (.int _)) q⟩
theorem r2_ib {f : Int → Int → Bool} {i j : Int} {Q : List Cell → Tmp → Prop} (q : Q Γ (.dt (.bool (f i j)))) : R2V K (rI0 fun i j => .bl (f i j)) Γ Θ (.dt (.int i)) (.dt (.int j)) Q := fun L S0 σ τ S vx vy Qv E k =>
  ⟨i, j, dp_int E.pop.dt, dp_int E.dt, k Γ S _ _ (E.pop.pop.push (.bl _)) q⟩
theorem r2_ic {C : Int → Int → Prop} {f : Int → Int → Int} {i j : Int} {Q : List Cell → Tmp → Prop} (hc : C i j) (q : Q Γ (.dt (.int (f i j)))) : R2V K (rI C fun i j => .int (f i j)) Γ Θ (.dt (.int i)) (.dt (.int j)) Q := fun L S0 σ τ S vx vy Qv E k =>
  ⟨i, j, dp_int E.pop.dt, dp_int E.dt, hc, k Γ S _ _ (E.pop.pop.push (.int _)) q⟩
theorem r2_eqD {x y : Tmp} {d e : Dat} {Q : List Cell → Tmp → Prop} (hx : rd Γ x d) (hy : rd Γ y e) (sd : SeqAt.shaped d = true) (se : SeqAt.shaped e = true) (q : Q Γ (.dt (.bool (PyData.eqv d e)))) : R2V K (rEqD K) Γ Θ x y Q := fun L S0 σ τ S vx vy Qv E k =>
  ⟨d, e, dq_dp _ _ (E.pop.rd hx), dq_dp _ _ (E.rd hy), sd, se, k Γ S _ _ (E.pop.pop.push (.bl _)) q⟩
theorem r2_neD {x y : Tmp} {d e : Dat} {Q : List Cell → Tmp → Prop} (hx : rd Γ x d) (hy : rd Γ y e) (sd : SeqAt.shaped d = true) (se : SeqAt.shaped e = true) (q : Q Γ (.dt (.bool (!PyData.eqv d e)))) : R2V K (rNeD K) Γ Θ x y Q := fun L S0 σ τ S vx vy Qv E k =>
  ⟨d, e, dq_dp _ _ (E.pop.rd hx), dq_dp _ _ (E.rd hy), sd, se, k Γ S _ _ (E.pop.pop.push (.bl _)) q⟩
end
end Ld
set_option Elab.async false
set_option linter.all false
set_option maxRecDepth 100000
namespace Ld
open PySem PySem.Spec PyProof.Rows L2 Lx
section
variable {K : PySem.W.Frag} {Γ : List Cell} {Θ : List Tmp}
/-! ### tests -/
theorem vt_mono {t : TT} {Q Q' : List Cell → Bool → Prop} (h : VT K Γ Θ t Q) (f : ∀ Γ b, Q Γ b → Q' Γ b) : VT K Γ Θ t Q' := fun L S0 σ τ S Qv E k => h L S0 σ τ S Qv E fun Γ' S' b E' q => k Γ' S' b E' (f _ _ q)
def AsB (Γ : List Cell) (Q : List Cell → Bool → Prop) : Tmp → Prop
  | .dt (.bool b) => Q Γ b
  | _ => False
theorem asB_ok {L : Addr → Prop} {S0 S : Hs} {σ : L2.St} {τ : List V} {v : V} {c : Tmp} {Q : List Cell → Bool → Prop} (E : Env K L S0 Γ (c :: Θ) σ (v :: τ) S) (h : AsB Γ Q c) : ∃ b, v = .bl b ∧ Q Γ b := by
  cases c with
  | dt d =>
    cases d with
    | bool b => exact ⟨b, dp_bool E.dt, h⟩
    | _ => exact h.elim
  | _ => exact h.elim
theorem vt_B {te : TE} {Q : List Cell → Bool → Prop} (h : VE K Γ Θ te fun Γ1 c => AsB Γ1 Q c) : VT K Γ Θ (tB te) Q := fun L S0 σ τ S Qv E k => h L S0 σ τ S _ E fun Γ' S' v c E' q => by
  obtain ⟨b, e, q⟩ := asB_ok E' q
  exact ⟨b, e, k _ _ _ E'.pop q⟩
theorem vt_test {te : TE} {Q : List Cell → Bool → Prop} (h : VE K Γ Θ te fun Γ1 c => AsB Γ1 Q c) : VT K Γ Θ (tTest te) Q := fun L S0 σ τ S Qv E k => h L S0 σ τ S _ E fun Γ' S' v c E' q => by
  obtain ⟨b, e, q⟩ := asB_ok E' q
  exact ⟨b, e, k _ _ _ E'.pop q⟩
theorem vt_and {t u : TT} {Q : List Cell → Bool → Prop} (h : VT K Γ Θ t fun Γ1 b => (b = true → VT K Γ1 Θ u Q) ∧ (b = false → Q Γ1 false)) : VT K Γ Θ (tAnd t u) Q := fun L S0 σ τ S Qv E k => h L S0 σ τ S _ E fun Γ' S' b E' q => by
  cases b with
  | true => rw [if_pos rfl]; exact q.1 rfl L S0 σ τ S' Qv E' k
  | false => rw [if_neg Bool.false_ne_true]; exact k _ _ _ E' (q.2 rfl)
theorem vt_or {t u : TT} {Q : List Cell → Bool → Prop} (h : VT K Γ Θ t fun Γ1 b => (b = true → Q Γ1 true) ∧ (b = false → VT K Γ1 Θ u Q)) : VT K Γ Θ (tOr t u) Q := fun L S0 σ τ S Qv E k => h L S0 σ τ S _ E fun Γ' S' b E' q => by
  cases b with
  | true => rw [if_pos rfl]; exact k _ _ _ E' (q.1 rfl)
  | false => rw [if_neg Bool.false_ne_true]; exact q.2 rfl L S0 σ τ S' Qv E' k
theorem vt_not {t : TT} {Q : List Cell → Bool → Prop} (h : VT K Γ Θ t fun Γ1 b => Q Γ1 (!b)) : VT K Γ Θ (tNot t) Q := fun L S0 σ τ S Qv E k => h L S0 σ τ S _ E fun Γ' S' b E' q => k _ _ _ E' q
theorem vt_yes {Q : List Cell → Bool → Prop} (h : Q Γ true) : VT K Γ Θ tYes Q := fun L S0 σ τ S Qv E k => k Γ S true E h
theorem ve_ifE {t : TT} {ta tb : TE} {Q : List Cell → Tmp → Prop} (h : VT K Γ Θ t fun Γ1 b => (b = true → VE K Γ1 Θ ta Q) ∧ (b = false → VE K Γ1 Θ tb Q)) : VE K Γ Θ (tIf t ta tb) Q := fun L S0 σ τ S Qv E k => h L S0 σ τ S _ E fun Γ' S' b E' q => by
  cases b with
  | true => rw [if_pos rfl]; exact q.1 rfl L S0 σ τ S' Qv E' k
  | false => rw [if_neg Bool.false_ne_true]; exact q.2 rfl L S0 σ τ S' Qv E' k
theorem ve_andV {ta tb : TE} {Q : List Cell → Tmp → Prop} (h : VE K Γ Θ ta fun Γ1 c => AsB Γ1 (fun Γ1 b => (b = true → VE K Γ1 Θ tb Q) ∧ (b = false → Q Γ1 (.dt (.bool false)))) c) : VE K Γ Θ (tAndV ta tb) Q := fun L S0 σ τ S Qv E k => h L S0 σ τ S _ E fun Γ' S' v c E' q => by
  obtain ⟨b, e, q⟩ := asB_ok E' q
  refine ⟨b, e, ?_⟩
  cases b with
  | true => rw [if_pos rfl]; exact q.1 rfl L S0 σ τ S' Qv E'.pop k
  | false => rw [if_neg Bool.false_ne_true]; exact k _ _ _ _ (E'.pop.push (.bl _)) (q.2 rfl)
theorem ve_orV {ta tb : TE} {Q : List Cell → Tmp → Prop} (h : VE K Γ Θ ta fun Γ1 c => AsB Γ1 (fun Γ1 b => (b = true → Q Γ1 (.dt (.bool true))) ∧ (b = false → VE K Γ1 Θ tb Q)) c) : VE K Γ Θ (tOrV ta tb) Q := fun L S0 σ τ S Qv E k => h L S0 σ τ S _ E fun Γ' S' v c E' q => by
  obtain ⟨b, e, q⟩ := asB_ok E' q
  refine ⟨b, e, ?_⟩
  cases b with
  | true => rw [if_pos rfl]; exact k _ _ _ _ (E'.pop.push (.bl _)) (q.1 rfl)
  | false => rw [if_neg Bool.false_ne_true]; exact q.2 rfl L S0 σ τ S' Qv E'.pop k
theorem ve_notV {ta : TE} {Q : List Cell → Tmp → Prop} (h : VE K Γ Θ ta fun Γ1 c => AsB Γ1 (fun Γ1 b => Q Γ1 (.dt (.bool (!b)))) c) : VE K Γ Θ (tNotV ta) Q := fun L S0 σ τ S Qv E k => h L S0 σ τ S _ E fun Γ' S' v c E' q => by
  obtain ⟨b, e, q⟩ := asB_ok E' q
  exact ⟨b, e, k _ _ _ _ (E'.pop.push (.bl _)) q⟩
theorem ve_chain {r r' : R2} {ta tb tc : TE} {Q : List Cell → Tmp → Prop}
    (h : VE K Γ Θ ta fun Γ1 x => VE K Γ1 (x :: Θ) tb fun Γ2 y => (∃ d, y = .dt d) ∧ R2V K r Γ2 (y :: Θ) x y fun Γ3 z => AsB Γ3 (fun Γ3 b => (b = true → VE K Γ3 (y :: Θ) tc fun Γ4 w => R2V K r' Γ4 Θ y w Q) ∧ (b = false → Q Γ3 (.dt (.bool false)))) z) : VE K Γ Θ (tChain r r' ta tb tc) Q := fun L S0 σ τ S Qv E k =>
  h L S0 σ τ S _ E fun Γ1 S1 vx x E1 h1 => h1 L S0 σ _ S1 _ E1 fun Γ2 S2 vy y E2 ⟨⟨d, ed⟩, h2⟩ => by
    subst ed
    have E3 : Env K L S0 Γ2 (.dt d :: x :: .dt d :: Θ) σ (vy :: vx :: vy :: τ) S2 := by
      obtain ⟨w, g1, g2, g3, g4⟩ := E2.ok
      refine ⟨E2.gr, E2.sub, E2.len, fun a => match w a with
        | some (.inr n) => if n = Θ.length then some (.inr (n + 1)) else some (.inr n)
        | o => o, fun i c e => ?_, g2, ?_, g2, g4.imp fun n u t hn q => ?_⟩
      · have q := g1 i c e
        cases c with
        | no => trivial
        | dt d => exact q
        | ow ds => obtain ⟨a, e, o, n⟩ := q; exact ⟨a, e, ⟨o.nb, by simp only [o.at_], o.is⟩, n⟩
        | ln ds => obtain ⟨a, e, o, n⟩ := q; exact ⟨a, e, ⟨o.nb, by simp only [o.at_], o.is⟩, n⟩
        | sc ns => exact q
        | ob pp => obtain ⟨a, e, o, n⟩ := q; exact ⟨a, e, ⟨o.nb, by simp only [o.at_], o.is⟩, n⟩
        | li R => obtain ⟨a, e, o⟩ := q; exact ⟨a, e, o.reK (fun x ho => by simp only [ho]) fun _ h => h⟩
      · cases x with
        | dt d => exact g3
        | fr ds => obtain ⟨a, e, o, n⟩ := g3; exact ⟨a, e, ⟨o.nb, by simp only [o.at_, if_pos, List.length_cons], o.is⟩, n⟩
        | br i => exact g3
        | sc ns => exact g3
        | ob pp => obtain ⟨a, e, o, n⟩ := g3; exact ⟨a, e, ⟨o.nb, by simp only [o.at_, if_pos, List.length_cons], o.is⟩, n⟩
        | li R => obtain ⟨a, e, o⟩ := g3; exact ⟨a, e, o.reK (fun x ho => by simp only [ho, if_pos, List.length_cons]) fun _ h => h⟩
      · cases t with
        | dt d => exact q
        | fr ds => obtain ⟨a, e, o, m⟩ := q; exact ⟨a, e, ⟨o.nb, by simp only [o.at_, if_neg (Nat.ne_of_lt hn)], o.is⟩, m⟩
        | br i => exact q
        | sc ns => exact q
        | ob pp => obtain ⟨a, e, o, m⟩ := q; exact ⟨a, e, ⟨o.nb, by simp only [o.at_, if_neg (Nat.ne_of_lt hn)], o.is⟩, m⟩
        | li R => obtain ⟨a, e, o⟩ := q; exact ⟨a, e, o.reK (fun x ho => by simp only [ho, if_neg (Nat.ne_of_lt hn)]) fun _ h => h⟩
    refine h2 L S0 σ (vy :: τ) S2 vx vy _ E3 fun Γ3 S3 z c E4 h3 => ?_
    obtain ⟨b, e, q⟩ := asB_ok E4 h3
    refine ⟨b, e, ?_⟩
    cases b with
    | true => rw [if_pos rfl]; exact q.1 rfl L S0 σ (vy :: τ) S3 _ E4.pop fun Γ4 S4 vw w E5 h5 => h5 L S0 σ τ S4 vy vw Qv E5 k
    | false => rw [if_neg Bool.false_ne_true]; exact k _ _ _ _ (E4.pop.pop.push (.bl _)) (q.2 rfl)
/-! ### more operators by values -/
def isNo : Dat → Bool
  | .none => true
  | _ => false
theorem dp_isNo {H : Hp} {v : V} {d : Dat} (h : Dq H v d) : decide (v = .non) = isNo d := by cases h <;> rfl
def rIsN : R2 := fun x y H Q => y = .non ∧ Q (.bl (decide (x = .non))) H
def rNotN : R2 := fun x y H Q => y = .non ∧ Q (.bl (!decide (x = .non))) H
theorem oi_notN {X : Cx} : OpR X (compareOp .IsNot) rNotN := op_notN
theorem r2_isN {x : Tmp} {d : Dat} {Q : List Cell → Tmp → Prop} (hx : rd Γ x d) (q : Q Γ (.dt (.bool (isNo d)))) : R2V K rIsN Γ Θ x (.dt .none) Q := fun L S0 σ τ S vx vy Qv E k =>
  ⟨dp_none E.dt, by rw [dp_isNo (E.pop.rd hx)]; exact k Γ S _ _ (E.pop.pop.push (.bl _)) q⟩
theorem r2_notN {x : Tmp} {d : Dat} {Q : List Cell → Tmp → Prop} (hx : rd Γ x d) (q : Q Γ (.dt (.bool (!isNo d)))) : R2V K rNotN Γ Θ x (.dt .none) Q := fun L S0 σ τ S vx vy Qv E k =>
  ⟨dp_none E.dt, by rw [dp_isNo (E.pop.rd hx)]; exact k Γ S _ _ (E.pop.pop.push (.bl _)) q⟩
def rIsBl : R2 := fun x y H Q => ∃ a b : Bool, x = .bl a ∧ y = .bl b ∧ Q (.bl (decide (a = b))) H
def rNotBl : R2 := fun x y H Q => ∃ a b : Bool, x = .bl a ∧ y = .bl b ∧ Q (.bl (!decide (a = b))) H
theorem r2_isB {a b : Bool} {Q : List Cell → Tmp → Prop} (q : Q Γ (.dt (.bool (decide (a = b))))) : R2V K rIsBl Γ Θ (.dt (.bool a)) (.dt (.bool b)) Q := fun L S0 σ τ S vx vy Qv E k =>
  ⟨a, b, dp_bool E.pop.dt, dp_bool E.dt, k Γ S _ _ (E.pop.pop.push (.bl _)) q⟩
theorem r2_notB {a b : Bool} {Q : List Cell → Tmp → Prop} (q : Q Γ (.dt (.bool (!decide (a = b))))) : R2V K rNotBl Γ Θ (.dt (.bool a)) (.dt (.bool b)) Q := fun L S0 σ τ S vx vy Qv E k =>
  ⟨a, b, dp_bool E.pop.dt, dp_bool E.dt, k Γ S _ _ (E.pop.pop.push (.bl _)) q⟩
/-- x in a flat list or tuple -/
def flD : Dat → Bool
  | .none => true
  | .bool _ => true
  | .int _ => true
  | .str _ => true
  | _ => false
def eqF : Dat → Dat → Bool
  | .none, .none => true
  | .bool a, .bool b => a == b
  | .bool a, .int b => (if a then 1 else 0) == b
  | .int a, .bool b => a == (if b then 1 else 0)
  | .int a, .int b => a == b
  | .str a, .str b => a == b
  | _, _ => false
theorem dq_flat {H : Hp} {v : V} {d : Dat} (h : Dq H v d) (f : flD d = true) : flatV v = true := by
  cases h <;> first | rfl | cases f
theorem dq_eqF {H : Hp} {u v : V} {d e : Dat} (h : Dq H u d) (g : Dq H v e) (f1 : flD d = true) (f2 : flD e = true) : eqV u v = eqF d e := by
  cases h <;> first | (cases g <;> first | rfl | cases f2) | cases f1
theorem dqa_flat {H : Hp} : ∀ {vs : List V} {ds : List Dat}, DqAll H vs ds → ds.all flD = true → vs.all flatV = true
  | _, _, .nil, _ => rfl
  | _, _, .cons h t, f => by
    rw [List.all_cons, Bool.and_eq_true] at f
    rw [List.all_cons, dq_flat h f.1, dqa_flat t f.2, Bool.and_true]
theorem dqa_in {H : Hp} {v : V} {e : Dat} (g : Dq H v e) (f2 : flD e = true) : ∀ {vs : List V} {ds : List Dat}, DqAll H vs ds → ds.all flD = true → inV v vs = ds.any fun d => eqF d e
  | _, _, .nil, _ => rfl
  | _, _, .cons h t, f => by
    rw [List.all_cons, Bool.and_eq_true] at f
    show (eqV _ v || inV v _) = _
    rw [List.any_cons, dq_eqF h g f.1 f2, dqa_in g f2 t f.2]
def SeqD (Γ : List Cell) (x : Tmp) (ds : List Dat) : Prop := rd Γ x (.list ds) ∨ rd Γ x (.tuple ds)
theorem seqD_ok {L : Addr → Prop} {S0 S : Hs} {σ : L2.St} {τ : List V} {v : V} {c : Tmp} {ds : List Dat} (E : Env K L S0 Γ (c :: Θ) σ (v :: τ) S) (h : SeqD Γ c ds) : ∃ a xs, v = .ref a ∧ (SqL K S.h a xs ∨ SqT K S.h a xs) ∧ DqAll S.h xs ds := by
  rcases h with h | h
  · obtain ⟨a, xs, e, q, p⟩ := dp_list (E.rd h)
    exact ⟨a, xs, e, .inl (.of q), p⟩
  · obtain ⟨a, o, xs, e, _, q, p⟩ := dp_tup (E.rd h)
    exact ⟨a, xs, e, .inr (sqt_f q), p⟩
theorem r2_in {x y : Tmp} {e : Dat} {ds : List Dat} {Q : List Cell → Tmp → Prop} (hx : rd Γ x e) (hy : SeqD Γ y ds) (f1 : flD e = true) (f2 : ds.all flD = true) (q : Q Γ (.dt (.bool (ds.any fun d => eqF d e)))) : R2V K (rIn K false) Γ Θ x y Q := fun L S0 σ τ S vx vy Qv E k => by
  obtain ⟨a, xs, ev, h, p⟩ := seqD_ok E hy
  have g := E.pop.rd hx
  refine ⟨a, xs, ev, h, dq_flat g f1, dqa_flat p f2, ?_⟩
  rw [if_neg Bool.false_ne_true, dqa_in g f1 p f2]
  exact k Γ S _ _ (E.pop.pop.push (.bl _)) q
/-- subscripts -/
theorem atI_dq {H : Hp} {vs : List V} {ds : List Dat} {i : Int} {d : Dat} (p : DqAll H vs ds) (h : atI ds i = some d) : ∃ v, atI vs i = some v ∧ Dq H v d := by
  unfold atI at h ⊢
  rw [p.len]
  cases e : ixN ds.length i with
  | none => rw [e] at h; cases h
  | some j =>
    rw [e] at h
    exact p.get h
theorem r2_ixT {i : Int} {ds : List Dat} {d : Dat} {Q : List Cell → Tmp → Prop} (h : atI ds i = some d) (q : Q Γ (.dt d)) : R2V K (rIxT K) Γ Θ (.dt (.tuple ds)) (.dt (.int i)) Q := fun L S0 σ τ S vx vy Qv E k => by
  obtain ⟨a, o, xs, ea, _, hs, p⟩ := dp_tup E.pop.dt
  obtain ⟨v, e, g⟩ := atI_dq p h
  exact ⟨a, xs, i, v, ea, dp_int E.dt, sqt_f (E.sub _ _ hs), e, k Γ S v _ (E.pop.pop.push g) q⟩
end
end Ld
set_option Elab.async false
set_option linter.all false
set_option maxRecDepth 100000
namespace Ld
open PySem PySem.Spec PyProof.Rows L2 Lx
section
variable {K : PySem.W.Frag} {Γ : List Cell} {Θ : List Tmp}
/-! ### tuples put together -/
theorem r2_catT {ds es : List Dat} {Q : List Cell → Tmp → Prop} (hz : ds.length + es.length ≤ sizeLine) (q : Q Γ (.dt (.tuple (ds ++ es)))) : R2V K (rCatF K) Γ Θ (.dt (.tuple ds)) (.dt (.tuple es)) Q := fun L S0 σ τ S vx vy Qv E k => by
  obtain ⟨b, o2, zs, eb, d2, qb, pb⟩ := dp_tup E.dt
  obtain ⟨a, o1, xs, ea, d1, qa, pa⟩ := dp_tup E.pop.dt
  refine ⟨a, b, xs, zs, ea, eb, sqt_f (E.sub _ _ qa), sqt_f (E.sub _ _ qb), by rw [pa.len, pb.len]; exact hz, fun e => ?_, fun _ e => ?_, fun _ _ p o hd hp => ?_⟩
  · subst e
    cases pa
    exact k Γ _ _ _ (E.pop.pop.push (.tup d2 qb pb)) q
  · subst e
    cases pb
    rw [List.append_nil] at q
    exact k Γ _ _ _ (E.pop.pop.push (.tup d1 qa pa)) q
  · exact k Γ _ _ _ (E.pop.pop.newTup hd hp (pa.app pb)) q
theorem dqa_rep {H : Hp} {vs : List V} {ds : List Dat} (h : DqAll H vs ds) : ∀ n : Nat, DqAll H (List.replicate n vs).flatten (List.replicate n ds).flatten
  | 0 => .nil
  | n + 1 => by
    rw [List.replicate_succ, List.replicate_succ, List.flatten_cons, List.flatten_cons]
    exact h.app (dqa_rep h n)
theorem r2_rep {x : Tmp} {ds : List Dat} {j : Int} {Q : List Cell → Tmp → Prop} (hx : x = .dt (.list ds) ∨ x = .fr ds) (h1 : -(2 ^ 63) ≤ j) (h2 : j < 2 ^ 63) (hz : ds.length * j.toNat ≤ sizeLine) (q : Q Γ (.fr (List.replicate j.toNat ds).flatten)) :
    R2V K rRep Γ Θ x (.dt (.int j)) Q := fun L S0 σ τ S vx vy Qv E k => by
  obtain ⟨a, xs, ea, qa, pa⟩ : ∃ a xs, vx = .ref a ∧ S.h a = some (.lst xs) ∧ DqAll S.b xs ds := by
    have E1 := E.pop
    rcases hx with rfl | rfl
    · obtain ⟨a, xs, e, q, p⟩ := dp_list E1.dt
      exact ⟨a, xs, e, E.sub _ _ q, p⟩
    · obtain ⟨w, a, e, o, _⟩ := E1.top
      obtain ⟨_, _, us, q, p⟩ := o
      exact ⟨a, us, e, q, p⟩
  exact ⟨a, j, xs, ea, dp_int E.dt, qa, h1, h2, by rw [pa.len]; exact hz, fun p hp => k Γ _ _ _ (E.pop.pop.newLst hp (dqa_rep pa _)) q⟩
/-! ### a sign -/
theorem ve_un {r : V → Hp → VK → Prop} {f : Int → Int} {ta : TE} {Q : List Cell → Tmp → Prop} (hr : r = rU fun i => .int (f i)) (h : VE K Γ Θ ta fun Γ1 x => ∃ i, x = .dt (.int i) ∧ Q Γ1 (.dt (.int (f i)))) : VE K Γ Θ (tUn r ta) Q := fun L S0 σ τ S Qv E k => h L S0 σ τ S _ E fun Γ1 S1 v x E1 ⟨i, ex, q⟩ => by
  subst ex hr
  exact ⟨i, dp_int E1.dt, k Γ1 S1 _ _ (E1.pop.push (.int _)) q⟩
/-! ### argument lists -/
inductive Arg where
  | dt (d : Dat) | sc (ns : List Int)
def Arg.tmp : Arg → Tmp
  | .dt d => .dt d
  | .sc ns => .sc ns
def Arg.cell : Arg → Cell
  | .dt d => .dt d
  | .sc ns => .sc ns
def ArgOk (K : PySem.W.Frag) (B : Hp) (v : V) : Arg → Prop
  | .dt d => Dq B v d
  | .sc ns => ∃ a, v = .ref a ∧ SqL K B a (ns.map V.int)
inductive ArgsOk (K : PySem.W.Frag) (B : Hp) : List V → List Arg → Prop
  | nil : ArgsOk K B [] []
  | cons {v : V} {vs : List V} {a : Arg} {as : List Arg} : ArgOk K B v a → ArgsOk K B vs as → ArgsOk K B (v :: vs) (a :: as)
theorem ArgsOk.len {B : Hp} : ∀ {vs : List V} {as : List Arg}, ArgsOk K B vs as → vs.length = as.length
  | _, _, .nil => rfl
  | _, _, .cons _ t => by rw [List.length_cons, List.length_cons, t.len]
def VX (K : PySem.W.Frag) (Γ : List Cell) (Θ : List Tmp) (t : TE) (Q : List Cell → Arg → Prop) : Prop := ∀ (L : Addr → Prop) (S0 : Hs) (σ : L2.St) (τ : List V) (S : Hs) (Qv : VK), Env K L S0 Γ Θ σ τ S →
  (∀ Γ' S' v a, Env K L S0 Γ' (a.tmp :: Θ) σ (v :: τ) S' → Q Γ' a → Qv v S'.h) → t σ S.h Qv
def VAX (K : PySem.W.Frag) (Γ : List Cell) (Θ : List Tmp) (t : TA) (Q : List Cell → List Arg → Prop) : Prop := ∀ (L : Addr → Prop) (S0 : Hs) (σ : L2.St) (τ : List V) (S : Hs) (Qv : List V → Hp → Prop), Env K L S0 Γ Θ σ τ S →
  (∀ Γ' S' vs as, Env K L S0 Γ' Θ σ τ S' → ArgsOk K S'.b vs as → Q Γ' as → Qv vs S'.h) → t σ S.h Qv
/-- what is under way becomes an argument -/
def Az (Γ : List Cell) (Q : List Cell → Arg → Prop) : Tmp → Prop
  | .dt d => Q Γ (.dt d)
  | .fr ds => Q Γ (.dt (.list ds))
  | .br i => ∃ ds, Γ[i]? = some (.ow ds) ∧ Q (Γ.set i (.dt (.list ds))) (.dt (.list ds))
  | .sc ns => Q Γ (.sc ns)
  | .ob _ => False
  | .li _ => False
theorem vx_of {t : TE} {Q : List Cell → Arg → Prop} (h : VE K Γ Θ t fun Γ1 c => Az Γ1 Q c) : VX K Γ Θ t Q := fun L S0 σ τ S Qv E q => h L S0 σ τ S Qv E fun Γ' S' v c E' z => by
  cases c with
  | dt d => exact q Γ' S' v (.dt d) E' z
  | fr ds =>
    obtain ⟨S2, e, E2⟩ := E'.frzTop
    rw [← e]
    exact q Γ' S2 v (.dt _) E2 z
  | sc ns => exact q Γ' S' v (.sc ns) E' z
  | ob pp => exact z.elim
  | li R => exact z.elim
  | br i =>
    obtain ⟨ds, hi, z⟩ := z
    obtain ⟨S2, e, E2⟩ := E'.frzSlot hi
    rw [← e]
    obtain ⟨w, h1, z2, h2⟩ := id E2.ok
    have hl := (List.getElem?_eq_some_iff.mp hi).1
    obtain ⟨u, eu, qu⟩ := h1 i _ (List.getElem?_set_self hl)
    have z2' : σ[i]? = some (some v) := z2
    rw [z2'] at eu; cases eu
    exact q _ S2 v (.dt _) (E2.pop.push qu) z
theorem argOk_top {L : Addr → Prop} {S0 S : Hs} {σ : L2.St} {τ : List V} {v : V} {a : Arg} (E : Env K L S0 Γ (a.tmp :: Θ) σ (v :: τ) S) : ArgOk K S.b v a := by
  obtain ⟨w, z⟩ := E.top
  cases a with
  | dt d => exact z
  | sc ns => exact z
theorem vax_nil {Q : List Cell → List Arg → Prop} (q : Q Γ []) : VAX K Γ Θ tNil Q := fun L S0 σ τ S Qv E k => k Γ S [] [] E .nil q
theorem vax_cons {te : TE} {t : TA} {Q : List Cell → List Arg → Prop} (h : VX K Γ Θ te fun Γ1 a => VAX K Γ1 (a.tmp :: Θ) t fun Γ2 as => Q Γ2 (a :: as)) : VAX K Γ Θ (tCons te t) Q := fun L S0 σ τ S Qv E k =>
  h L S0 σ τ S _ E fun Γ1 S1 v a E1 h1 => h1 L S0 σ (v :: τ) S1 _ E1 fun Γ2 S2 vs as E2 p q => k Γ2 S2 (v :: vs) (a :: as) E2.pop (.cons (argOk_top E2) p) q
/-- arguments that are data -/
def dts : List Arg → Option (List Dat)
  | [] => some []
  | .dt d :: as => (dts as).map (d :: ·)
  | .sc _ :: _ => none
theorem dts_ok {B : Hp} : ∀ {vs : List V} {as : List Arg} {ds : List Dat}, ArgsOk K B vs as → dts as = some ds → DqAll B vs ds
  | _, _, _, .nil, h => by cases h; exact .nil
  | _, _, ds, .cons (a := .dt d) (as := as) h t, e => by
    unfold dts at e
    cases q : dts as with
    | none => rw [q] at e; cases e
    | some es =>
      rw [q] at e
      cases e
      exact .cons h (dts_ok t q)
  | _, _, _, .cons (a := .sc _) _ _, e => by cases e
/-! ### displays -/
theorem ve_tup {t : TA} {Q : List Cell → Tmp → Prop} (h : VAX K Γ Θ t fun Γ1 as => ∃ ds, dts as = some ds ∧ ds.length ≤ sizeLine ∧ Q Γ1 (.dt (.tuple ds))) : VE K Γ Θ (tTupF t) Q := fun L S0 σ τ S Qv E k => h L S0 σ τ S _ E fun Γ1 S1 vs as E1 p ⟨ds, e, z, q⟩ => by
  have g := dts_ok p e
  exact ⟨by rw [g.len]; exact z, fun l o hd hl => k Γ1 _ _ _ (E1.newTup hd hl g) q⟩
theorem ve_lst {t : TA} {Q : List Cell → Tmp → Prop} (h : VAX K Γ Θ t fun Γ1 as => ∃ ds, dts as = some ds ∧ ds.length ≤ sizeLine ∧ Q Γ1 (.fr ds)) : VE K Γ Θ (tLst t) Q := fun L S0 σ τ S Qv E k => h L S0 σ τ S _ E fun Γ1 S1 vs as E1 p ⟨ds, e, z, q⟩ => by
  have g := dts_ok p e
  exact ⟨by rw [g.len]; exact z, fun l hl => k Γ1 _ _ _ (E1.newLst hl g) q⟩
/-! ### calls of defs -/
theorem Env.lent {L : Addr → Prop} {S0 S S' : Hs} {σ : L2.St} {τ : List V} {a : Addr} {i : Nat} {c : Cell} {ds zs : List Dat} (E : Env K L S0 Γ Θ σ τ S) (hi : Γ[i]? = some c) (hc : c.ls = some ds) (ha : σ[i]? = some (some (.ref a)))
    (g : Gr (fun b => b = a) S S') (sub : Same S'.b S'.h) (nb : S'.b a = none) (h : ∃ us, S'.h a = some (.lst us) ∧ DqAll S'.b us zs) : Env K L S0 (Γ.set i (c.put zs)) Θ σ τ S' := by
  obtain ⟨w, h1, h2⟩ := E.ok
  have hil := (List.getElem?_eq_some_iff.mp hi).1
  obtain ⟨o, n0⟩ : Own w (.inl i) S a ds ∧ (S0.h a = none ∨ L a) := by
    have z := h1 i c hi
    cases c with
    | no => cases hc
    | dt d => cases hc
    | sc ns => cases hc
    | ob pp => cases hc
    | li R => cases hc
    | ow es => cases hc; obtain ⟨b, e, r, n⟩ := z; rw [ha] at e; cases e; exact ⟨r, .inl n⟩
    | ln es => cases hc; obtain ⟨b, e, r, n⟩ := z; rw [ha] at e; cases e; exact ⟨r, .inr n⟩
  have keep : ∀ {k : Sum Nat Nat} {b : Addr} {es : List Dat}, Own w k S b es → k ≠ .inl i → Own w k S' b es := fun {k b es} r n => by
    have ne : b ≠ a := r.apart o n
    obtain ⟨nb', e, us, q, p⟩ := r
    exact ⟨g.own b nb' (by rw [q]; exact fun z => nomatch z), e, us, g.h b _ ne q, dpa_mono g.b _ _ p⟩
  have keepO : ∀ {k : Sum Nat Nat} {b : Addr} {es : HO}, OwnO w k S b es → k ≠ .inl i → OwnO w k S' b es := fun {k b es} r n => by
    have ne : b ≠ a := (o.apartO r n.symm).symm
    obtain ⟨nb', e, q⟩ := r
    exact ⟨g.own b nb' (by rw [q]; exact fun z => nomatch z), e, g.h b _ ne q⟩
  have keepL : ∀ {k : Sum Nat Nat} {b : Addr} {R : Res} {N : Addr → Prop}, OwnL w k S b R N → k ≠ .inl i → OwnL w k S' b R N := fun {k b R N} r n => by
    obtain ⟨F, q, f⟩ := r
    have ne : ∀ x, F x → x ≠ a := fun x hx e => n (by
      have e1 := o.at_
      rw [← e, (f x hx).2.1] at e1
      exact Option.some.inj e1)
    refine ⟨F, R.frame q g.b fun x hx => ?_, fun x hx => ⟨g.own x (f x hx).1 (R.dom q hx), (f x hx).2⟩⟩
    cases e : S.h x with
    | none => exact absurd e (R.dom q hx)
    | some u => exact g.h x u (ne x hx) e
  refine ⟨E.gr.trans g fun b e => ?_, sub, by rw [List.length_set]; exact E.len, w, fun j c' e => ?_, h2.imp fun k u t hk z => ?_⟩
  · rw [e]; exact n0.symm
  · by_cases hj : i = j
    · subst hj
      rw [List.getElem?_set_self hil] at e
      have z := h1 i c hi
      cases c with
      | no => cases hc
      | dt d => cases hc
      | sc ns => cases hc
      | ob pp => cases hc
      | li R => cases hc
      | ow es => cases e; obtain ⟨b, e, r, n⟩ := z; rw [ha] at e; cases e; exact ⟨_, ha, ⟨nb, o.at_, h⟩, n⟩
      | ln es => cases e; obtain ⟨b, e, r, n⟩ := z; rw [ha] at e; cases e; exact ⟨_, ha, ⟨nb, o.at_, h⟩, n⟩
    · rw [List.getElem?_set_ne hj] at e
      have z := h1 j c' e
      cases c' with
      | no => trivial
      | dt d => obtain ⟨v, e, r⟩ := z; exact ⟨v, e, dp_mono g.b _ _ r⟩
      | ow es => obtain ⟨b, e, r, n⟩ := z; exact ⟨b, e, keep r (fun z => hj (Sum.inl.inj z).symm), n⟩
      | ln es => obtain ⟨b, e, r, n⟩ := z; exact ⟨b, e, keep r (fun z => hj (Sum.inl.inj z).symm), n⟩
      | sc ns => obtain ⟨b, e, r⟩ := z; exact ⟨b, e, g.b.seq r⟩
      | ob pp => obtain ⟨b, e, r, n⟩ := z; exact ⟨b, e, keepO r (fun z => hj (Sum.inl.inj z).symm), n⟩
      | li R => obtain ⟨b, e, r⟩ := z; exact ⟨b, e, keepL r (fun z => hj (Sum.inl.inj z).symm)⟩
  · cases t with
    | dt d => exact dp_mono g.b _ _ z
    | fr es => obtain ⟨b, e, r, n⟩ := z; exact ⟨b, e, keep r (fun z => nomatch z), n⟩
    | br j => exact z
    | sc ns => obtain ⟨b, e, r⟩ := z; exact ⟨b, e, g.b.seq r⟩
    | ob pp => obtain ⟨b, e, r, n⟩ := z; exact ⟨b, e, keepO r (fun z => nomatch z), n⟩
    | li R => obtain ⟨b, e, r⟩ := z; exact ⟨b, e, keepL r (fun z => nomatch z)⟩
theorem Env.own {L : Addr → Prop} {S0 S : Hs} {σ : L2.St} {τ : List V} {i : Nat} {c : Cell} {ds : List Dat} (E : Env K L S0 Γ Θ σ τ S) (hi : Γ[i]? = some c) (hc : c.ls = some ds) : ∃ a, σ[i]? = some (some (.ref a)) ∧ S.b a = none ∧ ∃ us, S.h a = some (.lst us) ∧ DqAll S.b us ds := by
  obtain ⟨w, h1, h2⟩ := E.ok
  have z := h1 i c hi
  cases c with
  | no => cases hc
  | dt d => cases hc
  | sc ns => cases hc
  | ob pp => cases hc
  | li R => cases hc
  | ow es => cases hc; obtain ⟨b, e, r, n⟩ := z; exact ⟨b, e, r.nb, r.is⟩
  | ln es => cases hc; obtain ⟨b, e, r, n⟩ := z; exact ⟨b, e, r.nb, r.is⟩
/-- slot i holds a list of one's own or a lent one -/
def IsLs (Γ : List Cell) (i : Nat) (ds : List Dat) : Prop := ∃ c, Γ[i]? = some c ∧ c.ls = some ds
/-- .. what it holds is changed -/
def putC (Γ : List Cell) (i : Nat) (ds : List Dat) : List Cell := match Γ[i]? with
  | some c => Γ.set i (c.put ds)
  | none => Γ
theorem putC_eq {i : Nat} {c : Cell} {ds : List Dat} (h : Γ[i]? = some c) : putC Γ i ds = Γ.set i (c.put ds) := by unfold putC; rw [h]
/-! ### built-ins by one value, two values -/
def C1V (K : PySem.W.Frag) (r : List V → Hp → VK → Prop) (Γ : List Cell) (Θ : List Tmp) (x : Tmp) (Q : List Cell → Tmp → Prop) : Prop := ∀ (L : Addr → Prop) (S0 : Hs) (σ : L2.St) (τ : List V) (S : Hs) (vx : V) (Qv : VK), Env K L S0 Γ (x :: Θ) σ (vx :: τ) S →
  (∀ Γ' S' v c, Env K L S0 Γ' (c :: Θ) σ (v :: τ) S' → Q Γ' c → Qv v S'.h) → r [vx] S.h Qv
def C2V (K : PySem.W.Frag) (r : List V → Hp → VK → Prop) (Γ : List Cell) (Θ : List Tmp) (x y : Tmp) (Q : List Cell → Tmp → Prop) : Prop := ∀ (L : Addr → Prop) (S0 : Hs) (σ : L2.St) (τ : List V) (S : Hs) (vx vy : V) (Qv : VK), Env K L S0 Γ (y :: x :: Θ) σ (vy :: vx :: τ) S →
  (∀ Γ' S' v c, Env K L S0 Γ' (c :: Θ) σ (v :: τ) S' → Q Γ' c → Qv v S'.h) → r [vx, vy] S.h Qv
theorem ve_c1 {r : List V → Hp → VK → Prop} {ta : TE} {Q : List Cell → Tmp → Prop} (h : VE K Γ Θ ta fun Γ1 x => C1V K r Γ1 Θ x Q) : VE K Γ Θ (tCB r (tCons ta tNil)) Q := fun L S0 σ τ S Qv E k =>
  h L S0 σ τ S _ E fun Γ1 S1 vx x E1 h1 => h1 L S0 σ τ S1 vx Qv E1 k
theorem ve_c2 {r : List V → Hp → VK → Prop} {ta tb : TE} {Q : List Cell → Tmp → Prop} (h : VE K Γ Θ ta fun Γ1 x => VE K Γ1 (x :: Θ) tb fun Γ2 y => C2V K r Γ2 Θ x y Q) : VE K Γ Θ (tCB r (tCons ta (tCons tb tNil))) Q := fun L S0 σ τ S Qv E k =>
  h L S0 σ τ S _ E fun Γ1 S1 vx x E1 h1 => h1 L S0 σ _ S1 _ E1 fun Γ2 S2 vy y E2 h2 => h2 L S0 σ τ S2 vx vy Qv E2 k
def rLenSeq (K : PySem.W.Frag) : List V → Hp → VK → Prop := fun xs H Q => ∃ p ys, xs = [.ref p] ∧ (SqL K H p ys ∨ SqT K H p ys) ∧ Q (.int ys.length) H
theorem cl_len {X : Cx} : CallR X (.builtin "len") (rLenSeq X.K) := call_len_seq
theorem c1_len {x : Tmp} {ds : List Dat} {Q : List Cell → Tmp → Prop} (hx : SeqD Γ x ds) (q : Q Γ (.dt (.int ds.length))) : C1V K (rLenSeq K) Γ Θ x Q := fun L S0 σ τ S vx Qv E k => by
  obtain ⟨a, xs, e, h, p⟩ := seqD_ok E hx
  exact ⟨a, xs, by rw [e], h, by rw [p.len]; exact k Γ S _ _ (E.pop.push (.int _)) q⟩
theorem c1_lenS {ns : List Int} {Q : List Cell → Tmp → Prop} (q : Q Γ (.dt (.int ns.length))) : C1V K (rLenSeq K) Γ Θ (.sc ns) Q := fun L S0 σ τ S vx Qv E k => by
  obtain ⟨w, a, ea, hs⟩ := E.top
  exact ⟨a, _, by rw [ea], .inl (E.sub.seq hs), by rw [List.length_map]; exact k Γ S _ _ (E.pop.push (.int _)) q⟩
def rMx2 : List V → Hp → VK → Prop := fun xs H Q => ∃ i j, xs = [.int i, .int j] ∧ Q (.int (if j > i then j else i)) H
def rMn2 : List V → Hp → VK → Prop := fun xs H Q => ∃ i j, xs = [.int i, .int j] ∧ Q (.int (if j < i then j else i)) H
theorem cl_min2 {X : Cx} (hc : X.calm = true) : CallR X (.builtin "min") rMn2 := call_min2 hc
theorem c2_max {i j : Int} {Q : List Cell → Tmp → Prop} (q : Q Γ (.dt (.int (max i j)))) : C2V K rMx2 Γ Θ (.dt (.int i)) (.dt (.int j)) Q := fun L S0 σ τ S vx vy Qv E k =>
  ⟨i, j, by rw [dp_int E.dt, dp_int E.pop.dt], by
    rw [show (if j > i then j else i) = max i j by split <;> omega]
    exact k Γ S _ _ (E.pop.pop.push (.int _)) q⟩
theorem c2_min {i j : Int} {Q : List Cell → Tmp → Prop} (q : Q Γ (.dt (.int (min i j)))) : C2V K rMn2 Γ Θ (.dt (.int i)) (.dt (.int j)) Q := fun L S0 σ τ S vx vy Qv E k =>
  ⟨i, j, by rw [dp_int E.dt, dp_int E.pop.dt], by
    rw [show (if j < i then j else i) = min i j by split <;> omega]
    exact k Γ S _ _ (E.pop.pop.push (.int _)) q⟩
theorem intsL {L : Addr → Prop} {S0 S : Hs} {σ : L2.St} {τ : List V} {v : V} {c : Tmp} {ns : List Int} (E : Env K L S0 Γ (c :: Θ) σ (v :: τ) S) (h : rd Γ c (.list (ns.map .int))) : ∃ a, v = .ref a ∧ SqL K S.h a (ns.map V.int) := by
  obtain ⟨a, xs, e, q, p⟩ := dp_list (E.rd h)
  rw [dpa_ints p] at q
  exact ⟨a, e, .of q⟩
theorem c1_max {x : Tmp} {ns : List Int} {Q : List Cell → Tmp → Prop} (hx : rd Γ x (.list (ns.map .int))) (h0 : 0 < ns.length) (q : ∀ m, m ∈ ns → (∀ y, y ∈ ns → y ≤ m) → Q Γ (.dt (.int m))) : C1V K (L2.rMax K) Γ Θ x Q := fun L S0 σ τ S vx Qv E k => by
  obtain ⟨a, e, h⟩ := intsL E hx
  exact ⟨a, ns, by rw [e], h, h0, fun m h1 h2 => k Γ S _ _ (E.pop.push (.int _)) (q m h1 h2)⟩
theorem c1_min {x : Tmp} {ns : List Int} {Q : List Cell → Tmp → Prop} (hx : rd Γ x (.list (ns.map .int))) (h0 : 0 < ns.length) (q : ∀ m, m ∈ ns → (∀ y, y ∈ ns → m ≤ y) → Q Γ (.dt (.int m))) : C1V K (L2.rMin K) Γ Θ x Q := fun L S0 σ τ S vx Qv E k => by
  obtain ⟨a, e, h⟩ := intsL E hx
  exact ⟨a, ns, by rw [e], h, h0, fun m h1 h2 => k Γ S _ _ (E.pop.push (.int _)) (q m h1 h2)⟩
theorem boolsL {L : Addr → Prop} {S0 S : Hs} {σ : L2.St} {τ : List V} {v : V} {c : Tmp} {ns : List Bool} (E : Env K L S0 Γ (c :: Θ) σ (v :: τ) S) (h : rd Γ c (.list (ns.map .bool))) : ∃ a, v = .ref a ∧ SqL K S.h a (ns.map V.bl) := by
  obtain ⟨a, xs, e, q, p⟩ := dp_list (E.rd h)
  rw [dpa_bools p] at q
  exact ⟨a, e, .of q⟩
theorem c1_all {x : Tmp} {ns : List Bool} {Q : List Cell → Tmp → Prop} (hx : rd Γ x (.list (ns.map .bool))) (q : Q Γ (.dt (.bool (ns.all id)))) : C1V K (L2.rAll K) Γ Θ x Q := fun L S0 σ τ S vx Qv E k => by
  obtain ⟨a, e, h⟩ := boolsL E hx
  exact ⟨a, ns, by rw [e], h, k Γ S _ _ (E.pop.push (.bl _)) q⟩
def rInt1 : List V → Hp → VK → Prop := fun xs H Q => (∃ i, xs = [.int i] ∧ Q (.int i) H) ∨ ∃ k, xs = [.bl k] ∧ Q (.int (if k then 1 else 0)) H
theorem c1_intB {b : Bool} {Q : List Cell → Tmp → Prop} (q : Q Γ (.dt (.int (if b then 1 else 0)))) : C1V K rInt1 Γ Θ (.dt (.bool b)) Q := fun L S0 σ τ S vx Qv E k =>
  .inr ⟨b, by rw [dp_bool E.dt], k Γ S _ _ (E.pop.push (.int _)) q⟩
theorem c1_intI {b : Int} {Q : List Cell → Tmp → Prop} (q : Q Γ (.dt (.int b))) : C1V K rInt1 Γ Θ (.dt (.int b)) Q := fun L S0 σ τ S vx Qv E k =>
  .inl ⟨b, by rw [dp_int E.dt], k Γ S _ _ (E.pop.push (.int _)) q⟩
def rListOf (K : PySem.W.Frag) : List V → Hp → VK → Prop := fun xs H Q => ∃ p ys, xs = [.ref p] ∧ (SqL K H p ys ∨ SqT K H p ys) ∧ ∀ l, H l = none → Q (.ref l) (upd H l (.lst ys))
theorem rdB_l {L : Addr → Prop} {S0 S : Hs} {σ : L2.St} {τ : List V} {v : V} {c : Tmp} {ds : List Dat} (E : Env K L S0 Γ (c :: Θ) σ (v :: τ) S) (h : rd Γ c (.list ds)) : ∃ a us, v = .ref a ∧ S.h a = some (.lst us) ∧ DqAll S.b us ds := by
  obtain ⟨w, h1, z, h2⟩ := E.ok
  cases c with
  | dt e => cases h; obtain ⟨a, xs, e, q, p⟩ := dp_list (show Dq S.b v (.list ds) from z); exact ⟨a, xs, e, E.sub _ _ q, p⟩
  | fr es => cases h; obtain ⟨a, e, o, _⟩ := z; obtain ⟨_, _, us, q, p⟩ := o; exact ⟨a, us, e, q, p⟩
  | sc ns => exact h.elim
  | ob pp => exact h.elim
  | li R => exact h.elim
  | br i =>
    have z' : σ[i]? = some (some v) := z
    rcases h with h | ⟨es, e, h⟩
    · obtain ⟨u, e, q⟩ := h1 i _ h
      rw [z'] at e; cases e
      obtain ⟨a, xs, e, q, p⟩ := dp_list q
      exact ⟨a, xs, e, E.sub _ _ q, p⟩
    · cases e
      rcases h with h | h
      · obtain ⟨a, e, o, _⟩ := h1 i _ h
        rw [z'] at e; cases e
        obtain ⟨_, _, us, q, p⟩ := o
        exact ⟨a, us, rfl, q, p⟩
      · obtain ⟨a, e, o, _⟩ := h1 i _ h
        rw [z'] at e; cases e
        obtain ⟨_, _, us, q, p⟩ := o
        exact ⟨a, us, rfl, q, p⟩
theorem c1_listL {x : Tmp} {ds : List Dat} {Q : List Cell → Tmp → Prop} (hx : rd Γ x (.list ds)) (q : Q Γ (.fr ds)) : C1V K (rListOf K) Γ Θ x Q := fun L S0 σ τ S vx Qv E k => by
  obtain ⟨a, us, e, h, p⟩ := rdB_l E hx
  exact ⟨a, us, by rw [e], .inl (.of h), fun l hl => k Γ _ _ _ (E.pop.newLst hl p) q⟩
theorem c1_listT {ds : List Dat} {Q : List Cell → Tmp → Prop} (q : Q Γ (.fr ds)) : C1V K (rListOf K) Γ Θ (.dt (.tuple ds)) Q := fun L S0 σ τ S vx Qv E k => by
  obtain ⟨a, o, us, e, _, h, p⟩ := dp_tup E.dt
  exact ⟨a, us, by rw [e], .inr (sqt_f (E.sub _ _ h)), fun l hl => k Γ _ _ _ (E.pop.newLst hl p) q⟩
theorem c1_tupL {x : Tmp} {ds : List Dat} {Q : List Cell → Tmp → Prop} (hx : rd Γ x (.list ds)) (q : Q Γ (.dt (.tuple ds))) : C1V K (rTupOfF K) Γ Θ x Q := fun L S0 σ τ S vx Qv E k => by
  obtain ⟨a, us, e, h, p⟩ := rdB_l E hx
  exact ⟨a, us, by rw [e], .inl ⟨.of h, fun l o hd hl => k Γ _ _ _ (E.pop.newTup hd hl p) q⟩⟩
theorem c1_tupT {ds : List Dat} {Q : List Cell → Tmp → Prop} (q : Q Γ (.dt (.tuple ds))) : C1V K (rTupOfF K) Γ Θ (.dt (.tuple ds)) Q := fun L S0 σ τ S vx Qv E k => by
  obtain ⟨a, o, us, e, hd, h, p⟩ := dp_tup E.dt
  exact ⟨a, us, by rw [e], .inr ⟨sqt_f (E.sub _ _ h), k Γ S _ _ (E.pop.push (.tup hd h p)) q⟩⟩
/-! ### len(set(..)), reversed copies, slices -/
theorem ve_lenSet {ta : TE} {Q : List Cell → Tmp → Prop} (h : VE K Γ Θ ta fun Γ1 x => ∃ ns : List Int, rd Γ1 x (.list (ns.map .int)) ∧ ns.Nodup ∧ ns.length ≤ 4000 ∧ Q Γ1 (.dt (.int ns.length))) : VE K Γ Θ (RZ.tLenSetI K ta) Q := fun L S0 σ τ S Qv E k => h L S0 σ τ S _ E fun Γ1 S1 v x E1 ⟨ns, hx, h1, h2, q⟩ => by
  obtain ⟨a, e, h⟩ := intsL E1 hx
  exact ⟨a, ns, e, h, h1, h2, k Γ1 S1 _ _ (E1.pop.push (.int _)) q⟩
theorem ve_revL {ta : TE} {Q : List Cell → Tmp → Prop} (h : VE K Γ Θ ta fun Γ1 x => ∃ ds, rd Γ1 x (.list ds) ∧ Q Γ1 (.fr ds.reverse)) : VE K Γ Θ (tRevL K ta) Q := fun L S0 σ τ S Qv E k => h L S0 σ τ S _ E fun Γ1 S1 v x E1 ⟨ds, hx, q⟩ => by
  obtain ⟨a, us, e, h, p⟩ := rdB_l E1 hx
  exact ⟨a, us, e, .of h, fun l hl => k Γ1 _ _ _ (E1.pop.newLst hl p.rev) q⟩
theorem vo_none {Q : List Cell → Option Int → Prop} (q : Q Γ none) : VO K Γ Θ tNoPart Q := fun L S0 σ τ S Qv E k => k Γ S none E q
theorem vo_some {te : TE} {Q : List Cell → Option Int → Prop} (h : VE K Γ Θ te fun Γ1 x => ∃ i, x = .dt (.int i) ∧ Q Γ1 (some i)) : VO K Γ Θ (tPart te) Q := fun L S0 σ τ S Qv E k => h L S0 σ τ S _ E fun Γ1 S1 v x E1 ⟨i, ex, q⟩ => by
  subst ex
  exact ⟨i, dp_int E1.dt, k Γ1 S1 (some i) E1.pop q⟩
def cutD (xs : List Dat) (lo hi : Option Int) : List Dat := (xs.drop (HT.sIx xs.length 0 lo)).take (HT.sIx xs.length xs.length hi - HT.sIx xs.length 0 lo)
theorem dqa_cut {H : Hp} {vs : List V} {ds : List Dat} (h : DqAll H vs ds) (lo hi : Option Int) : DqAll H (cutV vs lo hi) (cutD ds lo hi) := by
  unfold cutV cutD
  rw [h.len]
  exact (h.drop _).take _
theorem ve_slL {te : TE} {tl th : TO} {Q : List Cell → Tmp → Prop} (h : VE K Γ Θ te fun Γ1 x => VO K Γ1 (x :: Θ) tl fun Γ2 lo => VO K Γ2 (x :: Θ) th fun Γ3 hi => ∃ ds, rd Γ3 x (.list ds) ∧ Q Γ3 (.fr (cutD ds lo hi))) : VE K Γ Θ (tSl (rSlL K) te tl th) Q := fun L S0 σ τ S Qv E k =>
  h L S0 σ τ S _ E fun Γ1 S1 v x E1 h1 => h1 L S0 σ _ S1 _ E1 fun Γ2 S2 lo E2 h2 => h2 L S0 σ _ S2 _ E2 fun Γ3 S3 hi E3 ⟨ds, hx, q⟩ => by
    obtain ⟨a, us, e, h, p⟩ := rdB_l E3 hx
    exact ⟨a, us, e, .of h, fun l hl => k Γ3 _ _ _ (E3.pop.newLst hl (dqa_cut p lo hi)) q⟩
theorem cutD_whole {ds : List Dat} {lo hi : Option Int} (h : HT.sIx ds.length 0 lo = 0 ∧ HT.sIx ds.length ds.length hi = ds.length) : cutD ds lo hi = ds := by
  unfold cutD
  rw [h.1, h.2, List.drop_zero, Nat.sub_zero, List.take_length]
theorem ve_slT {te : TE} {tl th : TO} {Q : List Cell → Tmp → Prop} (h : VE K Γ Θ te fun Γ1 x => VO K Γ1 (x :: Θ) tl fun Γ2 lo => VO K Γ2 (x :: Θ) th fun Γ3 hi => ∃ ds, x = .dt (.tuple ds) ∧ Q Γ3 (.dt (.tuple (cutD ds lo hi)))) : VE K Γ Θ (tSl (rSlF K) te tl th) Q := fun L S0 σ τ S Qv E k =>
  h L S0 σ τ S _ E fun Γ1 S1 v x E1 h1 => h1 L S0 σ _ S1 _ E1 fun Γ2 S2 lo E2 h2 => h2 L S0 σ _ S2 _ E2 fun Γ3 S3 hi E3 ⟨ds, hx, q⟩ => by
    subst hx
    obtain ⟨a, o, us, e, hd, h, p⟩ := dp_tup E3.dt
    refine ⟨a, us, e, sqt_f (E3.sub _ _ h), fun w => ?_, fun _ l o hd hl => k Γ3 _ _ _ (E3.pop.newTup hd hl (dqa_cut p lo hi)) q⟩
    rw [p.len] at w
    rw [cutD_whole w] at q
    exact k Γ3 S3 _ _ (E3.pop.push (.tup hd h p)) q
/-- t.index(x) -/
theorem ve_tidx {ta te : TE} {Q : List Cell → Tmp → Prop}
    (h : VE K Γ Θ ta fun Γ1 x => ∃ ds, x = .dt (.tuple ds) ∧ VE K Γ1 (x :: Θ) te fun Γ2 y => ∃ d j z, rd Γ2 y d ∧ flD d = true ∧ ds.all flD = true ∧ ds[j]? = some z ∧ eqF z d = true ∧ (∀ (m : Nat) z', m < j → ds[m]? = some z' → eqF z' d = false) ∧ Q Γ2 (.dt (.int (j : Nat)))) :
    VE K Γ Θ (tTIdx ta te) Q := fun L S0 σ τ S Qv E k => h L S0 σ τ S _ E fun Γ1 S1 vx x E1 ⟨ds, ex, h1⟩ => by
  subst ex
  obtain ⟨a, o, us, ea, hd, hu, pu⟩ := dp_tup E1.dt
  subst ea
  refine ⟨⟨a, o, us, rfl, hd, E1.sub _ _ hu⟩, h1 L S0 σ _ S1 _ E1 fun Γ2 S2 vy y E2 ⟨d, j, z, hy, f1, f2, hj, hz, hno, q⟩ => ?_⟩
  obtain ⟨a', o', zs, ea, hd', hs, p⟩ := dp_tup E2.pop.dt
  cases ea
  have p' := dpa_mono E2.sub _ _ p
  have gy := E2.rd hy
  obtain ⟨v, hv, gv⟩ := p'.get hj
  have fz : flD z = true := List.all_eq_true.mp f2 z (List.mem_of_getElem? hj)
  refine ⟨vy, rfl, a, o', zs, j, v, rfl, hd', E2.sub _ _ hs, dq_flat gy f1, dqa_flat p' f2, hv, (dq_eqF gv gy fz f1).trans hz, fun m z' hm hm' => ?_, k Γ2 S2 _ _ (E2.pop.pop.push (.int _)) q⟩
  obtain ⟨d', hd', gd'⟩ := p'.getV hm'
  rw [dq_eqF gd' gy (List.all_eq_true.mp f2 d' (List.mem_of_getElem? hd')) f1]
  exact hno m d' hm hd'
/-! ### methods of a list in a slot -/
theorem ve_append {i : Nat} {te : TE} {Q : List Cell → Tmp → Prop} (h0 : ∃ ds, IsLs Γ i ds) (h : VX K Γ Θ te fun Γ1 a => ∃ d ds, a = .dt d ∧ IsLs Γ1 i ds ∧ ds.length < sizeLine ∧ Q (putC Γ1 i (ds ++ [d])) (.dt .none)) : VE K Γ Θ (tBM K "list" rAppend (tVar i) (tCons te tNil)) Q := fun L S0 σ τ S Qv E k => by
  obtain ⟨ds0, c0, hc0, hl0⟩ := h0
  obtain ⟨a, ea, _, us, hu, _⟩ := E.own hc0 hl0
  refine ⟨_, ea, .inl ⟨rfl, us, .of hu⟩, h L S0 σ τ S _ E fun Γ1 S1 v x E1 ⟨d, ds, ex, ⟨c, hc, hl⟩, hz, q⟩ => ?_⟩
  subst ex
  obtain ⟨a', vs, ea', hv, p, mk⟩ := E1.pop.mutSlot hc hl
  rw [ea] at ea'; cases ea'
  have hd : Dq S1.b v d := E1.dt
  rw [putC_eq hc] at q
  exact ⟨a, vs, v, rfl, rfl, hv, by rw [p.len]; exact hz, k _ _ _ _ ((mk _ _ (p.app (.one hd))).push .non) q⟩
def rInsert : V → List V → Hp → VK → Prop := fun x vs H Q => ∃ (l : Addr) (xs : List V) (i : Int) (y : V), x = .ref l ∧ vs = [.int i, y] ∧ H l = some (.lst xs) ∧ xs.length < sizeLine ∧ 0 ≤ i ∧ i < 2 ^ 63 ∧ Q .non (upd H l (.lst (xs.take i.toNat ++ [y] ++ xs.drop i.toNat)))
theorem cm_insert {X : Cx} : MtR X "list.insert" rInsert := mt_insert
theorem ve_insert {i : Nat} {ti te : TE} {Q : List Cell → Tmp → Prop} (h0 : ∃ ds, IsLs Γ i ds)
    (h : VX K Γ Θ ti fun Γ1 b => VX K Γ1 (b.tmp :: Θ) te fun Γ2 a => ∃ j d ds, b = .dt (.int j) ∧ a = .dt d ∧ IsLs Γ2 i ds ∧ ds.length < sizeLine ∧ 0 ≤ j ∧ j < 2 ^ 63 ∧ Q (putC Γ2 i (ds.take j.toNat ++ [d] ++ ds.drop j.toNat)) (.dt .none)) :
    VE K Γ Θ (tBM K "list" rInsert (tVar i) (tCons ti (tCons te tNil))) Q := fun L S0 σ τ S Qv E k => by
  obtain ⟨ds0, c0, hc0, hl0⟩ := h0
  obtain ⟨a, ea, _, us, hu, _⟩ := E.own hc0 hl0
  refine ⟨_, ea, .inl ⟨rfl, us, .of hu⟩, h L S0 σ τ S _ E fun Γ1 S1 vj b E1 h1 => h1 L S0 σ _ S1 _ E1 fun Γ2 S2 v x E2 ⟨j, d, ds, eb, ex, ⟨c, hc, hl⟩, hz, hj0, hj1, q⟩ => ?_⟩
  subst ex eb
  obtain ⟨a', vs, ea', hv, p, mk⟩ := E2.pop.pop.mutSlot hc hl
  rw [ea] at ea'; cases ea'
  have hd : Dq S2.b v d := E2.dt
  have ej : vj = .int j := dp_int (show Dq S2.b vj (.int j) from E2.pop.dt)
  rw [putC_eq hc] at q
  exact ⟨a, vs, j, v, rfl, by rw [ej], hv, by rw [p.len]; exact hz, hj0, hj1, k _ _ _ _ ((mk _ _ (((p.take _).app (.one hd)).app (p.drop _))).push .non) q⟩
theorem ve_extend {i : Nat} {te : TE} {Q : List Cell → Tmp → Prop} (h0 : ∃ ds, IsLs Γ i ds) (h : VX K Γ Θ te fun Γ1 a => ∃ es ds, a = .dt (.list es) ∧ IsLs Γ1 i ds ∧ ds.length + es.length ≤ sizeLine ∧ Q (putC Γ1 i (ds ++ es)) (.dt .none)) : VE K Γ Θ (tBM K "list" rExtend (tVar i) (tCons te tNil)) Q := fun L S0 σ τ S Qv E k => by
  obtain ⟨ds0, c0, hc0, hl0⟩ := h0
  obtain ⟨a, ea, _, us, hu, _⟩ := E.own hc0 hl0
  refine ⟨_, ea, .inl ⟨rfl, us, .of hu⟩, h L S0 σ τ S _ E fun Γ1 S1 v x E1 ⟨es, ds, ex, ⟨c, hc, hl⟩, hz, q⟩ => ?_⟩
  subst ex
  obtain ⟨a', vs, ea', hv, p, mk⟩ := E1.pop.mutSlot hc hl
  rw [ea] at ea'; cases ea'
  obtain ⟨b, zs, eb, hb, pb⟩ := dp_list (show Dq S1.b v (.list es) from E1.dt)
  rw [putC_eq hc] at q
  exact ⟨a, b, vs, zs, rfl, by rw [eb], hv, E1.sub _ _ hb, by rw [p.len, pb.len]; exact hz, k _ _ _ _ ((mk _ _ (p.app pb)).push .non) q⟩
/-- l.index(x), flat -/
theorem ve_indexL {ta te : TE} {Q : List Cell → Tmp → Prop}
    (h : VE K Γ Θ ta fun Γ1 x => (∃ ds, rd Γ1 x (.list ds)) ∧ VE K Γ1 (x :: Θ) te fun Γ2 y => ∃ ds d j z, rd Γ2 x (.list ds) ∧ rd Γ2 y d ∧ flD d = true ∧ ds.all flD = true ∧ ds[j]? = some z ∧ eqF z d = true ∧ (∀ (m : Nat) z', m < j → ds[m]? = some z' → eqF z' d = false) ∧ Q Γ2 (.dt (.int (j : Nat)))) :
    VE K Γ Θ (tBM K "list" (rIndex K) ta (tCons te tNil)) Q := fun L S0 σ τ S Qv E k => h L S0 σ τ S _ E fun Γ1 S1 vx x E1 ⟨⟨ds0, hx0⟩, h1⟩ => by
  obtain ⟨a, us, ea, hu, _⟩ := rdB_l E1 hx0
  subst ea
  refine ⟨.inl ⟨rfl, us, .of hu⟩, h1 L S0 σ _ S1 _ E1 fun Γ2 S2 vy y E2 ⟨ds, d, j, z, hx, hy, f1, f2, hj, hz, hno, q⟩ => ?_⟩
  obtain ⟨a', zs, ea, hs, p⟩ := dp_list (E2.pop.rd hx)
  cases ea
  have gy := E2.rd hy
  obtain ⟨v, hv, gv⟩ := p.get hj
  have fz : flD z = true := List.all_eq_true.mp f2 z (List.mem_of_getElem? hj)
  refine ⟨a, zs, vy, j, v, rfl, rfl, .of hs, dq_flat gy f1, dqa_flat p f2, hv, (dq_eqF gv gy fz f1).trans hz, fun m z' hm hm' => ?_, k Γ2 S2 _ _ (E2.pop.pop.push (.int _)) q⟩
  obtain ⟨d', hd', gd'⟩ := p.getV hm'
  rw [dq_eqF gd' gy (List.all_eq_true.mp f2 d' (List.mem_of_getElem? hd')) f1]
  exact hno m d' hm hd'
end
end Ld
set_option Elab.async false
set_option linter.all false
set_option maxRecDepth 100000
namespace Ld
open PySem PySem.Spec PyProof.Rows L2 Lx
/-! ### statements: what is under way are the sources of the loops around -/
def srcT (ss : List Dat) : List Tmp := ss.map .dt
theorem nb_src {i : Nat} {ss : List Dat} : ∀ t ∈ srcT ss, t ≠ Tmp.br i := fun t ht e => by
  obtain ⟨d, _, rfl⟩ := List.mem_map.mp ht
  cases e
def VSs (K : PySem.W.Frag) (Γ : List Cell) (t : TS) (R : DE) : Prop := ∀ ss : List Dat, VS K Γ (srcT ss) t R
section
variable {K : PySem.W.Frag} {Γ : List Cell} {Θ : List Tmp}
abbrev DE.wn (R : DE) (n : List Cell → Prop) : DE := { R with nx := n }
theorem ss_seq {t u : TS} {R : DE} (h : VSs K Γ t (R.wn fun Γ' => VSs K Γ' u R)) : VSs K Γ (tSeq t u) R := fun ss L S0 σ τ S D E kn kr kb kc =>
  h ss L S0 σ τ S { D with nx := u D } E (fun Γ' σ' S' E' q => q ss L S0 σ' τ S' D E' kn kr kb kc) kr kb kc
theorem ss_next {R : DE} (h : R.nx Γ) : VSs K Γ tNext R := fun ss L S0 σ τ S D E kn kr kb kc => kn Γ σ S E h
theorem ss_cont {R : DE} (h : R.ct Γ) : VSs K Γ tCont R := fun ss L S0 σ τ S D E kn kr kb kc => kc Γ σ S E h
theorem ss_ret {te : TE} {R : DE} (h : ∀ ss, VD K Γ (srcT ss) te R.rt) : VSs K Γ (tRet te) R := fun ss L S0 σ τ S D E kn kr kb kc =>
  h ss L S0 σ τ S D.rt E fun Γ' S' v d E' q => kr Γ' σ S' v d E'.pop E'.dt q
theorem ss_retN {R : DE} (h : R.rt Γ .none) : VSs K Γ tRetN R := fun ss L S0 σ τ S D E kn kr kb kc => kr Γ σ S .non .none E .non h
theorem ss_drop {te : TE} {R : DE} (h : ∀ ss, VE K Γ (srcT ss) te fun Γ1 _ => R.nx Γ1) : VSs K Γ (tDrop te) R := fun ss L S0 σ τ S D E kn kr kb kc =>
  h ss L S0 σ τ S _ E fun Γ' S' v c E' q => kn Γ' σ S' E'.pop q
theorem ss_if {c : TT} {t u : TS} {R : DE} (h : ∀ ss, VT K Γ (srcT ss) c fun Γ1 b => (b = true → VSs K Γ1 t R) ∧ (b = false → VSs K Γ1 u R)) : VSs K Γ (tIfS c t u) R := fun ss L S0 σ τ S D E kn kr kb kc =>
  h ss L S0 σ τ S _ E fun Γ' S' b E' q => by
    cases b with
    | true => rw [if_pos rfl]; exact q.1 rfl ss L S0 σ τ S' D E' kn kr kb kc
    | false => rw [if_neg Bool.false_ne_true]; exact q.2 rfl ss L S0 σ τ S' D E' kn kr kb kc
/-- a stored value's cell -/
def Sto (Γ : List Cell) (i : Nat) (Q : List Cell → Prop) : Tmp → Prop
  | .dt d => Q (Γ.set i (.dt d))
  | .fr ds => Q (Γ.set i (.ow ds))
  | .br j => ∃ ds, Γ[j]? = some (.ow ds) ∧ Q ((Γ.set j (.dt (.list ds))).set i (.dt (.list ds)))
  | .sc _ => False
  | .ob p => Q (Γ.set i (.ob p))
  | .li R => Q (Γ.set i (.li R))
theorem ss_set {i : Nat} {te : TE} {R : DE} (h : ∀ ss, VE K Γ (srcT ss) te fun Γ1 c => Sto Γ1 i R.nx c) : VSs K Γ (tAsg te (gName i)) R := fun ss L S0 σ τ S D E kn kr kb kc =>
  h ss L S0 σ τ S _ E fun Γ' S' v c E' q => by
    cases c with
    | dt d => exact kn _ _ S' (E'.pop.setDt nb_src E'.dt) q
    | fr ds => exact kn _ _ S' (E'.setFr nb_src) q
    | sc ns => exact q.elim
    | ob pp => exact kn _ _ S' (E'.setOb nb_src) q
    | li R => exact kn _ _ S' (E'.setLi nb_src) q
    | br j =>
      obtain ⟨ds, hj, q⟩ := q
      obtain ⟨S2, e, E2⟩ := E'.frzSlot hj
      obtain ⟨w, h1, z2, h2⟩ := id E2.ok
      obtain ⟨u, eu, qu⟩ := h1 j _ (List.getElem?_set_self (List.getElem?_eq_some_iff.mp hj).1)
      have z2' : σ[j]? = some (some v) := z2
      rw [z2'] at eu; cases eu
      show D.nx _ S'.h
      rw [← e]
      exact kn _ _ S2 (E2.pop.setDt nb_src qu) q
end
section
variable {K : PySem.W.Frag} {Γ : List Cell} {Θ : List Tmp} {L : Addr → Prop} {S0 S : Hs} {σ : L2.St} {τ : List V}
/-- what is second is taken out -/
theorem Env.swap {x y : Tmp} {u v : V} (E : Env K L S0 Γ (y :: x :: Θ) σ (v :: u :: τ) S) : Env K L S0 Γ (x :: y :: Θ) σ (u :: v :: τ) S := by
  obtain ⟨w, g1, g3, g2, g4⟩ := E.ok
  refine ⟨E.gr, E.sub, E.len, fun a => match w a with
    | some (.inr n) => if n = Θ.length then some (.inr (n + 1)) else if n = Θ.length + 1 then some (.inr Θ.length) else some (.inr n)
    | o => o, fun i c e => ?_, ?_, ?_, g4.imp fun n t q hn z => ?_⟩
  · have q := g1 i c e
    cases c with
    | no => trivial
    | dt d => exact q
    | ow ds => obtain ⟨a, e, o, n⟩ := q; exact ⟨a, e, ⟨o.nb, by simp only [o.at_], o.is⟩, n⟩
    | ln ds => obtain ⟨a, e, o, n⟩ := q; exact ⟨a, e, ⟨o.nb, by simp only [o.at_], o.is⟩, n⟩
    | sc ns => exact q
    | ob pp => obtain ⟨a, e, o, n⟩ := q; exact ⟨a, e, ⟨o.nb, by simp only [o.at_], o.is⟩, n⟩
    | li R => obtain ⟨a, e, o⟩ := q; exact ⟨a, e, o.reK (fun x ho => by simp only [ho]) fun _ h => h⟩
  · cases x with
    | dt d => exact g2
    | fr ds => obtain ⟨a, e, o, n⟩ := g2; exact ⟨a, e, ⟨o.nb, by simp only [o.at_, if_pos, List.length_cons], o.is⟩, n⟩
    | br i => exact g2
    | sc ns => exact g2
    | ob pp => obtain ⟨a, e, o, n⟩ := g2; exact ⟨a, e, ⟨o.nb, by simp only [o.at_, if_pos, List.length_cons], o.is⟩, n⟩
    | li R => obtain ⟨a, e, o⟩ := g2; exact ⟨a, e, o.reK (fun x ho => by simp only [ho, if_pos, List.length_cons]) fun _ h => h⟩
  · cases y with
    | dt d => exact g3
    | fr ds => obtain ⟨a, e, o, n⟩ := g3; exact ⟨a, e, ⟨o.nb, by simp only [o.at_, List.length_cons, if_neg (Nat.succ_ne_self _), if_pos], o.is⟩, n⟩
    | br i => exact g3
    | sc ns => exact g3
    | ob pp => obtain ⟨a, e, o, n⟩ := g3; exact ⟨a, e, ⟨o.nb, by simp only [o.at_, List.length_cons, if_neg (Nat.succ_ne_self _), if_pos], o.is⟩, n⟩
    | li R => obtain ⟨a, e, o⟩ := g3; exact ⟨a, e, o.reK (fun x ho => by simp only [ho, List.length_cons, if_neg (Nat.succ_ne_self _), if_pos]) fun _ h => h⟩
  · cases q with
    | dt d => exact z
    | fr ds => obtain ⟨a, e, o, m⟩ := z; exact ⟨a, e, ⟨o.nb, by simp only [o.at_, if_neg (Nat.ne_of_lt hn), if_neg (Nat.ne_of_lt (Nat.lt_succ_of_lt hn))], o.is⟩, m⟩
    | br i => exact z
    | sc ns => exact z
    | ob pp => obtain ⟨a, e, o, m⟩ := z; exact ⟨a, e, ⟨o.nb, by simp only [o.at_, if_neg (Nat.ne_of_lt hn), if_neg (Nat.ne_of_lt (Nat.lt_succ_of_lt hn))], o.is⟩, m⟩
    | li R => obtain ⟨a, e, o⟩ := z; exact ⟨a, e, o.reK (fun x ho => by simp only [ho, if_neg (Nat.ne_of_lt hn), if_neg (Nat.ne_of_lt (Nat.lt_succ_of_lt hn))]) fun _ h => h⟩
/-- data or a new list, stored -/
def St1 (Γ : List Cell) (i : Nat) : Tmp → Option (List Cell)
  | .dt d => some (Γ.set i (.dt d))
  | .fr ds => some (Γ.set i (.ow ds))
  | .ob p => some (Γ.set i (.ob p))
  | .li R => some (Γ.set i (.li R))
  | _ => none
theorem Env.st1 {i : Nat} {c : Tmp} {v : V} {Γ' : List Cell} (E : Env K L S0 Γ (c :: Θ) σ (v :: τ) S) (hb : ∀ t ∈ Θ, t ≠ .br i) (h : St1 Γ i c = some Γ') : Env K L S0 Γ' Θ (σ.set i (some v)) τ S := by
  cases c with
  | dt d => cases h; exact E.pop.setDt hb E.dt
  | fr ds => cases h; exact E.setFr hb
  | br j => cases h
  | sc ns => cases h
  | ob pp => cases h; exact E.setOb hb
  | li R => cases h; exact E.setLi hb
end
section
variable {K : PySem.W.Frag} {Γ : List Cell} {Θ : List Tmp}
/-- a, b = x, y -/
theorem ss_par {i j : Nat} {ta tb : TE} {R : DE} (h : ∀ ss, VE K Γ (srcT ss) ta fun Γ1 x => VE K Γ1 (x :: srcT ss) tb fun Γ2 y => (∀ k, x ≠ .br k) ∧ ∃ Γ3 Γ4, St1 Γ2 i x = some Γ3 ∧ St1 Γ3 j y = some Γ4 ∧ R.nx Γ4) : VSs K Γ (tPar i j (tCons ta (tCons tb tNil))) R := fun ss L S0 σ τ S D E kn kr kb kc =>
  h ss L S0 σ τ S _ E fun Γ1 S1 u x E1 h1 => h1 L S0 σ _ S1 _ E1 fun Γ2 S2 v y E2 ⟨nx, Γ3, Γ4, e3, e4, q⟩ => by
    refine ⟨u, v, rfl, ?_⟩
    have ny : y ≠ .br i := fun z => by subst z; cases e4
    exact kn Γ4 _ S2 (((E2.swap).st1 (fun t ht => by
      rcases List.mem_cons.mp ht with rfl | ht
      · exact ny
      · exact nb_src t ht) e3).st1 nb_src e4) q
theorem ss_par3 {i j l : Nat} {ta tb tc : TE} {R : DE} (h : ∀ ss, VE K Γ (srcT ss) ta fun Γ1 x => VE K Γ1 (x :: srcT ss) tb fun Γ2 y => VE K Γ2 (y :: x :: srcT ss) tc fun Γ3 z => ∃ Γ4 Γ5 Γ6, St1 Γ3 i x = some Γ4 ∧ St1 Γ4 j y = some Γ5 ∧ St1 Γ5 l z = some Γ6 ∧ R.nx Γ6) :
    VSs K Γ (tPar3 i j l (tCons ta (tCons tb (tCons tc tNil)))) R := fun ss L S0 σ τ S D E kn kr kb kc =>
  h ss L S0 σ τ S _ E fun Γ1 S1 u x E1 h1 => h1 L S0 σ _ S1 _ E1 fun Γ2 S2 v y E2 h2 => h2 L S0 σ _ S2 _ E2 fun Γ3 S3 w z E3 ⟨Γ4, Γ5, Γ6, e4, e5, e6, q⟩ => by
    refine ⟨u, v, w, rfl, ?_⟩
    have ny : ∀ k, y ≠ .br k := fun k z => by subst z; cases e5
    have nz : ∀ k, z ≠ .br k := fun k q => by subst q; cases e6
    -- z :: y :: x  ->  x first
    obtain ⟨wd, g1, gz, gy, gx, g4⟩ := id E3.ok
    have E4 : Env K L S0 Γ3 (y :: x :: srcT ss) σ (v :: u :: τ) S3 := E3.pop
    -- store z last: keep it by storing x, y under it
    have a1 : Env K L S0 Γ3 (y :: z :: x :: srcT ss) σ (v :: w :: u :: τ) S3 := E3.swap
    have a2 : ∃ E' : True, Env K L S0 Γ3 (x :: z :: y :: srcT ss) σ (u :: w :: v :: τ) S3 := by
      -- rotate by hand: the word w over the three places
      refine ⟨trivial, E3.gr, E3.sub, E3.len, fun a => match wd a with
        | some (.inr n) => if n = ss.length then some (.inr (n + 2)) else if n = ss.length + 1 then some (.inr ss.length) else if n = ss.length + 2 then some (.inr (ss.length + 1)) else some (.inr n)
        | o => o, fun i c e => ?_, ?_, ?_, ?_, g4.imp fun n t q hn z => ?_⟩
      · have q := g1 i c e
        cases c with
        | no => trivial
        | dt d => exact q
        | ow ds => obtain ⟨a, e, o, n⟩ := q; exact ⟨a, e, ⟨o.nb, by simp only [o.at_], o.is⟩, n⟩
        | ln ds => obtain ⟨a, e, o, n⟩ := q; exact ⟨a, e, ⟨o.nb, by simp only [o.at_], o.is⟩, n⟩
        | sc ns => exact q
        | ob pp => obtain ⟨a, e, o, n⟩ := q; exact ⟨a, e, ⟨o.nb, by simp only [o.at_], o.is⟩, n⟩
        | li R => obtain ⟨a, e, o⟩ := q; exact ⟨a, e, o.reK (fun x ho => by simp only [ho]) fun _ h => h⟩
      · cases x with
        | dt d => exact gx
        | fr ds => obtain ⟨a, e, o, n⟩ := gx; exact ⟨a, e, ⟨o.nb, by simp [o.at_, srcT] <;> omega, o.is⟩, n⟩
        | br i => exact gx
        | sc ns => exact gx
        | ob pp => obtain ⟨a, e, o, n⟩ := gx; exact ⟨a, e, ⟨o.nb, by simp [o.at_, srcT] <;> omega, o.is⟩, n⟩
        | li R => obtain ⟨a, e, o⟩ := gx; exact ⟨a, e, o.reK (fun x ho => by simp [ho, srcT] <;> omega) fun _ h => h⟩
      · cases z with
        | dt d => exact gz
        | fr ds => obtain ⟨a, e, o, n⟩ := gz; exact ⟨a, e, ⟨o.nb, by simp [o.at_, srcT] <;> omega, o.is⟩, n⟩
        | br i => exact gz
        | sc ns => exact gz
        | ob pp => obtain ⟨a, e, o, n⟩ := gz; exact ⟨a, e, ⟨o.nb, by simp [o.at_, srcT] <;> omega, o.is⟩, n⟩
        | li R => obtain ⟨a, e, o⟩ := gz; exact ⟨a, e, o.reK (fun x ho => by simp [ho, srcT] <;> omega) fun _ h => h⟩
      · cases y with
        | dt d => exact gy
        | fr ds => obtain ⟨a, e, o, n⟩ := gy; exact ⟨a, e, ⟨o.nb, by simp [o.at_, srcT] <;> omega, o.is⟩, n⟩
        | br i => exact gy
        | sc ns => exact gy
        | ob pp => obtain ⟨a, e, o, n⟩ := gy; exact ⟨a, e, ⟨o.nb, by simp [o.at_, srcT] <;> omega, o.is⟩, n⟩
        | li R => obtain ⟨a, e, o⟩ := gy; exact ⟨a, e, o.reK (fun x ho => by simp [ho, srcT] <;> omega) fun _ h => h⟩
      · have hn' : n < ss.length := by simpa [srcT] using hn
        cases q with
        | dt d => exact z
        | fr ds => obtain ⟨a, e, o, m⟩ := z; exact ⟨a, e, ⟨o.nb, by simp only [o.at_, if_neg (Nat.ne_of_lt hn'), if_neg (show n ≠ ss.length + 1 by omega), if_neg (show n ≠ ss.length + 2 by omega)], o.is⟩, m⟩
        | br i => exact z
        | sc ns => exact z
        | ob pp => obtain ⟨a, e, o, m⟩ := z; exact ⟨a, e, ⟨o.nb, by simp only [o.at_, if_neg (Nat.ne_of_lt hn'), if_neg (show n ≠ ss.length + 1 by omega), if_neg (show n ≠ ss.length + 2 by omega)], o.is⟩, m⟩
        | li R => obtain ⟨a, e, o⟩ := z; exact ⟨a, e, o.reK (fun x ho => by simp only [ho, if_neg (Nat.ne_of_lt hn'), if_neg (show n ≠ ss.length + 1 by omega), if_neg (show n ≠ ss.length + 2 by omega)]) fun _ h => h⟩
    obtain ⟨_, a2⟩ := a2
    have a3 := a2.st1 (Γ' := Γ4) (fun t ht => by
      rcases List.mem_cons.mp ht with rfl | ht
      · exact nz i
      · rcases List.mem_cons.mp ht with rfl | ht
        · exact ny i
        · exact nb_src t ht) e4
    have a4 := (a3.swap).st1 (Γ' := Γ5) (fun t ht => by
      rcases List.mem_cons.mp ht with rfl | ht
      · exact nz j
      · exact nb_src t ht) e5
    exact kn Γ6 _ S3 (a4.st1 nb_src e6) q
/-- xs[i] = e, a list of one's own -/
theorem ss_setL {j : Nat} {te ti : TE} {R : DE} (h : ∀ ss, VX K Γ (srcT ss) te fun Γ1 a => (∃ ds, IsLs Γ1 j ds) ∧ VE K Γ1 (a.tmp :: srcT ss) ti fun Γ2 y => ∃ d i ds k, a = .dt d ∧ y = .dt (.int i) ∧ IsLs Γ2 j ds ∧ ixN ds.length i = some k ∧ R.nx (putC Γ2 j (ds.set k d))) :
    VSs K Γ (tAsg te (gSub (tVar j) ti rSetL)) R := fun ss L S0 σ τ S D E kn kr kb kc => h ss L S0 σ τ S _ E fun Γ1 S1 v a E1 ⟨⟨ds0, c0, hc0, hl0⟩, h1⟩ => by
  obtain ⟨l, el, _⟩ := E1.own hc0 hl0
  refine ⟨_, el, h1 L S0 σ _ S1 _ E1 fun Γ2 S2 vi y E2 ⟨d, i, ds, k, ea, ey, ⟨c, hc, hl⟩, hk, q⟩ => ?_⟩
  subst ea ey
  obtain ⟨l', vs, el', hv, p, mk⟩ := E2.pop.pop.mutSlot hc hl
  rw [el] at el'; cases el'
  have hd : Dq S2.b v d := E2.pop.dt
  rw [putC_eq hc] at q
  exact ⟨l, vs, i, k, rfl, dp_int E2.dt, hv, by rw [p.len]; exact hk, kn _ _ _ (mk _ _ (p.set hd k)) q⟩
theorem dqa_one {H : Hp} {v : V} {d : Dat} (h : DqAll H [v] [d]) : Dq H v d := by cases h with | cons a _ => exact a
theorem dqa_two {H : Hp} {u v : V} {d e : Dat} (h : DqAll H [u, v] [d, e]) : Dq H u d ∧ Dq H v e := by cases h with | cons a b => exact ⟨a, dqa_one b⟩
theorem src_l {K : PySem.W.Frag} {S : Hs} {a : Addr} {ds : List Dat} (sub : Same S.b S.h) (h : Dq S.b (.ref a) (.list ds)) : ∃ ys, SqL K S.h a ys ∧ DqAll S.b ys ds := by
  obtain ⟨b, ys, eb, hy, py⟩ := dp_list h
  cases eb
  exact ⟨ys, SqL.of (sub _ _ hy), py⟩
theorem src_t {K : PySem.W.Frag} {S : Hs} {a : Addr} {ds : List Dat} (sub : Same S.b S.h) (h : Dq S.b (.ref a) (.tuple ds)) : ∃ ys, SqT K S.h a ys ∧ DqAll S.b ys ds := by
  obtain ⟨b, o, ys, eb, _, hy, py⟩ := dp_tup h
  cases eb
  exact ⟨ys, sqt_f (sub _ _ hy), py⟩
/-- an item that a loop gives: data, or a pair that was just made -/
def Itm (H : Hp) (v : V) (d : Dat) : Bool → Prop
  | false => Dq H v d
  | true => ∃ a xs ds, v = .ref a ∧ d = .tuple ds ∧ H a = some (.tup xs) ∧ DqAll H xs ds
/-! ### what a loop walks -/
structure Dw (K : PySem.W.Frag) (J : It) (srcs : List Dat) (τ1 : List V) (pr : Bool) (ds : List Dat) : Prop where
  go : ∀ (S : Hs) i, Same S.b S.h → DqAll S.b τ1 srcs → i < ds.length → J.go i S.h
  stop : ∀ (S : Hs), Same S.b S.h → DqAll S.b τ1 srcs → J.stop ds.length S.h
  yld : ∀ (S : Hs) i x H', Same S.b S.h → DqAll S.b τ1 srcs → i < ds.length → J.yld i S.h x H' → ∃ S' d, S'.h = H' ∧ Gr L0 S S' ∧ Same S'.b S'.h ∧ ds[i]? = some d ∧ Itm S'.b x d pr
def VI (K : PySem.W.Frag) (Γ : List Cell) (Θ : List Tmp) (wi : TI) (Q : List Cell → Bool → List Dat → Prop) : Prop := ∀ (L : Addr → Prop) (S0 : Hs) (σ : L2.St) (τ : List V) (S : Hs) (R : It → Hp → Prop), Env K L S0 Γ Θ σ τ S →
  (∀ Γ' srcs τ1 S' J pr ds, Env K L S0 Γ' (srcT srcs ++ Θ) σ (τ1 ++ τ) S' → τ1.length = srcs.length → Dw K J srcs τ1 pr ds → Q Γ' pr ds → R J S'.h) → wi σ S.h R
theorem srcs_ok {L : Addr → Prop} {S0 S : Hs} {σ : L2.St} {τ : List V} {w : Wh} : ∀ {srcs : List Dat} {τ1 : List V}, TmpsOk K S0 w S σ (srcT srcs ++ Θ) (τ1 ++ τ) → τ1.length = srcs.length → DqAll S.b τ1 srcs
  | [], [], _, _ => .nil
  | d :: ds, v :: vs, h, e => .cons h.1 (srcs_ok (L := L) h.2 (by simpa using e))
  | [], _ :: _, _, e => by cases e
  | _ :: _, [], _, e => by cases e
theorem Env.srcs {L : Addr → Prop} {S0 S : Hs} {σ : L2.St} {τ τ1 : List V} {srcs : List Dat} (E : Env K L S0 Γ (srcT srcs ++ Θ) σ (τ1 ++ τ) S) (e : τ1.length = srcs.length) : DqAll S.b τ1 srcs := by
  obtain ⟨w, _, h⟩ := E.ok
  exact srcs_ok (L := L) h e
theorem Env.unsrc {L : Addr → Prop} {S0 S : Hs} {σ : L2.St} {τ : List V} : ∀ {srcs : List Dat} {τ1 : List V}, Env K L S0 Γ (srcT srcs ++ Θ) σ (τ1 ++ τ) S → τ1.length = srcs.length → Env K L S0 Γ Θ σ τ S
  | [], [], E, _ => E
  | d :: ds, v :: vs, E, e => Env.unsrc (srcs := ds) (τ1 := vs) E.pop (by simpa using e)
  | [], _ :: _, _, e => by cases e
  | _ :: _, [], _, e => by cases e
/-- a list -/
theorem vi_list {te : TE} {Q : List Cell → Bool → List Dat → Prop} (h : VD K Γ Θ te fun Γ1 d => ∃ ds, d = .list ds ∧ Q Γ1 false ds) : VI K Γ Θ (iList K te) Q := fun L S0 σ τ S R E k => h L S0 σ τ S _ E fun Γ1 S1 v d E1 ⟨ds, ed, q⟩ => by
  subst ed
  obtain ⟨a, xs, ev, hx, p⟩ := dp_list E1.dt
  subst ev
  refine ⟨a, rfl, ⟨xs, .of (E1.sub _ _ hx)⟩, k Γ1 [.list ds] [.ref a] S1 _ false ds E1 rfl ⟨fun S i sub hs hi => ?_, fun S sub hs => ?_, fun S i x H' sub hs hi y => ?_⟩ q⟩
  · obtain ⟨ys, hy', py⟩ := src_l (K := K) sub (dqa_one hs)
    obtain ⟨z, hz, _⟩ := py.get (List.getElem?_eq_getElem hi)
    exact ⟨ys, z, hy', hz⟩
  · obtain ⟨ys, hy', py⟩ := src_l (K := K) sub (dqa_one hs)
    exact ⟨ys, hy', Nat.le_of_eq py.len⟩
  · obtain ⟨ys, hy', py⟩ := src_l (K := K) sub (dqa_one hs)
    obtain ⟨rfl, y⟩ := y
    obtain ⟨d, hd, gd⟩ := py.getV (y ys hy')
    exact ⟨S, d, rfl, Gr.refl _ _, sub, hd, gd⟩
theorem vi_tup {te : TE} {Q : List Cell → Bool → List Dat → Prop} (h : VD K Γ Θ te fun Γ1 d => ∃ ds, d = .tuple ds ∧ Q Γ1 false ds) : VI K Γ Θ (iTup K te) Q := fun L S0 σ τ S R E k => h L S0 σ τ S _ E fun Γ1 S1 v d E1 ⟨ds, ed, q⟩ => by
  subst ed
  obtain ⟨a, o, xs, ev, _, hx, p⟩ := dp_tup E1.dt
  subst ev
  refine ⟨a, rfl, ⟨xs, sqt_f (E1.sub _ _ hx)⟩, k Γ1 [.tuple ds] [.ref a] S1 _ false ds E1 rfl ⟨fun S i sub hs hi => ?_, fun S sub hs => ?_, fun S i x H' sub hs hi y => ?_⟩ q⟩
  · obtain ⟨ys, hy', py⟩ := src_t (K := K) sub (dqa_one hs)
    obtain ⟨z, hz, _⟩ := py.get (List.getElem?_eq_getElem hi)
    exact ⟨ys, z, hy', hz⟩
  · obtain ⟨ys, hy', py⟩ := src_t (K := K) sub (dqa_one hs)
    exact ⟨ys, hy', Nat.le_of_eq py.len⟩
  · obtain ⟨ys, hy', py⟩ := src_t (K := K) sub (dqa_one hs)
    obtain ⟨rfl, y⟩ := y
    obtain ⟨d, hd, gd⟩ := py.getV (y ys hy')
    exact ⟨S, d, rfl, Gr.refl _ _, sub, hd, gd⟩
def rngD (lo hi : Int) : List Dat := (List.range (hi - lo).toNat).map fun i => .int (lo + (i : Nat))
theorem rngD_len {lo hi : Int} : (rngD lo hi).length = (hi - lo).toNat := by unfold rngD; rw [List.length_map, List.length_range]
theorem rngD_at {lo hi : Int} {i : Nat} (h : i < (hi - lo).toNat) : (rngD lo hi)[i]? = some (.int (lo + (i : Nat))) := by
  unfold rngD
  rw [List.getElem?_map, List.getElem?_eq_getElem (by rw [List.length_range]; exact h), List.getElem_range] <;> rfl
theorem dw_rng {lo : Int} {hi : Int} : Dw K (Itr lo (hi - lo).toNat) [] [] false (rngD lo hi) :=
  ⟨fun S i _ _ h => by rw [rngD_len] at h; exact h, fun S _ _ => by rw [rngD_len]; exact Nat.le_refl _, fun S i x H' sub _ hi y => by
    obtain ⟨rfl, rfl⟩ := y
    rw [rngD_len] at hi
    exact ⟨S, _, rfl, Gr.refl _ _, sub, rngD_at hi, .int _⟩⟩
theorem vi_rng1 {te : TE} {Q : List Cell → Bool → List Dat → Prop} (h : VE K Γ Θ te fun Γ1 x => ∃ n, x = .dt (.int n) ∧ -(2 ^ 62) ≤ n ∧ n < 2 ^ 62 ∧ Q Γ1 false (rngD 0 n)) : VI K Γ Θ (iRng1 (tCons te tNil)) Q := fun L S0 σ τ S R E k => h L S0 σ τ S _ E fun Γ1 S1 v x E1 ⟨n, ex, h1, h2, q⟩ => by
  subst ex
  refine ⟨n, by rw [dp_int E1.dt], h1, h2, ?_⟩
  have w := dw_rng (K := K) (lo := 0) (hi := n)
  rw [Int.sub_zero] at w
  exact k Γ1 [] [] S1 _ false _ E1.pop rfl w q
theorem vi_rng2 {ta tb : TE} {Q : List Cell → Bool → List Dat → Prop} (h : VE K Γ Θ ta fun Γ1 x => VE K Γ1 (x :: Θ) tb fun Γ2 y => ∃ m n, x = .dt (.int m) ∧ y = .dt (.int n) ∧ (-(2 ^ 62) ≤ m ∧ m < 2 ^ 62 ∧ -(2 ^ 62) ≤ n ∧ n < 2 ^ 62) ∧ Q Γ2 false (rngD m n)) :
    VI K Γ Θ (iRng2 (tCons ta (tCons tb tNil))) Q := fun L S0 σ τ S R E k => h L S0 σ τ S _ E fun Γ1 S1 u x E1 h1 => h1 L S0 σ _ S1 _ E1 fun Γ2 S2 v y E2 ⟨m, n, ex, ey, hb, q⟩ => by
  subst ex ey
  exact ⟨m, n, by rw [dp_int E2.dt, dp_int E2.pop.dt], hb, k Γ2 [] [] S2 _ false _ E2.pop.pop rfl dw_rng q⟩
def enumD (xs : List Dat) : List Dat := xs.zipIdx.map fun p => .tuple [.int (p.2 : Nat), p.1]
theorem enumD_len {xs : List Dat} : (enumD xs).length = xs.length := by unfold enumD; rw [List.length_map, List.length_zipIdx]
theorem enumD_at {xs : List Dat} {i : Nat} {d : Dat} (h : xs[i]? = some d) : (enumD xs)[i]? = some (.tuple [.int (i : Nat), d]) := by
  unfold enumD
  rw [List.getElem?_map, List.getElem?_zipIdx, h]
  show some (PyData.tuple [.int ((0 + i : Nat) : Int), d]) = _
  rw [Nat.zero_add]
/-- a new pair -/
theorem gr_pair {S : Hs} {T : Addr} {x y : V} {d e : Dat} (sub : Same S.b S.h) (hT : S.h T = none) (hx : Dq S.b x d) (hy : Dq S.b y e) :
    ∃ S' : Hs, S'.h = upd S.h T (.tup [x, y]) ∧ Gr L0 S S' ∧ Same S'.b S'.h ∧ Itm S'.b (.ref T) (.tuple [d, e]) true := by
  have g := gr_newB (o := .tup [x, y]) hT sub
  exact ⟨⟨upd S.b T (.tup [x, y]), upd S.h T (.tup [x, y])⟩, rfl, g, sub_newB hT sub, T, _, _, rfl, rfl, upd_same, .cons (dp_mono g.b _ _ hx) (.cons (dp_mono g.b _ _ hy) .nil)⟩
theorem vi_enum {te : TE} {Q : List Cell → Bool → List Dat → Prop} (h : VD K Γ Θ te fun Γ1 d => ∃ ds, d = .list ds ∧ Q Γ1 true (enumD ds)) : VI K Γ Θ (iEnum K (tCons te tNil)) Q := fun L S0 σ τ S R E k => h L S0 σ τ S _ E fun Γ1 S1 v d E1 ⟨ds, ed, q⟩ => by
  subst ed
  obtain ⟨a, xs, ev, hx, p⟩ := dp_list E1.dt
  subst ev
  refine ⟨a, xs, rfl, .of (E1.sub _ _ hx), k Γ1 [.list ds] [.ref a] S1 _ true (enumD ds) E1 rfl ⟨fun S i sub hs hi => ?_, fun S sub hs => ?_, fun S i x H' sub hs hi y => ?_⟩ q⟩
  · obtain ⟨ys, hy', py⟩ := src_l (K := K) sub (dqa_one hs)
    rw [enumD_len] at hi
    obtain ⟨z, hz, _⟩ := py.get (List.getElem?_eq_getElem hi)
    exact ⟨ys, z, hy', hz⟩
  · obtain ⟨ys, hy', py⟩ := src_l (K := K) sub (dqa_one hs)
    exact ⟨ys, hy', by rw [enumD_len]; exact Nat.le_of_eq py.len⟩
  · obtain ⟨ys, hy', py⟩ := src_l (K := K) sub (dqa_one hs)
    rw [enumD_len] at hi
    obtain ⟨T, z, rfl, hT, rfl, y⟩ := y
    obtain ⟨d, hd, gd⟩ := py.getV (y ys hy')
    obtain ⟨S', e1, g1, s1, q1⟩ := gr_pair sub hT (.int (i : Nat)) gd
    exact ⟨S', _, e1, g1, s1, enumD_at hd, q1⟩
def zipD (xs ys : List Dat) : List Dat := (xs.zip ys).map fun p => .tuple [p.1, p.2]
theorem zipD_len {xs ys : List Dat} : (zipD xs ys).length = min xs.length ys.length := by unfold zipD; rw [List.length_map, List.length_zip]
theorem zipD_at {xs ys : List Dat} {i : Nat} {d e : Dat} (h : xs[i]? = some d) (h' : ys[i]? = some e) : (zipD xs ys)[i]? = some (.tuple [d, e]) := by
  unfold zipD
  rw [List.getElem?_map, List.zip_eq_zipWith, List.getElem?_zipWith, h, h'] <;> rfl
theorem vi_zip {ta tb : TE} {Q : List Cell → Bool → List Dat → Prop} (h : VD K Γ Θ ta fun Γ1 d => VD K Γ1 (.dt d :: Θ) tb fun Γ2 e => ∃ ds es, d = .list ds ∧ e = .list es ∧ Q Γ2 true (zipD ds es)) : VI K Γ Θ (iZip K (tCons ta (tCons tb tNil))) Q := fun L S0 σ τ S R E k =>
  h L S0 σ τ S _ E fun Γ1 S1 u d E1 h1 => h1 L S0 σ _ S1 _ E1 fun Γ2 S2 v e E2 ⟨ds, es, ed, ee, q⟩ => by
  subst ed ee
  obtain ⟨b, zs, eb, hb, pb⟩ := dp_list E2.dt
  obtain ⟨a, xs, ea, hx, p⟩ := dp_list E2.pop.dt
  subst ea eb
  refine ⟨a, b, xs, zs, rfl, .of (E2.sub _ _ hx), .of (E2.sub _ _ hb), k Γ2 [.list es, .list ds] [.ref b, .ref a] S2 _ true (zipD ds es) E2 rfl ⟨fun S i sub hs hi => ?_, fun S sub hs => ?_, fun S i x H' sub hs hi y => ?_⟩ q⟩
  · obtain ⟨ws, hw', pw⟩ := src_l (K := K) sub (dqa_two hs).1
    obtain ⟨ys, hy', py⟩ := src_l (K := K) sub (dqa_two hs).2
    rw [zipD_len] at hi
    have i1 : i < ds.length := by omega
    have i2 : i < es.length := by omega
    obtain ⟨z, hz, _⟩ := py.get (List.getElem?_eq_getElem i1)
    obtain ⟨z', hz', _⟩ := pw.get (List.getElem?_eq_getElem i2)
    exact ⟨ys, ws, z, z', hy', hw', hz, hz'⟩
  · obtain ⟨ws, hw', pw⟩ := src_l (K := K) sub (dqa_two hs).1
    obtain ⟨ys, hy', py⟩ := src_l (K := K) sub (dqa_two hs).2
    refine ⟨ys, ws, hy', hw', ?_⟩
    rw [zipD_len, py.len, pw.len]
    omega
  · obtain ⟨ws, hw', pw⟩ := src_l (K := K) sub (dqa_two hs).1
    obtain ⟨ys, hy', py⟩ := src_l (K := K) sub (dqa_two hs).2
    obtain ⟨T, z, z', rfl, hT, rfl, y1, y2⟩ := y
    obtain ⟨d, hd, gd⟩ := py.getV (y1 ys hy')
    obtain ⟨e, he, ge⟩ := pw.getV (y2 ws hw')
    obtain ⟨S', e1, g1, s1, q1⟩ := gr_pair sub hT gd ge
    exact ⟨S', _, e1, g1, s1, zipD_at hd he, q1⟩
/-! ### targets -/
def VG (K : PySem.W.Frag) (pr : Bool) (Γ : List Cell) (g : TG) (d : Dat) (Q : List Cell → Prop) : Prop := ∀ (L : Addr → Prop) (S0 : Hs) (Θ : List Tmp) (σ : L2.St) (τ : List V) (S : Hs) (v : V) (R : L2.St → Hp → Prop), (∀ i, ∀ t ∈ Θ, t ≠ Tmp.br i) → Env K L S0 Γ Θ σ τ S → Itm S.b v d pr →
  (∀ Γ' σ', Env K L S0 Γ' Θ σ' τ S → Q Γ' → R σ' S.h) → g v σ S.h R
theorem vg_name {i : Nat} {d : Dat} {Q : List Cell → Prop} (q : Q (Γ.set i (.dt d))) : VG K false Γ (gName i) d Q := fun L S0 Θ σ τ S v R nb E hd k => k _ _ (E.setDt (nb i) hd) q
theorem vg_pair {pr : Bool} {i j : Nat} {x y : Dat} {Q : List Cell → Prop} (q : Q ((Γ.set i (.dt x)).set j (.dt y))) : VG K pr Γ (gTup K 2 (gCons (gName i) (gCons (gName j) gNil))) (.tuple [x, y]) Q := fun L S0 Θ σ τ S v R nb E hd k => by
  obtain ⟨a, xs, e, h, p⟩ : ∃ a xs, v = .ref a ∧ SqT K S.h a xs ∧ DqAll S.b xs [x, y] := by
    cases pr with
    | false =>
      obtain ⟨a, o, xs, e, _, h, p⟩ := dp_tup (show Dq S.b v (.tuple [x, y]) from hd)
      exact ⟨a, xs, e, sqt_f (E.sub _ _ h), p⟩
    | true =>
      obtain ⟨a, xs, ds, e, e2, h, p⟩ := hd
      cases e2
      exact ⟨a, xs, e, .of (E.sub _ _ h), p⟩
  cases p with
  | cons p1 p =>
    cases p with
    | cons p2 p =>
      cases p
      exact ⟨a, _, e, h, rfl, _, _, rfl, _, _, rfl, rfl, k _ _ ((E.setDt (nb i) p1).setDt (nb j) p2) q⟩
/-- a, b = e -/
theorem ss_asgG {te : TE} {g : TG} {R : DE} (h : ∀ ss, VD K Γ (srcT ss) te fun Γ1 d => VG K false Γ1 g d R.nx) : VSs K Γ (tAsg te g) R := fun ss L S0 σ τ S D E kn kr kb kc =>
  h ss L S0 σ τ S _ E fun Γ' S' v d E' q => q L S0 (srcT ss) σ τ S' v _ (fun i => nb_src) E'.pop E'.dt fun Γ2 σ2 E2 z => kn Γ2 σ2 S' E2 z
/-! ### for, while -/
theorem ss_for {wi : TI} {g : TG} {tb : TS} {R : DE} (P : Nat → List Cell → Prop)
    (h : ∀ ss, VI K Γ (srcT ss) wi fun Γ1 pr ds => P 0 Γ1 ∧ (∀ i d Γ2, ds[i]? = some d → P i Γ2 → VG K pr Γ2 g d fun Γ3 => VSs K Γ3 tb ⟨P (i + 1), R.rt, R.nx, P (i + 1)⟩) ∧ ∀ Γ2, P ds.length Γ2 → R.nx Γ2) : VSs K Γ (tFor wi g tb) R := fun ss L S0 σ τ S D E kn kr kb kc =>
  h ss L S0 σ τ S _ E fun Γ1 srcs τ1 S1 J pr ds E1 hl w ⟨h0, hs, hd⟩ => by
    have nbr : ∀ i, ∀ t ∈ srcT srcs ++ srcT ss, t ≠ Tmp.br i := fun i t ht => (List.mem_append.mp ht).elim (nb_src t) (nb_src t)
    refine ⟨fun i m σ H => m = ds.length - i ∧ i ≤ ds.length ∧ ∃ Γ2 S2, S2.h = H ∧ Env K L S0 Γ2 (srcT srcs ++ srcT ss) σ (τ1 ++ τ) S2 ∧ P i Γ2, ⟨_, rfl, Nat.zero_le _, Γ1, S1, rfl, E1, h0⟩, ?_⟩
    rintro i m σ2 H ⟨rfl, hi, Γ2, S2, rfl, E2, p⟩
    have dq := E2.srcs hl
    by_cases hlt : i < ds.length
    · refine .inr ⟨w.go S2 i E2.sub dq hlt, fun σ3 H3 => ∃ Γ3 S3, S3.h = H3 ∧ Env K L S0 Γ3 (srcT srcs ++ srcT ss) σ3 (τ1 ++ τ) S3 ∧ P (i + 1) Γ3, fun σ' H' ⟨Γ3, S3, e, E3, p3⟩ => ⟨_, by omega, rfl, hlt, Γ3, S3, e, E3, p3⟩, fun x H' y => ?_⟩
      obtain ⟨S3, d, e3, g3, s3, hd3, q3⟩ := w.yld S2 i x H' E2.sub dq hlt y
      subst e3
      refine hs i d Γ2 hd3 p L S0 _ σ2 _ S3 x _ nbr (E2.grow g3 s3) q3 fun Γ4 σ4 E4 q4 => ?_
      have es : srcT srcs ++ srcT ss = srcT (srcs ++ ss) := by unfold srcT; rw [List.map_append]
      rw [es] at E4
      refine q4 (srcs ++ ss) L S0 σ4 _ S3 _ E4 (fun Γ' σ' S' E' q => ?_) (fun Γ' σ' S' v d E' hv q => ?_) (fun Γ' σ' S' E' q => ?_) (fun Γ' σ' S' E' q => ?_)
      · rw [← es] at E'; exact ⟨Γ', S', rfl, E', q⟩
      · rw [← es] at E'; exact kr Γ' σ' S' v d (E'.unsrc hl) hv q
      · rw [← es] at E'; exact kn Γ' σ' S' (E'.unsrc hl) q
      · rw [← es] at E'; exact ⟨Γ', S', rfl, E', q⟩
    · have e : i = ds.length := by omega
      subst e
      exact .inl ⟨w.stop S2 E2.sub dq, kn Γ2 σ2 S2 (E2.unsrc hl) (hd Γ2 p)⟩
theorem ss_while {c : TT} {tb : TS} {R : DE} (P : Nat → List Cell → Prop) (m0 : Nat) (h0 : P m0 Γ)
    (hs : ∀ m Γ1, P m Γ1 → ∀ ss, VT K Γ1 (srcT ss) c fun Γ2 b => (b = true → VSs K Γ2 tb ⟨fun Γ3 => ∃ m', m' < m ∧ P m' Γ3, R.rt, R.nx, fun Γ3 => ∃ m', m' < m ∧ P m' Γ3⟩) ∧ (b = false → R.nx Γ2)) : VSs K Γ (tWhile c tb) R := fun ss L S0 σ τ S D E kn kr kb kc => by
  refine ⟨fun m σ H => ∃ Γ2 S2, S2.h = H ∧ Env K L S0 Γ2 (srcT ss) σ τ S2 ∧ P m Γ2, ⟨m0, Γ, S, rfl, E, h0⟩, ?_⟩
  rintro m σ2 H ⟨Γ2, S2, rfl, E2, p⟩
  refine hs m Γ2 p ss L S0 σ2 τ S2 _ E2 fun Γ3 S3 b E3 q => ?_
  cases b with
  | true =>
    rw [if_pos rfl]
    refine ⟨fun σ' H' => ∃ m' Γ' S', m' < m ∧ S'.h = H' ∧ Env K L S0 Γ' (srcT ss) σ' τ S' ∧ P m' Γ', fun σ' H' ⟨m', Γ', S', hm, e, E', p'⟩ => ⟨m', hm, Γ', S', e, E', p'⟩, ?_⟩
    refine q.1 rfl ss L S0 σ2 τ S3 _ E3 (fun Γ' σ' S' E' q => ?_) kr (fun Γ' σ' S' E' q => kn Γ' σ' S' E' q) (fun Γ' σ' S' E' q => ?_)
    · obtain ⟨m', hm, p'⟩ := q; exact ⟨m', Γ', S', hm, rfl, E', p'⟩
    · obtain ⟨m', hm, p'⟩ := q; exact ⟨m', Γ', S', hm, rfl, E', p'⟩
  | false => rw [if_neg Bool.false_ne_true]; exact kn Γ3 σ2 S3 E3 (q.2 rfl)
end
end Ld
set_option Elab.async false
set_option linter.all false
set_option maxRecDepth 100000
namespace Ld
open PySem PySem.Spec PyProof.Rows L2 Lx
/-! ### comprehensions -/
def clr : List Nat → List Cell → List Cell
  | [], Γ => Γ
  | v :: vs, Γ => (clr vs Γ).set v .no
theorem clr_len {Γ : List Cell} : ∀ vs : List Nat, (clr vs Γ).length = Γ.length
  | [] => rfl
  | v :: vs => by unfold clr; rw [List.length_set, clr_len vs]
theorem clr_at {Γ : List Cell} {i : Nat} {c : Cell} : ∀ {vs : List Nat}, (clr vs Γ)[i]? = some c → c = Cell.no ∨ Γ[i]? = some c
  | [], h => .inr h
  | v :: vs, h => by
    unfold clr at h
    by_cases e : v = i
    · subst e
      rw [List.getElem?_set_self (by
        have := (List.getElem?_eq_some_iff.mp h).1
        rw [List.length_set] at this; exact this)] at h
      cases h
      exact .inl rfl
    · rw [List.getElem?_set_ne e] at h
      exact clr_at h
theorem wipe_ne {σ : L2.St} {i : Nat} : ∀ {vs : List Nat}, i ∉ vs → (wipe σ vs)[i]? = σ[i]?
  | [], _ => rfl
  | v :: vs, h => by
    unfold wipe
    rw [List.getElem?_set_ne (fun e => h (by rw [e]; exact List.mem_cons_self))]
    exact wipe_ne fun z => h (List.mem_cons_of_mem _ z)
theorem wipe_at {σ : L2.St} {i : Nat} : ∀ {vs : List Nat}, i ∈ vs → i < σ.length → (wipe σ vs)[i]? = some none
  | [], h, _ => by cases h
  | v :: vs, h, hl => by
    unfold wipe
    by_cases e : v = i
    · subst e
      exact List.getElem?_set_self (by rw [wipe_length]; exact hl)
    · rw [List.getElem?_set_ne e]
      exact wipe_at ((List.mem_cons.mp h).resolve_left (fun z => e z.symm)) hl
theorem wipe_eq {σ σ' : L2.St} {vs : List Nat} (hl : σ'.length = σ.length) (h : ∀ i, i ∉ vs → σ'[i]? = σ[i]?) : wipe σ' vs = wipe σ vs := by
  refine List.ext_getElem? fun i => ?_
  by_cases hi : i ∈ vs
  · by_cases hlt : i < σ.length
    · rw [wipe_at hi hlt, wipe_at hi (by rw [hl]; exact hlt)]
    · rw [List.getElem?_eq_none (by rw [wipe_length]; omega), List.getElem?_eq_none (by rw [wipe_length]; omega)]
  · rw [wipe_ne hi, wipe_ne hi]; exact h i hi
theorem wipe_set {σ : L2.St} {vs : List Nat} {j : Nat} {x : Option V} (hj : j ∈ vs) : wipe ((wipe σ vs).set j x) vs = wipe σ vs := by
  refine (wipe_eq (σ' := (wipe σ vs).set j x) (σ := σ) (by rw [List.length_set, wipe_length]) fun i hi => ?_)
  rw [List.getElem?_set_ne (fun e => hi (by rw [← e]; exact hj)), wipe_ne hi]
theorem wipe_set2 {σ : L2.St} {vs : List Nat} {i j : Nat} {x y : Option V} (hi : i ∈ vs) (hj : j ∈ vs) : wipe (((wipe σ vs).set i x).set j y) vs = wipe σ vs := by
  refine (wipe_eq (σ := σ) (by rw [List.length_set, List.length_set, wipe_length]) fun k hk => ?_)
  rw [List.getElem?_set_ne (fun e => hk (by rw [← e]; exact hj)), List.getElem?_set_ne (fun e => hk (by rw [← e]; exact hi)), wipe_ne hk]
def NB (vs : List Nat) (Θ : List Tmp) : Prop := ∀ t ∈ Θ, ∀ v ∈ vs, t ≠ Tmp.br v
theorem nb_nil {vs : List Nat} : NB vs [] := fun t h => by cases h
theorem nb_srcT {vs : List Nat} {ss : List Dat} : NB vs (srcT ss) := fun t h v _ => nb_src t h
theorem nb_dt {vs : List Nat} {d : Dat} {Θ : List Tmp} (h : NB vs Θ) : NB vs (.dt d :: Θ) := fun t ht v hv => by
  rcases List.mem_cons.mp ht with rfl | ht
  · exact fun z => nomatch z
  · exact h t ht v hv
theorem nb_fr {vs : List Nat} {d : List Dat} {Θ : List Tmp} (h : NB vs Θ) : NB vs (.fr d :: Θ) := fun t ht v hv => by
  rcases List.mem_cons.mp ht with rfl | ht
  · exact fun z => nomatch z
  · exact h t ht v hv
theorem nb_sc {vs : List Nat} {d : List Int} {Θ : List Tmp} (h : NB vs Θ) : NB vs (.sc d :: Θ) := fun t ht v hv => by
  rcases List.mem_cons.mp ht with rfl | ht
  · exact fun z => nomatch z
  · exact h t ht v hv
theorem nb_br {vs : List Nat} {i : Nat} {Θ : List Tmp} (hi : i ∉ vs) (h : NB vs Θ) : NB vs (.br i :: Θ) := fun t ht v hv => by
  rcases List.mem_cons.mp ht with rfl | ht
  · intro z; cases z; exact hi hv
  · exact h t ht v hv
theorem nb_arg {vs : List Nat} {a : Arg} {Θ : List Tmp} (h : NB vs Θ) : NB vs (a.tmp :: Θ) := by
  cases a with
  | dt d => exact nb_dt h
  | sc ns => exact nb_sc h
theorem nb_app {vs : List Nat} {Θ Θ' : List Tmp} (h : NB vs Θ) (h' : NB vs Θ') : NB vs (Θ ++ Θ') := fun t ht v hv => (List.mem_append.mp ht).elim (fun z => h t z v hv) fun z => h' t z v hv
section
variable {K : PySem.W.Frag} {Γ : List Cell} {Θ : List Tmp} {L : Addr → Prop} {S0 S : Hs} {σ σ' : L2.St} {τ : List V}
/-- slots that nothing is known of may hold anything -/
theorem Env.reslot {vs : List Nat} (E : Env K L S0 Γ Θ σ τ S) (hl : σ'.length = σ.length) (h : ∀ i, i ∉ vs → σ'[i]? = σ[i]?) (hn : ∀ v ∈ vs, Γ[v]? = some .no) (nb : NB vs Θ) : Env K L S0 Γ Θ σ' τ S := by
  obtain ⟨w, h1, h2⟩ := E.ok
  refine ⟨E.gr, E.sub, hl.trans E.len, w, fun i c e => ?_, h2.imp' fun k v t hk hm q => ?_⟩
  · by_cases hi : i ∈ vs
    · rw [hn i hi] at e; cases e; trivial
    · rw [h i hi]; exact h1 i c e
  · cases t with
    | dt d => exact q
    | fr ds => exact q
    | sc ns => exact q
    | ob pp => exact q
    | li R => exact q
    | br i =>
      show σ'[i]? = some (some v)
      rw [h i (fun hi => nb _ hm i hi rfl)]; exact q
theorem Env.wiped {vs : List Nat} (E : Env K L S0 Γ Θ σ τ S) (hn : ∀ v ∈ vs, Γ[v]? = some .no) (nb : NB vs Θ) : Env K L S0 Γ Θ (wipe σ vs) τ S := E.reslot (wipe_length _ _) (fun i hi => wipe_ne hi) hn nb
theorem Env.unwiped {vs : List Nat} (E : Env K L S0 Γ Θ (wipe σ vs) τ S) (hn : ∀ v ∈ vs, Γ[v]? = some .no) (nb : NB vs Θ) : Env K L S0 Γ Θ σ τ S := E.reslot (wipe_length _ _).symm (fun i hi => (wipe_ne hi).symm) hn nb
theorem Env.under {t : Tmp} {v : V} : ∀ {srcs : List Dat} {τ1 : List V}, Env K L S0 Γ (t :: (srcT srcs ++ Θ)) σ (v :: (τ1 ++ τ)) S → τ1.length = srcs.length → Env K L S0 Γ (t :: Θ) σ (v :: τ) S
  | [], [], E, _ => E
  | d :: ds, u :: us, E, e => Env.under (srcs := ds) (τ1 := us) (Env.swap E).pop (by simpa using e)
  | [], _ :: _, _, e => by cases e
  | _ :: _, [], _, e => by cases e
end
/-- what a comprehension's target does to the cells -/
structure TgI (K : PySem.W.Frag) (pr : Bool) (g : TG) (vs : List Nat) (d : Dat) (f : List Cell → List Cell) : Prop where
  run : ∀ (L : Addr → Prop) (S0 : Hs) (Γ : List Cell) (Θ : List Tmp) (σ : L2.St) (τ : List V) (S : Hs) (v : V) (R : L2.St → Hp → Prop), NB vs Θ → Env K L S0 Γ Θ (wipe σ vs) τ S → Itm S.b v d pr →
    (∀ σ', Env K L S0 (f Γ) Θ σ' τ S → wipe σ' vs = wipe σ vs → R σ' S.h) → g v (wipe σ vs) S.h R
theorem tg_name {K : PySem.W.Frag} {j : Nat} {vs : List Nat} {d : Dat} (hj : j ∈ vs) : TgI K false (gName j) vs d fun Γ => Γ.set j (.dt d) := ⟨fun L S0 Γ Θ σ τ S v R nb E hd k => k _ (E.setDt (fun t ht => nb t ht j hj) hd) (wipe_set hj)⟩
theorem tg_pair {K : PySem.W.Frag} {pr : Bool} {i j : Nat} {vs : List Nat} {x y : Dat} (hi : i ∈ vs) (hj : j ∈ vs) : TgI K pr (gTup K 2 (gCons (gName i) (gCons (gName j) gNil))) vs (.tuple [x, y]) fun Γ => (Γ.set i (.dt x)).set j (.dt y) := ⟨fun L S0 Γ Θ σ τ S v R nb E hd k => by
  obtain ⟨a, xs, e, h, p⟩ : ∃ a xs, v = .ref a ∧ SqT K S.h a xs ∧ DqAll S.b xs [x, y] := by
    cases pr with
    | false =>
      obtain ⟨a, o, xs, e, _, h, p⟩ := dp_tup (show Dq S.b v (.tuple [x, y]) from hd)
      exact ⟨a, xs, e, sqt_f (E.sub _ _ h), p⟩
    | true =>
      obtain ⟨a, xs, ds, e, e2, h, p⟩ := hd
      cases e2
      exact ⟨a, xs, e, .of (E.sub _ _ h), p⟩
  cases p with
  | cons p1 p =>
    cases p with
    | cons p2 p =>
      cases p
      exact ⟨a, _, e, h, rfl, _, _, rfl, _, _, rfl, rfl, k _ ((E.setDt (fun t ht => nb t ht i hi) p1).setDt (fun t ht => nb t ht j hj) p2) (wipe_set2 hi hj)⟩⟩
/-! ### a def -/
theorem args_cells {K : PySem.W.Frag} {L : Addr → Prop} {S0 S : Hs} {w : Wh} : ∀ {vs : List V} {as : List Arg} (j : Nat), ArgsOk K S.b vs as → ∀ i c, (as.map Arg.cell)[i]? = some c → SlotOk K L S0 w S (j + i) ((vs.map some)[i]?) c
  | _, _, _, .nil, i, c, e => by simp at e
  | _, _, j, .cons (v := v) (a := a) h t, 0, c, e => by
    cases e
    cases a with
    | dt d => exact ⟨v, rfl, h⟩
    | sc ns => obtain ⟨b, rfl, q⟩ := h; exact ⟨b, rfl, q⟩
  | _, _, j, .cons h t, i + 1, c, e => by
    have := args_cells (K := K) (L := L) (S0 := S0) (S := S) (w := w) (j + 1) t i c e
    rw [show j + (i + 1) = j + 1 + i by omega]
    exact this
def cells0 (N : List Str) (cs : List Cell) : List Cell := cs ++ List.replicate (N.length - cs.length) .no
theorem start_at {N : List Str} {vs : List V} {i : Nat} (h : i < vs.length) : (L2.start N vs)[i]? = (vs.map some)[i]? := by
  unfold L2.start
  rw [List.getElem?_append_left (by rw [List.length_map]; exact h)]
theorem env_start {K : PySem.W.Frag} {N : List Str} {vs : List V} {as : List Arg} {B H : Hp} (sub : Same B H) (h : ArgsOk K B vs as) (hl : vs.length ≤ N.length) : Env K L0 ⟨B, H⟩ (cells0 N (as.map Arg.cell)) [] (L2.start N vs) [] ⟨B, H⟩ := by
  refine ⟨Gr.refl _ _, sub, ?_, fun _ => none, fun i c e => ?_, trivial⟩
  · unfold L2.start cells0
    rw [List.length_append, List.length_append, List.length_map, List.length_map, List.length_replicate, List.length_replicate, h.len]
  · unfold cells0 at e
    by_cases hi : i < (as.map Arg.cell).length
    · rw [List.getElem?_append_left hi] at e
      rw [start_at (by rw [h.len]; rw [List.length_map] at hi; exact hi)]
      have := args_cells (K := K) (L := L0) (S0 := ⟨B, H⟩) (S := ⟨B, H⟩) (w := fun _ => none) 0 h i c e
      rw [Nat.zero_add] at this
      exact this
    · rw [List.getElem?_append_right (by omega)] at e
      have e2 := List.mem_of_getElem? e
      rw [List.mem_replicate] at e2
      rw [e2.2]
      trivial
section
variable {P : Program} {w : World} {K : PySem.W.Frag} {mg : Str → Option Value} {base : Heap}
abbrev Bx (P : Program) (w : World) (K : PySem.W.Frag) (mg : Str → Option Value) (base : Heap) (N : List Str) (qual : Str) (st : Stmt) (f : Addr) (cdv : Value) (A : Around) (outer : List PySem.Env) (s : Shared) (H : Hp) (E : XK) : Cx := (cxOf CX0 P w K mg base N qual (defScope st) f cdv A outer s H E).nox
/-- .. its first argument -/
theorem env_startU {N : List Str} {t : Addr} {rest : List V} {as : List Arg} {zs : List Dat} {B H : Hp} (sub : Same B H) (h : ArgsOk K B rest as) (nb : B t = none) (hz : ∃ us, H t = some (.lst us) ∧ DqAll B us zs) (hl : rest.length + 1 ≤ N.length) :
    Env K (fun a => a = t) ⟨B, H⟩ (cells0 N (.ln zs :: as.map Arg.cell)) [] (L2.start N (.ref t :: rest)) [] ⟨B, H⟩ := by
  refine ⟨Gr.refl _ _, sub, ?_, fun a => if a = t then some (.inl 0) else none, fun i c e => ?_, trivial⟩
  · unfold L2.start cells0
    simp only [List.length_append, List.length_map, List.length_replicate, List.length_cons, h.len]
  · unfold cells0 at e
    by_cases hi : i < (.ln zs :: as.map Arg.cell).length
    · rw [List.getElem?_append_left hi] at e
      rw [start_at (by simp only [List.length_cons, List.length_map, h.len] at hi ⊢; exact hi)]
      match i, e with
      | 0, e =>
        cases e
        exact ⟨t, rfl, ⟨nb, if_pos rfl, hz⟩, rfl⟩
      | i + 1, e =>
        have := args_cells (K := K) (L := fun a => a = t) (S0 := ⟨B, H⟩) (S := ⟨B, H⟩) (w := fun a => if a = t then some (.inl 0) else none) 1 h i c e
        have e3 : 1 + i = i + 1 := Nat.add_comm 1 i
        rw [e3] at this
        exact this
    · rw [List.getElem?_append_right (by omega)] at e
      have e2 := List.mem_of_getElem? e
      rw [List.mem_replicate] at e2
      rw [e2.2]
      trivial
end
end Ld
set_option Elab.async false
set_option linter.all false
set_option maxRecDepth 100000
namespace Ld
open PySem PySem.Spec PyProof.Rows L2 Lx
/-! ### isinstance of data -/
def tyN : Dat → String
  | .none => "NoneType"
  | .bool _ => "bool"
  | .int _ => "int"
  | .str _ => "str"
  | .list _ => "list"
  | .tuple _ => "tuple"
  | .dict _ => "dict"
theorem dq_ty {K : PySem.W.Frag} {H : Hp} {v : V} {d : Dat} (h : Dq H v d) : TyX K H v (.type (tyN d)) := by
  cases h with
  | non => exact .base .non
  | bl b => exact .base (.bl b)
  | int i => exact .base (.int i)
  | str x => exact .base (.str x)
  | lst h _ => exact .base (.lst h)
  | tup hd h _ => exact .fTuple h
section
variable {K : PySem.W.Frag} {Γ : List Cell} {Θ : List Tmp}
theorem ve_isi {ta : TE} {n : String} {Q : List Cell → Tmp → Prop} (h : VE K Γ Θ ta fun Γ1 x => ∃ d b, rd Γ1 x d ∧ kitB (tyN d) n = some b ∧ Q Γ1 (.dt (.bool b))) : VE K Γ Θ (tCB (rIsi K) (tCons ta (tCons (tC (.ty n)) tNil))) Q := fun L S0 σ τ S Qv E k => h L S0 σ τ S _ E fun Γ1 S1 v x E1 ⟨d, b, hd, hb, q⟩ =>
  ⟨v, .ty n, _, _, b, rfl, .ty n, dq_ty (E1.rd hd), kit_ty hb, k Γ1 S1 _ _ (E1.pop.push (.bl b)) q⟩
end
section
variable {K : PySem.W.Frag} {Γ : List Cell} {Θ : List Tmp}
/-! ### what is under way, by its form -/
theorem fz_dt {d : Dat} {Q : List Cell → Dat → Prop} (q : Q Γ d) : Fz Γ Q (.dt d) := q
theorem fz_fr {d : List Dat} {Q : List Cell → Dat → Prop} (q : Q Γ (.list d)) : Fz Γ Q (.fr d) := q
theorem fz_br {i : Nat} {ds : List Dat} {Q : List Cell → Dat → Prop} (h : Γ[i]? = some (.ow ds)) (q : Q (Γ.set i (.dt (.list ds))) (.list ds)) : Fz Γ Q (.br i) := ⟨ds, h, q⟩
theorem az_dt {d : Dat} {Q : List Cell → Arg → Prop} (q : Q Γ (.dt d)) : Az Γ Q (.dt d) := q
theorem az_sc {d : List Int} {Q : List Cell → Arg → Prop} (q : Q Γ (.sc d)) : Az Γ Q (.sc d) := q
theorem az_fr {d : List Dat} {Q : List Cell → Arg → Prop} (q : Q Γ (.dt (.list d))) : Az Γ Q (.fr d) := q
theorem az_br {i : Nat} {ds : List Dat} {Q : List Cell → Arg → Prop} (h : Γ[i]? = some (.ow ds)) (q : Q (Γ.set i (.dt (.list ds))) (.dt (.list ds))) : Az Γ Q (.br i) := ⟨ds, h, q⟩
theorem asb {b : Bool} {Q : List Cell → Bool → Prop} (q : Q Γ b) : AsB Γ Q (.dt (.bool b)) := q
theorem sto_dt {i : Nat} {d : Dat} {Q : List Cell → Prop} (q : Q (Γ.set i (.dt d))) : Sto Γ i Q (.dt d) := q
theorem sto_fr {i : Nat} {d : List Dat} {Q : List Cell → Prop} (q : Q (Γ.set i (.ow d))) : Sto Γ i Q (.fr d) := q
theorem sto_br {i j : Nat} {ds : List Dat} {Q : List Cell → Prop} (h : Γ[j]? = some (.ow ds)) (q : Q ((Γ.set j (.dt (.list ds))).set i (.dt (.list ds)))) : Sto Γ i Q (.br j) := ⟨ds, h, q⟩
theorem rd_dt {d : Dat} : rd Γ (.dt d) d := rfl
theorem rd_fr {ds : List Dat} : rd Γ (.fr ds) (.list ds) := rfl
theorem rd_ow {i : Nat} {ds : List Dat} (h : Γ[i]? = some (.ow ds)) : rd Γ (.br i) (.list ds) := .inr ⟨ds, rfl, .inl h⟩
theorem rd_ln {i : Nat} {ds : List Dat} (h : Γ[i]? = some (.ln ds)) : rd Γ (.br i) (.list ds) := .inr ⟨ds, rfl, .inr h⟩
theorem sq_l {x : Tmp} {ds : List Dat} (h : rd Γ x (.list ds)) : SeqD Γ x ds := .inl h
theorem sq_t {ds : List Dat} : SeqD Γ (.dt (.tuple ds)) ds := .inr rfl
theorem isl_ow {i : Nat} {ds : List Dat} (h : Γ[i]? = some (.ow ds)) : IsLs Γ i ds := ⟨_, h, rfl⟩
theorem isl_ln {i : Nat} {ds : List Dat} (h : Γ[i]? = some (.ln ds)) : IsLs Γ i ds := ⟨_, h, rfl⟩
theorem b2 {A B : Prop} {b : Bool} (h1 : b = true → A) (h2 : b = false → B) : (b = true → A) ∧ (b = false → B) := ⟨h1, h2⟩
theorem ve_scr {i : Nat} {ns : List Int} {Q : List Cell → Tmp → Prop} (h : Γ[i]? = some (.sc ns)) (q : Q Γ (.sc ns)) : VE K Γ Θ (tVar i) Q := fun L S0 σ τ S Qv E k => by
  obtain ⟨w, h1, h2⟩ := id E.ok
  obtain ⟨a, e, p⟩ := h1 i _ h
  exact ⟨_, e, k Γ S (.ref a) (.sc ns) ⟨E.gr, E.sub, E.len, w, h1, ⟨a, rfl, p⟩, h2⟩ q⟩
end
/-! ### a def of the text, a def that keeps its promise -/
structure Df (K : PySem.W.Frag) (mg : Str → Option Value) (x : Str) (st : Stmt) (ps : List Str) (f : Addr) (fd : FuncData) : Prop where
  F : Fun K x x st f fd
  g : mg x = some (.ref f)
  b : Binds K fd ps []
structure Cal (P : Program) (w : World) (K : PySem.W.Frag) (mg : Str → Option Value) (base : Heap) (k : Nat) (x : Str) (ps : List Str) (sp : Sp) (f : Addr) (fd : FuncData) : Prop where
  G : FnOk P w K mg base CX0 k f fd ps sp
  g : mg x = some (.ref f)
  kp : PySem.W.keepIn K (.ref f) = true
  b : Binds K fd ps []
theorem Df.cal {P : Program} {w : World} {K : PySem.W.Frag} {mg : Str → Option Value} {base : Heap} {k : Nat} {x : Str} {st : Stmt} {ps : List Str} {sp : Sp} {f : Addr} {fd : FuncData} (D : Df K mg x st ps f fd) (G : FnOk P w K mg base CX0 k f fd ps sp) : Cal P w K mg base k x ps sp f fd := ⟨G, D.g, D.F.kp, D.b⟩
end Ld
set_option Elab.async false
set_option linter.all false
set_option maxRecDepth 100000
namespace PySem
open Sem (wp)
open Builtin Builtin.Str
set_option maxHeartbeats 1000000 in
theorem meets_enumerate_newLd {v : Value} {o : Obj} {H : Heap → Prop} (B : Begins v o H) :
    Meets (Builtin.«enumerate.__new__» ⟨[.type "enumerate", v], []⟩) (fun _ R s => H s.heap ∧
      R (.ok (.ret (.ref (s.heap.push o).objs.size))) { s with heap := (s.heap.push o).push { cls := .type "enumerate", data := .fields #[.none, .bool false, .ref s.heap.objs.size, rawInt 0, .none, .none] } }) :=
  .of_wp fun prog w A R s h => by
    obtain ⟨hp, g, d, tk, os⟩ := s; obtain ⟨h1, h⟩ := h
    have hsub := sub_enumerate
    have q1 : ∀ {A' : Around} {E : Value → Shared → Prop} {Q : Value → Shared → Prop}, Q (.ref hp.objs.size) ⟨hp.push o, g, d, tk, os⟩ → wpAny (model prog w) A' (pyIter v) Q E ⟨hp, g, d, tk, os⟩ :=
      fun q => B.iter prog w _ _ ⟨hp, g, d, tk, os⟩ _ h1 q
    wp_walk using q1
    refine wpAny_stack_any fun st => wpAny_pure ?_
    split
    · rename_i c _ _ _ _ _
      cases (c == Value.type "enumerate")
      · wp_walk using q1
        exact ⟨_, rfl, h⟩
      · wp_walk using q1
        exact ⟨_, rfl, h⟩
    · wp_walk using q1
      exact ⟨_, rfl, h⟩
theorem call_enumerate_ld {prog : Program} {w : World} {A : Around} {E : Value → Shared → Prop} {s : Shared} {v : Value} {o : Obj} {H : Heap → Prop} {Q : Value → Shared → Prop} (B : Begins v o H) (h1 : H s.heap)
    (h : ∀ h', IsEnum h' (s.heap.objs.size + 1) s.heap.objs.size 0 .none → h'.get? s.heap.objs.size = some o → h'.objs.size = s.heap.objs.size + 2 →
      (∀ b o, s.heap.get? b = some o → h'.get? b = some o) → Q (.ref (s.heap.objs.size + 1)) { s with heap := h' }) :
    wpAny (model prog w) A (call (.type "enumerate") [v]) Q E s := by
  refine callType_new F.called_enumerate (by decide) (F.typeCall_enumerate_1 _) (F.newCall_enumerate_1 _) (fun obj => F.args_object_init_2 obj _) F.entry_enumerate_new
    (meets_enumerate_newLd B) ⟨h1, ?_⟩
  have hz : (s.heap.push o).objs.size = s.heap.objs.size + 1 := Heap.size_push ..
  show _ ∧ _
  rw [hz]
  have he : IsEnum ((s.heap.push o).push
      { cls := .type "enumerate", data := .fields #[.none, .bool false, .ref s.heap.objs.size, rawInt 0, .none, .none] }) (s.heap.objs.size + 1) s.heap.objs.size 0 .none := by
    have := Heap.get?_push_size (s.heap.push o)
      (o := { cls := .type "enumerate", data := .fields #[.none, .bool false, .ref s.heap.objs.size, rawInt 0, .none, .none] }) rfl
    rw [hz] at this; exact this
  refine ⟨⟨_, he, rfl⟩, h _ he (Heap.get?_push_of_some _ (Heap.get?_push_size _ B.free)) (by rw [Heap.size_push, hz]) fun b o x => Heap.get?_push_of_some _ (Heap.get?_push_of_some _ x)⟩
theorem wpAny_pyNext_enum_endT {prog : Program} {w : World} {A : Around} {E : Value → Shared → Prop} {s : Shared} {e it l : Addr} {i : Nat} {items : Array Value} {old : Value} {k : Int} {Q : Option Value → Shared → Prop} (hh : A.in1.handled = none)
    (he : IsEnum s.heap e it k old) (hit : s.heap.IsTupleIter it l i) (hl : s.heap.IsTuple l items) (hx : items[i]? = none)
    (hQ : ∀ h', Heap.ExtBut it s.heap h' → Q none { s with heap := h' }) : wpAny (model prog w) A (pyNext (.ref e)) Q E s := by
  have hT : s.TypeIs (.ref e) "enumerate" := ⟨_, he, rfl⟩
  unfold pyNext
  refine wpAny_bind (wpAny_attempt (wpAny_callSpecial?_slot (name := Str.ofString "__next__") hT F.slot_enumerate_next
    (wpAny_call_entry F.slot_enumerate_next hT F.entry_enumerate_next ?_ (F.args_enumerate_next_1 _))))
  show wpAny _ _ (field (.ref e) 2 >>= _) _ _ _
  refine wpAny_bind (wpAny_field he rfl (x := .ref it) rfl ?_)
  refine wpAny_bind (wpAny_nextOf_tuple_end hh hit hl hx fun h' x he' hx' => ?_)
  obtain ⟨o, ho, hc⟩ := hx'
  refine wpAny_bind (wpAny_isInstance (T := "StopIteration") (b := true) ⟨o, ho, hc⟩ isSubtype_stop ?_)
  exact wpAny_pure (hQ _ he')
theorem collect_tupleLd {prog : Program} {w : World} {A : Around} {E : Value → Shared → Prop} {s : Shared} {l : Addr} {vs : List Value} {Q : List Value → Shared → Prop} (hl : PyProof.Rows.IsTup s.heap l vs.toArray)
    (h : Q vs { s with heap := (s.heap.push (PyProof.Rows.seqObj "list" #[] 0)).update s.heap.objs.size (Obj.mapSeq (· ++ vs.toArray)) }) (hsz : vs.length ≤ sizeLine) :
    wpAny (model prog w) A (collect (.ref l)) Q E s := by
  obtain ⟨o, ho, hc, n, hd⟩ := id hl
  unfold collect
  refine wpAny_bind (wpAny_runValue (codeAny_builtin PyProof.Rows.entry_proto_collect' ?_))
  show wpAny _ _ (do again (.builtin "list.__iadd__" ⟨[← newList [], .ref l], []⟩)) _ _ s
  refine wpAny_bind (wpAny_newList (wpAny_pure ⟨Code.quiet_builtin _ (by decide +kernel), codeAny_builtin PyProof.Rows.entry_list_iadd' ?_⟩))
  show wpAny _ _ (Builtin.List.listExtendWith (.ref s.heap.objs.size) (.ref l) (.ref s.heap.objs.size)) _ _ { s with heap := s.heap.push (PyProof.Rows.seqObj "list" #[] 0) }
  unfold Builtin.List.listExtendWith
  have ho' : (s.heap.push (PyProof.Rows.seqObj "list" #[] 0)).get? l = some o := Heap.get?_push_of_some _ ho
  refine wpAny_bind (wpAny_typeOf (T := "tuple") ⟨o, ho', hc⟩ ?_)
  have ht : (Value.type "tuple" == Value.type "tuple") = true := by rfl
  rw [if_pos (by rw [ht]; simp)]
  refine wpAny_bind (PyProof.Rows.listItems_at ho' hd ?_)
  refine wpAny_bind (PyProof.Rows.listItems_at (xs := #[]) (n := 0) (Heap.get?_push_size _ rfl) rfl ?_)
  rw [if_neg (by simp)]
  refine wpAny_bind (PyProof.Rows.listUpdate_at (xs := #[]) (n := 0) (Heap.get?_push_size _ rfl) rfl ?_ (Nat.zero_le _) (by show (#[] ++ vs.toArray).size ≤ sizeLine + 1; simp only [Array.size_append, List.size_toArray, List.length_nil]; omega))
  refine wpAny_pure ?_
  show wpAny (model prog w) A (do
      let o ← load s.heap.objs.size
      match o.data with
      | .seq xs _ => pure xs.toList
      | _ => unsupported "internal:collect") Q E { s with heap := (s.heap.push (PyProof.Rows.seqObj "list" #[] 0)).update s.heap.objs.size (Obj.mapSeq (· ++ vs.toArray)) }
  refine wpAny_bind (wpAny_load (PyProof.Rows.get?_update_seq (Heap.get?_push_size _ rfl) _) ?_)
  show wpAny _ _ (pure ((#[] : Array Value) ++ vs.toArray).toList) Q E _
  rw [show ((#[] : Array Value) ++ vs.toArray).toList = vs by simp]
  exact wpAny_pure h
end PySem
namespace SrtR
open PySem PyProof.Rows Srt SrtO
section
variable {prog : Program} {w : World} {A : Around} {E : Value → Shared → Prop} {s : Shared}
/-- sorted(t, ..), t a tuple, by keywords that say reverse=b -/
theorem sorted_ordT {l : Addr} {vs : List Value} {b : Bool} {kw : List (Str × Value)} {ltv : Value → Value → Bool} {Q : Value → Shared → Prop} (hk : ∀ a, Builtin.«list.sort» ⟨[.ref a], kw⟩ = Builtin.«list.sort» ⟨[.ref a], [(Str.ofString "reverse", .bool b)]⟩)
    (ha1 : argsOk "sorted" ⟨[.ref l], kw⟩) (ha2 : ∀ a, argsOk "list.sort" ⟨[a], kw⟩) (O : Swo ltv) (hl : IsTup s.heap l vs.toArray) (hz : vs.length ≤ sizeLine)
    (hS : 2 ≤ vs.length → ∀ (h₁ : Heap) (a : Addr), h₁.get? a = some (seqObj "list" vs.toArray 0) → (∀ b o, s.heap.get? b = some o → b ≠ a ∧ h₁.get? b = some o) → SortableO prog w A.in1.in1 { s with heap := h₁ } a vs ltv)
    (h : ∀ out : List Value, Srtd ltv out → Stb ltv out (if b = true then vs.reverse else vs) → Q (.ref (s.heap.objs.size + 1)) { s with heap := sortedAll s.heap vs (if b = true then out.toArray.reverse else out.toArray) }) :
    wpAny (model prog w) A (call (.builtin "sorted") [.ref l] kw) Q E s := by
  refine call_function_entry_kw kind_sorted plain_sorted entry_sorted ha1 ?_
  unfold Builtin.«sorted»
  refine wpAny_bind (m := checkCount "sorted" 1 1 _) (wpAny_pure ?_)
  refine wpAny_bind (collect_tupleLd hl ?_ hz)
  refine wpAny_bind (wpAny_newList ?_ hz)
  have hsz : ((s.heap.push (PyProof.Rows.seqObj "list" #[] 0)).update s.heap.objs.size (Obj.mapSeq (· ++ vs.toArray))).objs.size = s.heap.objs.size + 1 := by
    rw [Heap.size_update, size_push']
  have hoL : (((s.heap.push (PyProof.Rows.seqObj "list" #[] 0)).update s.heap.objs.size (Obj.mapSeq (· ++ vs.toArray))).push (seqObj "list" vs.toArray 0)).get? (s.heap.objs.size + 1) = some (seqObj "list" vs.toArray 0) := by
    rw [← hsz]; exact Heap.get?_push_size _ rfl
  have keep : ∀ b o, s.heap.get? b = some o → b ≠ s.heap.objs.size + 1 ∧ (((s.heap.push (PyProof.Rows.seqObj "list" #[] 0)).update s.heap.objs.size (Obj.mapSeq (· ++ vs.toArray))).push (seqObj "list" vs.toArray 0)).get? b = some o := fun b o q => by
    have hlt : b < s.heap.objs.size := Heap.lt_size q
    refine ⟨Nat.ne_of_lt (Nat.lt_succ_of_lt hlt), Heap.get?_push_of_some _ ?_⟩
    rw [Heap.get?_update_ne _ _ _ _ (Nat.ne_of_lt hlt)]
    exact Heap.get?_push_of_some _ q
  show wpAny _ _ _ _ _ { s with heap := ((s.heap.push (PyProof.Rows.seqObj "list" #[] 0)).update s.heap.objs.size (Obj.mapSeq (· ++ vs.toArray))).push (seqObj "list" vs.toArray 0) }
  rw [hsz]
  refine wpAny_bind (wpAny_holding (wpAny_call_entry_kw slot_list_sort ⟨_, hoL, rfl⟩ entry_list_sort ?_ (ha2 _)))
  rw [hk]
  refine list_sort_ordR O hoL hz (fun h2 => hS h2 _ _ hoL keep) fun out hs hb => ⟨_, rfl, ?_⟩
  exact wpAny_pure ⟨_, rfl, h out hs hb⟩
end
end SrtR
namespace Ld
open PySem PySem.Spec PyProof.Rows L2 Lx
/-! ### enumerate(tuple) -/
def IteT (K : PySem.W.Frag) (a : Addr) : It :=
  ⟨fun i H => ∃ (xs : List V) (x : V), SqT K H a xs ∧ xs[i]? = some x, fun i H v H' => ∃ T x, v = .ref T ∧ H T = none ∧ H' = upd H T (.tup [.int (i : Nat), x]) ∧ ∀ xs, SqT K H a xs → xs[i]? = some x, fun i H => ∃ xs : List V, SqT K H a xs ∧ xs.length ≤ i⟩
theorem turn_enumT {P : Program} {w : World} {K : PySem.W.Frag} {elts : List Expr} {kk : Nat} {tpos : Pos} (a e it : Addr) :
    Turn P w K (.Tuple elts kk tpos) (IteT K a) [e, it] e (fun i h => (∃ old, IsEnum h e it ((i : Nat) : Int) old) ∧ h.IsTupleIter it a i ∧ e ≠ it ∧ a ≠ it ∧ a ≠ e) where
  mem := by simp
  obj := fun i h st b hb => by
    obtain ⟨⟨old, he⟩, ⟨o, ho, hc, hd⟩, _⟩ := st
    have e' : b = e ∨ b = it := by simpa using hb
    rcases e' with z | z
    · rw [z]; exact ⟨_, he, fun v q => nomatch q⟩
    · rw [z]; exact ⟨o, ho, fun v q => by rw [hd] at q; cases q⟩
  keep := fun i h h' st k => let ⟨⟨old, he⟩, hi, hne⟩ := st; ⟨⟨old, k e (by simp) _ he⟩, hi.at fun o q => k it (by simp) o q, hne⟩
  item := by
    intro X hP hw hK hc i pins s σ H E I hf st hg
    subst hP hw hK
    obtain ⟨⟨old, he⟩, hit, hne, hai, hae⟩ := st
    obtain ⟨xs, x, hq, hx⟩ := hg
    obtain ⟨its, rv, p, hz⟩ := I.tuple hq
    obtain ⟨u, hu, ru⟩ := rv.get hx
    have hel : e < s.heap.objs.size := Heap.lt_size he
    have hil : it < s.heap.objs.size := by obtain ⟨_, q, _⟩ := hit; exact Heap.lt_size q
    have hlt : i < its.toArray.size := by
      have := (List.getElem?_eq_some_iff.mp hu).1
      simpa using this
    have hh : X.A.in1.handled = none := I.ok.hd hc
    have D := Draws.tuple (prog := X.prog) (w := X.w) hh it a hai its.toArray
    refine wpAny_pyNext_enum_itemD D he ⟨hit, p⟩ hlt hne (by simp only [List.mem_cons, List.not_mem_nil, or_false, not_or]; exact ⟨hne, fun z => hae z.symm⟩) fun y h' tk hy ho hit' hT hsz hk => ?_
    have ey : y = u := by
      have h1 : its.toArray[i]? = some y := hy
      have h2 : its.toArray[i]? = some u := by simpa using hu
      rw [h1] at h2; exact Option.some.inj h2
    subst ey
    refine ⟨_, rfl, wpAny_letOwnedTupleGo_enum (s := { s with heap := h', toks := tk + 1 }) ho fun h'' he' sb => ?_⟩
    have hT2 : h''.get? s.heap.objs.size = some { cls := .type "tuple", data := .seq #[.int i tk, y] } := (sb.2 _ (Nat.ne_of_gt hel)).trans hT
    have new : ObjOk X.prog X.w (upd H s.heap.objs.size (.tup [.int (i : Nat), x])) h'' s.heap.objs.size (.tup [.int (i : Nat), x]) :=
      ⟨by show 2 ≤ sizeLine; decide, [.int i tk, y], .cons ⟨_, rfl⟩ (.cons ru .nil), ⟨_, hT2, rfl, _, rfl⟩⟩
    have I1 : Inv X pins σ (upd H s.heap.objs.size (.tup [.int (i : Nat), x])) { s with heap := h'', toks := tk + 1 } :=
      I.turnedNew (ch := [e, it]) (fun b ob hb q => (sb.2 b (fun z => hb (by simp [z]))).trans (hk b ob (fun z => hb (by simp [z])) (fun z => hb (by simp [z])) q)) hf (Nat.le_refl _) new
    refine ⟨.ref s.heap.objs.size, _, I1, rfl, ⟨_, x, rfl, I.hok.fresh (Nat.le_refl _), rfl, fun ys hy => by rw [I.tuple_inj hy hq]; exact hx⟩, ⟨⟨y, ?_⟩, hit'.1.at fun o q => (sb.2 it (Ne.symm hne)).trans q, hne, hai, hae⟩, fun b hb => ?_⟩
    · have e1 : ((i + 1 : Nat) : Int) = (i : Int) + 1 := by omega
      rw [e1]; exact he'
    · have hb' : b < s.heap.objs.size := by
        have e' : b = e ∨ b = it := by simpa using hb
        rcases e' with z | z
        · rw [z]; exact hel
        · rw [z]; exact hil
      rw [upd_ne (Nat.ne_of_lt hb')]
      exact (hf b hb).1
  done := by
    intro X hP hw hK hc i pins s σ H E I hf st hg
    subst hP hw hK
    obtain ⟨⟨old, he⟩, hit, hne, hai, hae⟩ := st
    obtain ⟨xs, hq, hx⟩ := hg
    obtain ⟨its, rv, p, hz⟩ := I.tuple hq
    obtain ⟨f0, f1, f2, f3, f4, f5⟩ := hf it (by simp)
    have hl := rv.length
    have hh : X.A.in1.handled = none := I.ok.hd hc
    refine wpAny_pyNext_enum_endT hh he hit p (by simp; omega) fun h' eb => ⟨rfl, I.turned (t' := s.toks) (fun b o hb q => eb b o hb q) f0 f1 f3 f4 f5⟩
  self := fun A i s Q E st h => let ⟨⟨_, he⟩, _⟩ := st; wpAny_pyIter_enum he h
def iEnumT (K : PySem.W.Frag) (ta : TA) : TI := fun σ H R => ta σ H fun vs H1 => ∃ a xs, vs = [.ref a] ∧ SqT K H1 a xs ∧ R (IteT K a) H1
theorem pi_enumT {X : Cx} {e : Expr} {ta : TA} {p pos tpos : Pos} {elts : List Expr} {kk : Nat} (hg : Gl X "enumerate") (hm : X.mg "enumerate" = none) (ha : PA X [e] ta) (hs : starEach [e] X.env = [(false, eval e X.env)] := by rfl) :
    PI X (.Tuple elts kk tpos) (.Call (.Name "enumerate" p) [e] [] pos) (iEnumT X.K ta) := by
  refine ⟨fun pins s σ H R I h => ?_⟩
  refine Call_ (ld_blt I hg hm boot_enumerate (PyProof.Rows.callWith_type1 (thn (ha.run pos pins s σ H _ I h) fun us s1 ⟨vs, H1, I1, r1, q1⟩ => ?_) hs rfl))
  obtain ⟨a, xs, ex, hq, q⟩ := q1
  subst ex
  cases r1 with
  | cons r rr =>
    cases rr
    cases r
    obtain ⟨its, rv, p', hz⟩ := I1.tuple hq
    refine call_enumerate_ld (begins_tuple a its.toArray) p' fun h' he hit hsz hk => wpAny_pyIter_enum he ?_
    have I2 : Inv X pins σ H1 { s1 with heap := h' } := I1.kept (t' := s1.toks) hk
    have ha : a < s1.heap.objs.size := p'.lt
    refine ⟨s1.heap.objs.size + 1, [s1.heap.objs.size + 1, s1.heap.objs.size], _, _, H1, rfl, I2, turn_enumT a (s1.heap.objs.size + 1) s1.heap.objs.size, ⟨⟨.none, he⟩, ⟨_, hit, rfl, rfl⟩, Nat.succ_ne_self _, Nat.ne_of_lt ha, Nat.ne_of_lt (Nat.lt_succ_of_lt ha)⟩, fun b hb => ?_, q⟩
    have e' : b = s1.heap.objs.size + 1 ∨ b = s1.heap.objs.size := by simpa using hb
    have hle : s1.heap.objs.size ≤ b := by
      rcases e' with z | z
      · rw [z]; exact Nat.le_add_right _ _
      · rw [z]; exact Nat.le_refl _
    exact I1.fpOk hle (I1.hok.fresh hle)
section
variable {K : PySem.W.Frag} {Γ : List Cell} {Θ : List Tmp}
theorem vi_enumT {te : TE} {Q : List Cell → Bool → List Dat → Prop} (h : VD K Γ Θ te fun Γ1 d => ∃ ds, d = .tuple ds ∧ Q Γ1 true (enumD ds)) : VI K Γ Θ (iEnumT K (tCons te tNil)) Q := fun L S0 σ τ S R E k => h L S0 σ τ S _ E fun Γ1 S1 v d E1 ⟨ds, ed, q⟩ => by
  subst ed
  obtain ⟨a, o, xs, ev, _, hx, p⟩ := dp_tup E1.dt
  subst ev
  refine ⟨a, xs, rfl, sqt_f (E1.sub _ _ hx), k Γ1 [.tuple ds] [.ref a] S1 _ true (enumD ds) E1 rfl ⟨fun S i sub hs hi => ?_, fun S sub hs => ?_, fun S i x H' sub hs hi y => ?_⟩ q⟩
  · obtain ⟨ys, hy', py⟩ := src_t (K := K) sub (dqa_one hs)
    rw [enumD_len] at hi
    obtain ⟨z, hz, _⟩ := py.get (List.getElem?_eq_getElem hi)
    exact ⟨ys, z, hy', hz⟩
  · obtain ⟨ys, hy', py⟩ := src_t (K := K) sub (dqa_one hs)
    exact ⟨ys, hy', by rw [enumD_len]; exact Nat.le_of_eq py.len⟩
  · obtain ⟨ys, hy', py⟩ := src_t (K := K) sub (dqa_one hs)
    rw [enumD_len] at hi
    obtain ⟨T, z, rfl, hT, rfl, y⟩ := y
    obtain ⟨d, hd, gd⟩ := py.getV (y ys hy')
    obtain ⟨S', e1, g1, s1, q1⟩ := gr_pair sub hT (.int (i : Nat)) gd
    exact ⟨S', _, e1, g1, s1, enumD_at hd, q1⟩
end
/-! ### sorted of a tuple of ints -/
section
variable {X : Cx}
theorem sorted_runT {b : Bool} {kw : List (Str × Value)} {pins : List (Addr × Obj)} {s : Shared} {σ : L2.St} {H : Hp} {a : Addr} {ns : List Int} {Q : VK} (I : Inv X pins σ H s) (hs : SqT X.K H a (ns.map V.int))
    (hk : ∀ a, Builtin.«list.sort» ⟨[.ref a], kw⟩ = Builtin.«list.sort» ⟨[.ref a], [(Str.ofString "reverse", .bool b)]⟩) (ha1 : argsOk "sorted" ⟨[.ref a], kw⟩) (ha2 : ∀ a, argsOk "list.sort" ⟨[a], kw⟩)
    (q : ∀ (ns' : List Int) (p : Addr), ns'.Perm ns → OrdB b ns' → H p = none → Q (.ref p) (upd H p (.lst (ns'.map V.int)))) : wpAny (model X.prog X.w) X.A (call (.builtin "sorted") [.ref a] kw) (EP X pins σ Q) X.xe s := by
  obtain ⟨its, rv, hl, hz⟩ := I.tuple hs
  have hi := rv.ints
  refine SrtR.sorted_ordT hk ha1 ha2 SrtO.swo_int hl (by rw [← rv.length]; exact hz) (fun h2 h₁ a' _ _ => SrtO.ints_sortable hi h2) fun out h1 h2 => ?_
  obtain ⟨ns', k1, k2, k3⟩ := SrtR.ints_outR hi h1 h2
  obtain ⟨ep, he'⟩ := PyProof.Rows.sortedAll_at s.heap its (if b = true then out.toArray.reverse else out.toArray)
  have hlen : (ns'.map V.int).length ≤ sizeLine := by
    rw [List.length_map, k2.length_eq]
    rw [List.length_map] at hz
    exact hz
  have e0 : ((if b = true then out.toArray.reverse else out.toArray).toList).toArray = (if b = true then out.toArray.reverse else out.toArray) := by rw [Array.toArray_toList]
  exact ⟨.ref _, upd H (s.heap.objs.size + 1) (.lst (ns'.map V.int)), I.laid (t' := s.toks) (fun _ _ => PyProof.Rows.sortedAll_old) (Nat.le_succ _) ⟨hlen, _, ep, vals_of_ints k1, by rw [e0]; exact he'⟩, rfl, q _ _ k2 k3 (I.hok.fresh (Nat.le_succ _))⟩
def rSortedTB (K : PySem.W.Frag) (b : Bool) (zs0 : List V) : List V → List V → Hp → VK → Prop := fun vs zs H Q => ∃ (a : Addr) (ns : List Int), vs = [V.ref a] ∧ zs = zs0 ∧ SqT K H a (ns.map V.int) ∧
  ∀ (ns' : List Int) (p : Addr), ns'.Perm ns → OrdB b ns' → H p = none → Q (.ref p) (upd H p (.lst (ns'.map V.int)))
theorem cr_sortedRevT {b : Bool} : CallRK X (.builtin "sorted") [Str.ofString "reverse"] (rSortedTB X.K b [.bl b]) := by
  intro pins s σ H vs zs us ws Q I r rz h
  obtain ⟨a, ns, rfl, rfl, hs, q⟩ := h
  obtain rfl := Vals.ref1 r
  obtain ⟨w1, rfl, e1⟩ := vals1 rz
  obtain rfl : w1 = Value.bool b := e1
  exact sorted_runT I hs (fun _ => rfl) (PyProof.Rows.args_sorted_rev _ _) (fun _ => PyProof.Rows.args_list_sort_rev _ _) q
end
section
variable {K : PySem.W.Frag} {Γ : List Cell} {Θ : List Tmp}
theorem ve_sortedTB {b : Bool} {ta : TE} {Q : List Cell → Tmp → Prop} (h : VE K Γ Θ ta fun Γ1 x => ∃ ns : List Int, x = .dt (.tuple (ns.map .int)) ∧ ∀ ns' : List Int, ns'.Perm ns → OrdB b ns' → Q Γ1 (.fr (ns'.map .int))) :
    VE K Γ Θ (tCKw (rSortedTB K b [.bl b]) (tCons ta tNil) (tCons (tC (.bl b)) tNil)) Q := fun L S0 σ τ S Qv E k => h L S0 σ τ S _ E fun Γ1 S1 v x E1 ⟨ns, ex, q⟩ => by
  subst ex
  obtain ⟨a, o, xs, e, _, h, p⟩ := dp_tup E1.dt
  rw [dpa_ints p] at h
  exact ⟨a, ns, by rw [e], rfl, sqt_f (E1.sub _ _ h), fun ns' p h1 h2 hp => k Γ1 _ _ _ (E1.pop.newLst hp (dpa_of_ints _)) (q ns' h1 h2)⟩
end
end Ld
set_option Elab.async false
set_option linter.all false
set_option maxRecDepth 100000
namespace Ld
open PySem PySem.Spec PyProof.Rows L2 Lx
/-! ### promises with a ghost -/
def spG {α : Type} (K : PySem.W.Frag) (A : α → List Arg) (pre : α → Prop) (post : α → Dat → Prop) : Sp := fun vs H Q _ => ∃ (B : Hp) (x : α), Same B H ∧ ArgsOk K B vs (A x) ∧ pre x ∧
  ∀ v S' d, Gr L0 ⟨B, H⟩ S' → Same S'.b S'.h → Dq S'.b v d → post x d → Q v S'.h
abbrev spF {α : Type} (K : PySem.W.Frag) (A : α → List Arg) (pre : α → Prop) (g : α → Dat) : Sp := spG K A pre fun x d => d = g x
def spW {α : Type} (K : PySem.W.Frag) (A : α → Arg × List Arg) (pre : α → List Dat → Prop) (post : α → List Dat → List Dat → Dat → Prop) : Sp := fun vs H Q _ => ∃ (B : Hp) (v0 : V) (t : Addr) (rest : List V) (x : α) (zs : List Dat), vs = v0 :: .ref t :: rest ∧ Same B H ∧ ArgsOk K B (v0 :: rest) ((A x).1 :: (A x).2) ∧
  B t = none ∧ (∃ us, H t = some (.lst us) ∧ DqAll B us zs) ∧ pre x zs ∧
  ∀ v S' zs' d, Gr (fun a => a = t) ⟨B, H⟩ S' → Same S'.b S'.h → S'.b t = none → (∃ us, S'.h t = some (.lst us) ∧ DqAll S'.b us zs') → Dq S'.b v d → post x zs zs' d → Q v S'.h
section
variable {K : PySem.W.Frag} {Γ : List Cell} {Θ : List Tmp}
theorem ve_callG {α : Type} {A : α → List Arg} {pre : α → Prop} {post : α → Dat → Prop} {X : XK} {t : TA} {Q : List Cell → Tmp → Prop} (h : VAX K Γ Θ t fun Γ1 as => ∃ x, as = A x ∧ pre x ∧ ∀ d, post x d → Q Γ1 (.dt d)) : VE K Γ Θ (tCall (spG K A pre post) [] X t) Q := fun L S0 σ τ S Qv E k => h L S0 σ τ S _ E fun Γ1 S1 vs as E1 p ⟨x, ex, hp, q⟩ => by
  show spG K A pre post (vs ++ []) S1.h Qv X
  rw [List.append_nil]
  subst ex
  exact ⟨S1.b, x, E1.sub, p, hp, fun v S' d g s hd hq => k Γ1 S' v _ ((E1.grow g s).push hd) (q d hq)⟩
theorem ve_callF {α : Type} {A : α → List Arg} {pre : α → Prop} {g : α → Dat} {X : XK} {t : TA} {Q : List Cell → Tmp → Prop} (h : VAX K Γ Θ t fun Γ1 as => ∃ x, as = A x ∧ pre x ∧ Q Γ1 (.dt (g x))) : VE K Γ Θ (tCall (spF K A pre g) [] X t) Q :=
  ve_callG fun L S0 σ τ S Qv E k => h L S0 σ τ S Qv E fun Γ1 S1 vs as E1 p ⟨x, ex, hp, q⟩ => k Γ1 S1 vs as E1 p ⟨x, ex, hp, fun d hd => by rw [hd]; exact q⟩
theorem ve_callW {α : Type} {A : α → Arg × List Arg} {pre : α → List Dat → Prop} {post : α → List Dat → List Dat → Dat → Prop} {X : XK} {t0 : TE} {i : Nat} {t : TA} {Q : List Cell → Tmp → Prop}
    (h : VX K Γ Θ t0 fun Γ1 a0 => (∃ ds, IsLs Γ1 i ds) ∧ VAX K Γ1 (a0.tmp :: Θ) t fun Γ2 as => ∃ x zs, IsLs Γ2 i zs ∧ (a0, as) = A x ∧ pre x zs ∧ ∀ zs' d, post x zs zs' d → Q (putC Γ2 i zs') (.dt d)) :
    VE K Γ Θ (tCall (spW K A pre post) [] X (tCons t0 (tCons (tVar i) t))) Q := fun L S0 σ τ S Qv E k => h L S0 σ τ S _ E fun Γ1 S1 v0 a0 E1 ⟨⟨ds, c1, hc1, hl1⟩, h1⟩ => by
  obtain ⟨a, ea, _⟩ := E1.own hc1 hl1
  refine ⟨_, ea, h1 L S0 σ (v0 :: τ) S1 _ E1 fun Γ2 S2 vs as E2 p ⟨x, zs, ⟨c, hc, hl⟩, ex, hp, q⟩ => ?_⟩
  obtain ⟨a', ea', nb, us, hu, pu⟩ := E2.own hc hl
  rw [ea] at ea'; cases ea'
  show spW K A pre post ((v0 :: .ref a :: vs) ++ []) S2.h Qv X
  rw [List.append_nil]
  refine ⟨S2.b, v0, a, vs, x, zs, rfl, E2.sub, ?_, nb, ⟨us, hu, pu⟩, hp, fun v S' zs' d g s nb' hz hd hq => ?_⟩
  · rw [← ex]; exact .cons (argOk_top E2) p
  · have q' := q zs' d hq
    rw [putC_eq hc] at q'
    exact k _ S' v _ ((E2.pop.lent hc hl ea g s nb' hz).push hd) q'
/-- a comprehension over items of one kind -/
theorem ve_lcT {α : Type} (inj : α → Dat) (xs : List α) (p : α → Bool) (v : α → Dat) {wi : TI} {g : TG} {tt : TT} {te : TE} {vs : List Nat} {Q : List Cell → Tmp → Prop} (nb : NB vs Θ)
    (h : VI K Γ Θ wi fun Γ1 pr ds => ds = xs.map inj ∧ (∀ v ∈ vs, Γ1[v]? = some Cell.no) ∧ xs.length < sizeLine ∧ (∀ a, a ∈ xs → ∃ f, TgI K pr g vs (inj a) f ∧ ∀ acc srcs, VT K (f Γ1) (.fr acc :: (srcT srcs ++ Θ)) tt fun Γ3 b =>
      b = p a ∧ (b = true → VD K Γ3 (.fr acc :: (srcT srcs ++ Θ)) te fun Γ4 y => y = v a ∧ clr vs Γ4 = Γ1) ∧ (b = false → clr vs Γ3 = Γ1)) ∧ Q Γ1 (.fr ((xs.filter p).map v))) : VE K Γ Θ (tLc wi g tt te vs) Q := fun L S0 σ τ S Qv E k =>
  h L S0 σ τ S _ E fun Γ1 srcs τ1 S1 J pr ds E1 hl w ⟨eds, hn, hsz, hs, hq⟩ => fun D hD => by
    have nbs : NB vs (srcT srcs ++ Θ) := nb_app nb_srcT nb
    have hls : ds.length = xs.length := by rw [eds, List.length_map]
    have E1w : Env K L S0 Γ1 (.fr [] :: (srcT srcs ++ Θ)) (wipe σ vs) (.ref D :: (τ1 ++ τ)) ⟨S1.b, upd S1.h D (.lst [])⟩ := (E1.newLst hD .nil).wiped hn (nb_fr nbs)
    refine ⟨fun i m H => m = ds.length - i ∧ i ≤ ds.length ∧ ∃ S2, S2.h = H ∧ Env K L S0 Γ1 (.fr (((xs.take i).filter p).map v) :: (srcT srcs ++ Θ)) (wipe σ vs) (.ref D :: (τ1 ++ τ)) S2, ⟨_, rfl, Nat.zero_le _, _, rfl, E1w⟩, ?_⟩
    rintro i m H ⟨rfl, hi, S2, rfl, E2⟩
    have dq := E2.pop.srcs hl
    by_cases hlt : i < ds.length
    · refine .inr ⟨w.go S2 i E2.sub dq hlt, fun H3 => ∃ S3, S3.h = H3 ∧ Env K L S0 Γ1 (.fr (((xs.take (i + 1)).filter p).map v) :: (srcT srcs ++ Θ)) (wipe σ vs) (.ref D :: (τ1 ++ τ)) S3,
        fun H' ⟨S3, e, E3⟩ => ⟨_, by omega, rfl, hlt, S3, e, E3⟩, fun x H' y => ?_⟩
      obtain ⟨S3, d, e3, g3, s3, hd3, q3⟩ := w.yld S2 i x H' E2.sub dq hlt y
      subst e3
      obtain ⟨a, ha, ead⟩ : ∃ a, xs[i]? = some a ∧ inj a = d := by
        rw [eds, List.getElem?_map] at hd3
        exact Option.map_eq_some_iff.mp hd3
      subst ead
      obtain ⟨f, tg, hf⟩ := hs a (List.mem_of_getElem? ha)
      refine tg.run L S0 Γ1 _ σ _ S3 x _ (nb_fr nbs) (E2.grow g3 s3) q3 fun σ3 E3 ew => ⟨ew, ?_⟩
      refine hf _ srcs L S0 σ3 _ S3 _ E3 fun Γ4 S4 b E4 ⟨eb, q4⟩ => ?_
      have fin : ∀ {Γ5 : List Cell} {acc5 : List Dat} {S5 : Hs}, Env K L S0 Γ5 (.fr acc5 :: (srcT srcs ++ Θ)) σ3 (.ref D :: (τ1 ++ τ)) S5 → clr vs Γ5 = Γ1 → Env K L S0 Γ1 (.fr acc5 :: (srcT srcs ++ Θ)) (wipe σ vs) (.ref D :: (τ1 ++ τ)) S5 := fun {Γ5 acc5 S5} E5 p5 => by
        rw [← ew, ← p5]
        exact (E5.forget (clr_len vs) fun i c e => clr_at e).wiped (by rw [p5]; exact hn) (nb_fr nbs)
      have tk : xs.take (i + 1) = xs.take i ++ [a] := by rw [List.take_add_one, ha] <;> rfl
      cases b with
      | true =>
        rw [if_pos rfl]
        refine q4.1 rfl L S0 σ3 _ S4 _ E4 fun Γ5 S5 u y E5 ⟨ey, p5⟩ => ?_
        obtain ⟨a', us, ea, hu, pu, mk⟩ := E5.swap.mutTop
        cases ea
        have hv : Dq S5.b u y := E5.dt
        have le : us.length ≤ xs.length := by
          rw [pu.len, List.length_map]
          exact Nat.le_trans (List.length_filter_le _ _) (by rw [List.length_take]; omega)
        refine ⟨us, hu, by omega, ⟨S5.b, upd S5.h D (.lst (us ++ [u]))⟩, rfl, ?_⟩
        have := fin (Env.pop (Env.swap (mk (us ++ [u]) _ (pu.app (.one hv))))) p5
        rw [tk, List.filter_append, List.map_append, List.filter_cons, if_pos eb.symm, List.filter_nil, List.map_singleton, ← ey]
        exact this
      | false =>
        rw [if_neg Bool.false_ne_true]
        refine ⟨S4, rfl, ?_⟩
        have := fin E4 (q4.2 rfl)
        rw [tk, List.filter_append, List.map_append, List.filter_cons, if_neg (by rw [← eb]; exact Bool.false_ne_true), List.filter_nil, List.map_nil, List.append_nil]
        exact this
    · have e : i = ds.length := by omega
      subst e
      rw [hls, List.take_length] at E2
      exact .inl ⟨w.stop S2 E2.sub dq, k Γ1 S2 _ _ ((E2.under hl).unwiped hn (nb_fr nb)) hq⟩
end
section
variable {P : Program} {w : World} {K : PySem.W.Frag} {mg : Str → Option Value} {base : Heap}
theorem ok_G {α : Type} {x qual : Str} {st : Stmt} {f : Addr} {fd : FuncData} {N ps : List Str} {k : Nat} {Ar : α → List Arg} {pre : α → Prop} {post : α → Dat → Prop} (F : Fun K x qual st f fd) (Sc : FnScope N ps (defScope st)) (hl : ∀ x, (Ar x).length = ps.length) (hN : ps.length ≤ N.length)
    (hb : ∀ (cdv : Value) (A : Around) (outer : List PySem.Env) (s : Shared) (H : Hp) (E : XK), Room k (A.deeper (envOfC qual (defScope st) s.heap.objs.size f cdv)) →
      ∃ t, PSs (Bx P w K mg base N qual st f cdv A outer s H E) (defBody st) t ∧ ∀ x, pre x → VSs K (cells0 N ((Ar x).map Arg.cell)) t ⟨fun _ => post x .none, fun _ d => post x d, fun _ => False, fun _ => False⟩) : FnOk P w K mg base CX0 (k + 1) f fd ps (spG K Ar pre post) := by
  refine F.ok Sc (fun vs H Q E h => ?_) (fun cdv A outer s H vs Q E hr h => ?_)
  · obtain ⟨B, x, _, p, hp, _⟩ := h
    rw [p.len, hl x]
  · obtain ⟨t, ht, hv⟩ := hb cdv A outer s H E hr
    obtain ⟨B, x, sub, p, hp, q⟩ := h
    have hlv : vs.length ≤ N.length := by rw [p.len, hl x]; exact hN
    refine ⟨t, ht, ?_⟩
    refine hv x hp [] L0 ⟨B, H⟩ (L2.start N vs) [] ⟨B, H⟩ _ (env_start sub p hlv) (fun Γ' σ' S' E' z => ?_) (fun Γ' σ' S' v d E' hd z => ?_) (fun Γ' σ' S' E' z => z.elim) (fun Γ' σ' S' E' z => z.elim)
    · exact q .non S' .none E'.gr E'.sub .non z
    · exact q v S' d E'.gr E'.sub hd z
end
end Ld
namespace Ld
open PySem PySem.Spec PyProof.Rows L2 Lx
/-- a module's whole number -/
structure GlobI (K : PySem.W.Frag) (mg : Str → Option Value) (x : Str) (n : Int) : Prop where
  u : ∃ t, mg x = some (.int n t)
end Ld
namespace Ld
open PySem PySem.Spec PyProof.Rows L2 Lx
section
variable {K : PySem.W.Frag} {Γ : List Cell} {Θ : List Tmp}
theorem c1_allF {ds : List Dat} (bs : List Bool) {Q : List Cell → Tmp → Prop} (h : ds = bs.map .bool) (q : Q Γ (.dt (.bool (bs.all id)))) : C1V K (L2.rAll K) Γ Θ (.fr ds) Q := c1_all (ns := bs) (by rw [h]; exact rd_fr) q
end
end Ld
set_option Elab.async false
set_option linter.all false
set_option maxRecDepth 100000
namespace Ld
open PySem PySem.Spec PyProof.Rows L2 Lx
section
variable {X : Cx} {K : PySem.W.Frag}
theorem oi_notB : OpR X (compareOp .IsNot) rNotBl := op_notBl
theorem ix_listK (e : X.K = K) : IxR X (rIxL K) := e ▸ ix_list
theorem op_eqDK (e : X.K = K) (hu : X.A.units + 64 < cLine) : OpR X (compareOp .Eq) (rEqD K) := e ▸ op_eqD hu
theorem op_neDK (e : X.K = K) (hu : X.A.units + 64 < cLine) : OpR X (compareOp .NotEq) (rNeD K) := e ▸ op_neD hu
theorem cl_lenK (e : X.K = K) : CallR X (.builtin "len") (rLenSeq K) := e ▸ cl_len
theorem sl_listK (e : X.K = K) : SlR X (rSlL K) := e ▸ sl_list
theorem sl_tupFK (e : X.K = K) : SlR X (rSlF K) := e ▸ sl_tupF
theorem pi_listK {tg l : Expr} {tl : TE} (e : X.K = K) (hl : PE X l tl) : PI X tg l (iList K tl) := e ▸ pi_list hl
theorem pi_tupK {tg l : Expr} {tl : TE} (e : X.K = K) (hl : PE X l tl) : PI X tg l (iTup K tl) := e ▸ pi_tup hl
theorem pg_tupK {es : List Expr} {k : Nat} {t : TGs} {n : Nat} {pos : Pos} (e : X.K = K) (hc : X.calm = true) (h : PGs X es t)
    (hn : (assignEach es X.env).length = n := by rfl) (hst : (assignEach es X.env).findIdx? (·.1) = none := by rfl) : PG X (.Tuple es k pos) (gTup K n t) := e ▸ pg_tup hc h hn hst
end
end Ld
set_option Elab.async false
set_option linter.all false
set_option maxRecDepth 100000
namespace Sh
open PySem PySem.Spec PyProof.Rows L2 Lx Ld
/-! ### data of rows -/
abbrev iL (ns : List Int) : List Dat := ns.map .int
def oD : Option Int → Dat
  | none => .none
  | some i => .int i
abbrev oL (row : List (Option Int)) : List Dat := row.map oD
def nums (row : List (Option Int)) : List Int := row.filterMap id
def gr (ns : List Int) : List Int := ns.zipIdx.map fun p => (((ns.take p.2).filter fun o => decide (o > p.1)).length : Nat)
def RowOk (r : List (Option Int)) : Prop := r.length ≤ 24 ∧ (nums r).Nodup
def insF (row : List Int) (p : Int × Int) : List Int := row.take p.2.toNat ++ [p.1] ++ row.drop p.2.toNat
def rowF (ds cs : List Int) : List Int := (ds.zip cs).foldl insF []
def dsc (ns : List Int) : List Int := ns.mergeSort fun a b => decide (b ≤ a)
def asc (ns : List Int) : List Int := ns.mergeSort fun a b => decide (a ≤ b)
def CntOk (cs : List Int) (n : Nat) : Prop := cs.length = n ∧ ∀ (i : Nat) c, cs[i]? = some c → 0 ≤ c ∧ c ≤ (i : Int)
theorem kb_ii : kitB "int" "int" = some true := by decide +kernel
theorem kb_ib : kitB "int" "bool" = some false := by decide +kernel
theorem kb_tt : kitB "tuple" "tuple" = some true := by decide +kernel
theorem kb_ll : kitB "list" "list" = some true := by decide +kernel
theorem gl_le {n : Nat} (h : n ≤ 100000) : n ≤ sizeLine := by
  have : 100000 < sizeLine := by decide +kernel
  omega
theorem gl_lt {n : Nat} (h : n ≤ 100000) : n < sizeLine := by
  have : 100000 < sizeLine := by decide +kernel
  omega
theorem nums_eq : ∀ row : List (Option Int), (row.filter fun o => !isNo (oD o)).map oD = iL (nums row)
  | [] => rfl
  | none :: r => nums_eq r
  | some i :: r => by
    show PyData.int i :: ((r.filter fun o => !isNo (oD o)).map oD) = PyData.int i :: iL (nums r)
    rw [nums_eq r]
theorem nums_len (row : List (Option Int)) : (nums row).length ≤ row.length := List.length_filterMap_le _ _
theorem cut_to (ds : List Dat) (n : Nat) : Ld.cutD ds none (some (n : Int)) = ds.take n := by
  unfold Ld.cutD
  rw [HT.sIx_none, HT.sIx_nat, List.drop_zero, Nat.sub_zero, List.take_eq_take_iff]
  omega
theorem ixN_at {n j : Nat} (hj : j < n) : ixN n (j : Int) = some j := by
  unfold ixN
  rw [if_pos (by omega), if_pos (by omega), Int.toNat_natCast]
theorem atI_nat {α : Type} {xs : List α} {j : Nat} {x : α} (h : xs[j]? = some x) : atI xs (j : Int) = some x := by
  have hj := (List.getElem?_eq_some_iff.mp h).1
  unfold atI
  rw [ixN_at hj]
  exact h
theorem take_snoc {α : Type} {r : List α} {i : Nat} {o : α} (h : r[i]? = some o) : r.take (i + 1) = r.take i ++ [o] := by rw [List.take_add_one, h] <;> rfl
theorem gr_len (ns : List Int) : (gr ns).length = ns.length := by unfold gr; rw [List.length_map, List.length_zipIdx]
/-! ### sorting -/
theorem eq_dsc {ns ns' : List Int} (p : ns'.Perm ns) (h : OrdB true ns') : ns' = dsc ns := by
  refine List.Perm.eq_of_pairwise (le := fun a b : Int => b ≤ a) (fun a b _ _ x y => by omega) h ?_ (p.trans (List.mergeSort_perm _ _).symm)
  have := List.pairwise_mergeSort (le := fun a b : Int => decide (b ≤ a)) (fun a b c x y => by simp at *; omega) (fun a b => by simp; omega) ns
  exact this.imp (fun h => by simpa using h)
theorem eq_asc {ns ns' : List Int} (p : ns'.Perm ns) (h : ns'.Pairwise (· ≤ ·)) : ns' = asc ns := by
  refine List.Perm.eq_of_pairwise (le := fun a b : Int => a ≤ b) (fun a b _ _ x y => by omega) h ?_ (p.trans (List.mergeSort_perm _ _).symm)
  have := List.pairwise_mergeSort (le := fun a b : Int => decide (a ≤ b)) (fun a b c x y => by simp at *; omega) (fun a b => by simp; omega) ns
  exact this.imp (fun h => by simpa using h)
theorem asc_perm (ns : List Int) : (asc ns).Perm ns := List.mergeSort_perm _ _
theorem dsc_perm (ns : List Int) : (dsc ns).Perm ns := List.mergeSort_perm _ _
theorem asc_srt (ns : List Int) : (asc ns).Pairwise (· ≤ ·) := (List.pairwise_mergeSort (le := fun a b : Int => decide (a ≤ b)) (fun a b c x y => by simp at *; omega) (fun a b => by simp; omega) ns).imp (fun h => by simpa using h)
theorem rowF_snoc {ds cs : List Int} {i : Nat} {d c : Int} (h1 : ds[i]? = some d) (h2 : cs[i]? = some c) : rowF (ds.take (i + 1)) (cs.take (i + 1)) = insF (rowF (ds.take i) (cs.take i)) (d, c) := by
  unfold rowF
  rw [take_snoc h1, take_snoc h2]
  have l1 := (List.getElem?_eq_some_iff.mp h1).1
  have l2 := (List.getElem?_eq_some_iff.mp h2).1
  rw [List.zip_append (by rw [List.length_take, List.length_take]; omega), List.foldl_append]
  rfl
theorem insF_len (row : List Int) (p : Int × Int) : (insF row p).length = row.length + 1 := by
  unfold insF
  simp only [List.length_append, List.length_take, List.length_drop, List.length_singleton]
  omega
theorem rowF_len (ds cs : List Int) : (rowF ds cs).length = min ds.length cs.length := by
  have h : ∀ (l : List (Int × Int)) (acc : List Int), (l.foldl insF acc).length = acc.length + l.length := by
    intro l
    induction l with
    | nil => exact fun _ => rfl
    | cons p l ih => intro acc; show (l.foldl insF (insF acc p)).length = _; rw [ih, insF_len, List.length_cons]; omega
  unfold rowF
  rw [h, List.length_zip, List.length_nil, Nat.zero_add]
end Sh
namespace Sh
open PySem PySem.Spec PyProof.Rows L2 Lx Ld
theorem oL_some (ns : List Int) : oL (ns.map some) = iL ns := by
  show List.map oD (List.map some ns) = _
  rw [List.map_map]
  rfl
theorem nums_some : ∀ ns : List Int, nums (ns.map some) = ns
  | [] => rfl
  | n :: ns => by
    show n :: nums (ns.map some) = _
    rw [nums_some ns]
end Sh
namespace Sh
theorem fil_true {α : Type} (xs : List α) : xs.filter (fun _ => true) = xs := List.filter_eq_self.mpr fun _ _ => rfl
end Sh
namespace Sh
open PySem PySem.Spec PyProof.Rows L2 Lx Ld
section
variable {K : PySem.W.Frag} {Γ : List Cell} {Θ : List Tmp}
theorem eqv_ii (i j : Int) : PyData.eqv (.int i) (.int j) = decide (i = j) := by
  simp [PyData.eqv, BEq.beq]
theorem r2_eqI {i j : Int} {Q : List Cell → Tmp → Prop} (q : Q Γ (.dt (.bool (decide (i = j))))) : R2V K (rEqD K) Γ Θ (.dt (.int i)) (.dt (.int j)) Q := r2_eqD rd_dt rd_dt rfl rfl (by rw [eqv_ii]; exact q)
theorem r2_neI {i j : Int} {Q : List Cell → Tmp → Prop} (q : Q Γ (.dt (.bool (!decide (i = j))))) : R2V K (rNeD K) Γ Θ (.dt (.int i)) (.dt (.int j)) Q := r2_neD rd_dt rd_dt rfl rfl (by rw [eqv_ii]; exact q)
end
theorem enum_iL (x : List Int) : enumD (iL x) = x.zipIdx.map fun p => PyData.tuple [.int p.2, .int p.1] := by
  unfold enumD
  rw [List.zipIdx_map, List.map_map]
  rfl
theorem zip_iL (x y : List Int) : zipD (iL x) (iL y) = (x.zip y).map fun p => PyData.tuple [.int p.1, .int p.2] := by
  unfold zipD
  rw [List.zip_map, List.map_map]
  rfl
theorem iL_take (x : List Int) (n : Nat) : (iL x).take n = iL (x.take n) := List.map_take.symm
end Sh
namespace Sh
open PySem PySem.Spec PyProof.Rows L2 Lx Ld
end Sh
namespace Sh
open PySem PySem.Spec PyProof.Rows L2 Lx Ld
/-! ### data that are compared -/
end Sh
namespace Sh
open PySem PySem.Spec PyProof.Rows L2 Lx Ld
def cntG (l : List Int) (a : Int) : Nat := (l.filter fun o => decide (o > a)).length
end Sh
namespace Sh
open PySem PySem.Spec PyProof.Rows L2 Lx Ld
end Sh
namespace Sh
end Sh
namespace Sh
end Sh
set_option Elab.async false
set_option linter.all false
set_option maxRecDepth 100000
namespace Sh
open PySem PySem.Spec PyProof.Rows L2 Lx Ld
end Sh
set_option Elab.async false
set_option linter.all false
set_option maxRecDepth 100000
namespace Sh
open PySem PySem.Spec PyProof.Rows L2 Lx Ld
/-! ### counts and rows: there and back -/
def gc (l : List Int) (x : Int) : Nat := cntG (l.takeWhile fun y => y != x) x
theorem take_idx (x : Int) : ∀ l : List Int, l.take (l.idxOf x) = l.takeWhile fun y => y != x
  | [] => rfl
  | y :: l => by
    rw [List.idxOf_cons, List.takeWhile_cons]
    by_cases h : y = x
    · subst h
      simp
    · have : (y == x) = false := by simp [h]
      rw [this]
      simp [h, take_idx x l]
theorem gr_idx {l : List Int} {x : Int} (h : x ∈ l) : (gr l)[l.idxOf x]? = some (gc l x : Int) := by
  have hi := List.idxOf_lt_length_iff.mpr h
  unfold gr gc cntG
  rw [List.getElem?_map, List.getElem?_zipIdx, List.getElem?_eq_getElem hi, Option.map_some, Option.map_some, ← take_idx]
  simp
theorem tw_out {x : Int} (R : List Int) : ∀ {A : List Int}, x ∉ A → ((A ++ R).takeWhile fun y => y != x) = A ++ R.takeWhile fun y => y != x
  | [], _ => rfl
  | y :: A, h => by
    have h1 : y ≠ x := fun z => h (by simp [z])
    rw [List.cons_append, List.takeWhile_cons, tw_out R fun z => h (List.mem_cons_of_mem _ z)]
    simp [h1]
theorem cntG_app (A B : List Int) (x : Int) : cntG (A ++ B) x = cntG A x + cntG B x := by
  unfold cntG
  rw [List.filter_append, List.length_append]
theorem asc_of_perm {M N : List Int} (h : M.Perm N) : asc M = asc N := eq_asc ((asc_perm M).trans h) (asc_srt M)
end Sh
namespace Sh
open PySem PySem.Spec PyProof.Rows L2 Lx Ld
section
variable {K : PySem.W.Frag} {Γ : List Cell} {Θ : List Tmp}
theorem eqF_ii (a b : Int) : eqF (.int a) (.int b) = decide (a = b) := by simp [eqF, BEq.beq]
theorem iL_fl (ns : List Int) : (iL ns).all flD = true := by simp [flD]
theorem idx_at {ns : List Int} {n : Int} (h : n ∈ ns) : (iL ns)[ns.idxOf n]? = some (.int n) := by
  have hi := List.idxOf_lt_length_iff.mpr h
  rw [List.getElem?_map, List.getElem?_eq_getElem hi]
  simp
theorem idx_no {ns : List Int} {n : Int} {m : Nat} {z : Dat} (hm : m < ns.idxOf n) (hz : (iL ns)[m]? = some z) : eqF z (.int n) = false := by
  rw [List.getElem?_map] at hz
  obtain ⟨k, hk, rfl⟩ := Option.map_eq_some_iff.mp hz
  rw [eqF_ii]
  refine decide_eq_false fun e => ?_
  subst e
  obtain ⟨hl, e2⟩ := List.getElem?_eq_some_iff.mp hk
  have := List.not_of_lt_findIdx (xs := ns) (p := (· == k)) (i := m) hm
  simp [e2] at this
theorem ve_indexI {ta te : TE} {Q : List Cell → Tmp → Prop}
    (h : VE K Γ Θ ta fun Γ1 x => (∃ ds, rd Γ1 x (.list ds)) ∧ VE K Γ1 (x :: Θ) te fun Γ2 y => ∃ ns n, rd Γ2 x (.list (iL ns)) ∧ y = .dt (.int n) ∧ n ∈ ns ∧ Q Γ2 (.dt (.int (ns.idxOf n : Nat)))) :
    VE K Γ Θ (tBM K "list" (rIndex K) ta (tCons te tNil)) Q := ve_indexL (ve_mono h fun Γ1 x ⟨h1, h2⟩ => ⟨h1, ve_mono h2 fun Γ2 y ⟨ns, n, g1, g2, g3, g4⟩ => by
  subst g2
  exact ⟨iL ns, .int n, ns.idxOf n, .int n, g1, rd_dt, rfl, iL_fl ns, idx_at g3, by rw [eqF_ii]; simp, fun m z hm hz => idx_no hm hz, g4⟩⟩)
theorem ve_tidxI {ta te : TE} {Q : List Cell → Tmp → Prop}
    (h : VE K Γ Θ ta fun Γ1 x => ∃ ns, x = .dt (.tuple (iL ns)) ∧ VE K Γ1 (x :: Θ) te fun Γ2 y => ∃ n, y = .dt (.int n) ∧ n ∈ ns ∧ Q Γ2 (.dt (.int (ns.idxOf n : Nat)))) :
    VE K Γ Θ (tTIdx ta te) Q := ve_tidx (ve_mono h fun Γ1 x ⟨ns, hx, h2⟩ => ⟨iL ns, hx, ve_mono h2 fun Γ2 y ⟨n, g2, g3, g4⟩ => by
  subst g2
  exact ⟨.int n, ns.idxOf n, .int n, rd_dt, rfl, iL_fl ns, idx_at g3, by rw [eqF_ii]; simp, fun m z hm hz => idx_no hm hz, g4⟩⟩)
end
end Sh
namespace Sh
open PySem PySem.Spec PyProof.Rows L2 Lx Ld
end Sh
namespace Sh
end Sh
namespace Sh
end Sh
set_option Elab.async false
set_option linter.all false
set_option maxRecDepth 100000
namespace Ld
open PySem PySem.Spec PyProof.Rows L2 Lx
def spV {α : Type} (K : PySem.W.Frag) (A : α → List Arg) (pre : α → List Dat → Prop) (post : α → List Dat → List Dat → Dat → Prop) : Sp := fun vs H Q _ => ∃ (B : Hp) (t : Addr) (rest : List V) (x : α) (zs : List Dat), vs = .ref t :: rest ∧ Same B H ∧ ArgsOk K B rest (A x) ∧
  B t = none ∧ (∃ us, H t = some (.lst us) ∧ DqAll B us zs) ∧ pre x zs ∧
  ∀ v S' zs' d, Gr (fun a => a = t) ⟨B, H⟩ S' → Same S'.b S'.h → S'.b t = none → (∃ us, S'.h t = some (.lst us) ∧ DqAll S'.b us zs') → Dq S'.b v d → post x zs zs' d → Q v S'.h
section
variable {K : PySem.W.Frag} {Γ : List Cell} {Θ : List Tmp}
theorem ve_callV {α : Type} {A : α → List Arg} {pre : α → List Dat → Prop} {post : α → List Dat → List Dat → Dat → Prop} {X : XK} {i : Nat} {t : TA} {Q : List Cell → Tmp → Prop} (h0 : ∃ ds, IsLs Γ i ds)
    (h : VAX K Γ Θ t fun Γ2 as => ∃ x zs, IsLs Γ2 i zs ∧ as = A x ∧ pre x zs ∧ ∀ zs' d, post x zs zs' d → Q (putC Γ2 i zs') (.dt d)) :
    VE K Γ Θ (tCall (spV K A pre post) [] X (tCons (tVar i) t)) Q := fun L S0 σ τ S Qv E k => by
  obtain ⟨ds, c1, hc1, hl1⟩ := h0
  obtain ⟨a, ea, _⟩ := E.own hc1 hl1
  refine ⟨_, ea, h L S0 σ τ S _ E fun Γ2 S2 vs as E2 p ⟨x, zs, ⟨c, hc, hl⟩, ex, hp, q⟩ => ?_⟩
  obtain ⟨a', ea', nb, us, hu, pu⟩ := E2.own hc hl
  rw [ea] at ea'; cases ea'
  show spV K A pre post ((.ref a :: vs) ++ []) S2.h Qv X
  rw [List.append_nil]
  subst ex
  refine ⟨S2.b, a, vs, x, zs, rfl, E2.sub, p, nb, ⟨us, hu, pu⟩, hp, fun v S' zs' d g s nb' hz hd hq => ?_⟩
  have q' := q zs' d hq
  rw [putC_eq hc] at q'
  exact k _ S' v _ ((E2.lent hc hl ea g s nb' hz).push hd) q'
/-- xs.remove(n), whole numbers -/
theorem ve_remove {i : Nat} {te : TE} {Q : List Cell → Tmp → Prop} (h0 : ∃ ds, IsLs Γ i ds) (h : VE K Γ Θ te fun Γ1 y => ∃ (ns : List Int) (n : Int), y = .dt (.int n) ∧ IsLs Γ1 i (ns.map .int) ∧ n ∈ ns ∧ Q (putC Γ1 i ((ns.erase n).map .int)) (.dt .none)) : VE K Γ Θ (tBM K "list" rRemI (tVar i) (tCons te tNil)) Q := fun L S0 σ τ S Qv E k => by
  obtain ⟨ds0, c0, hc0, hl0⟩ := h0
  obtain ⟨a, ea, _, us, hu, _⟩ := E.own hc0 hl0
  refine ⟨_, ea, .inl ⟨rfl, us, .of hu⟩, h L S0 σ τ S _ E fun Γ1 S1 v y E1 ⟨ns, n, ey, ⟨c, hc, hl⟩, hm, q⟩ => ?_⟩
  subst ey
  have ev : v = .int n := dp_int E1.dt
  obtain ⟨a', vs, ea', hv, p, mk⟩ := E1.pop.mutSlot hc hl
  rw [ea] at ea'; cases ea'
  have evs := dpa_ints p
  subst evs
  rw [putC_eq hc] at q
  have hi := List.idxOf_lt_length_iff.mpr hm
  have e1 : ns.eraseIdx (ns.idxOf n) = ns.erase n := (List.erase_eq_eraseIdx_of_idxOf rfl).symm
  refine ⟨a, ns, n, ns.idxOf n, rfl, by rw [ev], hv, by rw [List.getElem?_eq_getElem hi]; simp, fun m hmi e => ?_, ?_⟩
  · obtain ⟨h1, h2⟩ := List.getElem?_eq_some_iff.mp e
    have := List.not_of_lt_findIdx (xs := ns) (p := (· == n)) (i := m) hmi
    simp [h2] at this
  · rw [e1]
    exact k _ _ _ _ ((mk _ _ (dpa_of_ints _)).push .non) q
end
section
variable {P : Program} {w : World} {K : PySem.W.Frag} {mg : Str → Option Value} {base : Heap}
theorem ok_V {α : Type} {x qual : Str} {st : Stmt} {f : Addr} {fd : FuncData} {N ps : List Str} {k : Nat} {Ar : α → List Arg} {pre : α → List Dat → Prop} {post : α → List Dat → List Dat → Dat → Prop} (F : Fun K x qual st f fd) (Sc : FnScope N ps (defScope st)) (hl : ∀ x, (Ar x).length + 1 = ps.length) (hN : ps.length ≤ N.length)
    (hb : ∀ (cdv : Value) (A : Around) (outer : List PySem.Env) (s : Shared) (H : Hp) (E : XK), Room k (A.deeper (envOfC qual (defScope st) s.heap.objs.size f cdv)) →
      ∃ t, PSs (Bx P w K mg base N qual st f cdv A outer s H E) (defBody st) t ∧ ∀ x zs, pre x zs → VSs K (cells0 N (.ln zs :: (Ar x).map Arg.cell)) t
        ⟨fun Γ => ∃ zs', Γ[0]? = some (.ln zs') ∧ post x zs zs' .none, fun Γ d => ∃ zs', Γ[0]? = some (.ln zs') ∧ post x zs zs' d, fun _ => False, fun _ => False⟩) : FnOk P w K mg base CX0 (k + 1) f fd ps (spV K Ar pre post) := by
  refine F.ok Sc (fun vs H Q E h => ?_) (fun cdv A outer s H vs Q E hr h => ?_)
  · obtain ⟨B, t, rest, x, zs, rfl, _, p, _, _, hp, _⟩ := h
    have := hl x
    have := p.len
    simp only [List.length_cons] at *
    omega
  · obtain ⟨tr, ht, hv⟩ := hb cdv A outer s H E hr
    obtain ⟨B, t, rest, x, zs, rfl, sub, p, nb, hz, hp, q⟩ := h
    have hlv := hl x
    have hle := p.len
    refine ⟨tr, ht, ?_⟩
    have fin : ∀ {Γ' : List Cell} {σ' : L2.St} {S' : Hs} {v : V} {d : Dat}, Env K (fun a => a = t) ⟨B, H⟩ Γ' [] σ' [] S' → Dq S'.b v d → (∃ zs', Γ'[0]? = some (.ln zs') ∧ post x zs zs' d) → Q v S'.h := fun {Γ' σ' S' v d} E' hd ⟨zs', h1, z⟩ => by
      obtain ⟨wd, g1, _⟩ := E'.ok
      obtain ⟨b, _, o, hb⟩ := g1 0 _ h1
      cases hb
      exact q v S' zs' d E'.gr E'.sub o.nb o.is hd z
    refine hv x zs hp [] (fun a => a = t) ⟨B, H⟩ _ [] ⟨B, H⟩ _ (env_startU sub p nb hz (by omega)) (fun Γ' σ' S' E' z => ?_) (fun Γ' σ' S' v d E' hd z => fin E' hd z) (fun Γ' σ' S' E' z => z.elim) (fun Γ' σ' S' E' z => z.elim)
    exact fin E' .non z
end
end Ld
namespace Sh
open PySem PySem.Spec PyProof.Rows L2 Lx Ld
theorem eqv_ss (a b : Str) : PyData.eqv (.str a) (.str b) = decide (a = b) := by
  simp [PyData.eqv, BEq.beq]
end Sh
namespace Ld
open PySem PySem.Spec PyProof.Rows L2 Lx
structure GlobS (K : PySem.W.Frag) (mg : Str → Option Value) (x : Str) (n : Str) : Prop where
  u : ∃ t, mg x = some (.str n t)
end Ld
namespace Sh
open PySem PySem.Spec PyProof.Rows L2 Lx Ld
theorem kb_ss : kitB "str" "str" = some true := by decide +kernel
def wd (l : Bool) : Str := if l then "light" else "heavy"
def sg (l : Bool) : Int := if l then 1 else -1
theorem wd_l (l : Bool) : decide (wd l = ("light" : Str)) = l := by cases l <;> decide +kernel
theorem wd_s (l : Bool) : SeqAt.shaped (.str (wd l)) = true := by cases l <;> decide +kernel
theorem light_s : SeqAt.shaped (.str "light") = true := by decide +kernel
section
variable {K : PySem.W.Frag} {Γ : List Cell} {Θ : List Tmp}
theorem r2_eqW {l : Bool} {Q : List Cell → Tmp → Prop} (q : Q Γ (.dt (.bool l))) : R2V K (rEqD K) Γ Θ (.dt (.str (wd l))) (.dt (.str "light")) Q := r2_eqD rd_dt rd_dt (wd_s l) light_s (by rw [eqv_ss, wd_l]; exact q)
end
def tm (l : Bool) (xs : List Int) : List Int := xs.map (sg l * ·)
theorem sg_sg (l : Bool) (x : Int) : sg l * (sg l * x) = x := by
  cases l
  · show -1 * (-1 * x) = x; omega
  · show 1 * (1 * x) = x; omega
theorem tm_tm (l : Bool) (xs : List Int) : tm l (tm l xs) = xs := by
  unfold tm
  rw [List.map_map]
  refine (List.map_congr_left fun x _ => sg_sg l x).trans (List.map_id xs)
theorem tm_len (l : Bool) (xs : List Int) : (tm l xs).length = xs.length := List.length_map _
end Sh
set_option Elab.async false
set_option linter.all false
set_option maxRecDepth 100000
set_option maxHeartbeats 2000000
namespace Ld
open PySem PySem.Spec PyProof.Rows L2 Lx
/-- a tuple at a, a list at b, as they stand at each turn; the items in new pairs -/
def ItzM (K : PySem.W.Frag) (a b : Addr) : It := ⟨fun i H => ∃ (xs ys : List V) (x y : V), SqT K H a xs ∧ SqL K H b ys ∧ xs[i]? = some x ∧ ys[i]? = some y, fun i H v H' => ∃ T x y, v = .ref T ∧ H T = none ∧ H' = upd H T (.tup [x, y]) ∧ (∀ xs, SqT K H a xs → xs[i]? = some x) ∧ ∀ ys, SqL K H b ys → ys[i]? = some y, fun i H => ∃ xs ys : List V, SqT K H a xs ∧ SqL K H b ys ∧ (xs.length ≤ i ∨ ys.length ≤ i)⟩
theorem mem5 {c z TI TO i1 i2 : Addr} (h : c ∈ [z, TI, TO, i1, i2]) : c = z ∨ c = TI ∨ c = TO ∨ c = i1 ∨ c = i2 := by simpa using h
def iZipM (K : PySem.W.Frag) (ta : TA) : TI := fun σ H R => ta σ H fun vs H1 => ∃ a b xs ys, vs = [.ref a, .ref b] ∧ SqT K H1 a xs ∧ SqL K H1 b ys ∧ R (ItzM K a b) H1
section
variable {K : PySem.W.Frag} {Γ : List Cell} {Θ : List Tmp}
theorem vi_zipM {ta tb : TE} {Q : List Cell → Bool → List Dat → Prop} (h : VD K Γ Θ ta fun Γ1 d => VD K Γ1 (.dt d :: Θ) tb fun Γ2 e => ∃ ds es, d = .tuple ds ∧ e = .list es ∧ Q Γ2 true (zipD ds es)) : VI K Γ Θ (iZipM K (tCons ta (tCons tb tNil))) Q := fun L S0 σ τ S R E k =>
  h L S0 σ τ S _ E fun Γ1 S1 u d E1 h1 => h1 L S0 σ _ S1 _ E1 fun Γ2 S2 v e E2 ⟨ds, es, ed, ee, q⟩ => by
  subst ed ee
  obtain ⟨b, zs, eb, hb, pb⟩ := dp_list E2.dt
  obtain ⟨a, oa, xs, ea, _, hx, p⟩ := dp_tup E2.pop.dt
  subst ea eb
  refine ⟨a, b, xs, zs, rfl, sqt_f (E2.sub _ _ hx), .of (E2.sub _ _ hb), k Γ2 [.list es, .tuple ds] [.ref b, .ref a] S2 _ true (zipD ds es) E2 rfl ⟨fun S i sub hs hi => ?_, fun S sub hs => ?_, fun S i x H' sub hs hi y => ?_⟩ q⟩
  · obtain ⟨ws, hw', pw⟩ := src_l (K := K) sub (dqa_two hs).1
    obtain ⟨ys, hy', py⟩ := src_t (K := K) sub (dqa_two hs).2
    rw [zipD_len] at hi
    have i1 : i < ds.length := by omega
    have i2 : i < es.length := by omega
    obtain ⟨z, hz, _⟩ := py.get (List.getElem?_eq_getElem i1)
    obtain ⟨z', hz', _⟩ := pw.get (List.getElem?_eq_getElem i2)
    exact ⟨ys, ws, z, z', hy', hw', hz, hz'⟩
  · obtain ⟨ws, hw', pw⟩ := src_l (K := K) sub (dqa_two hs).1
    obtain ⟨ys, hy', py⟩ := src_t (K := K) sub (dqa_two hs).2
    refine ⟨ys, ws, hy', hw', ?_⟩
    rw [zipD_len, py.len, pw.len]
    omega
  · obtain ⟨ws, hw', pw⟩ := src_l (K := K) sub (dqa_two hs).1
    obtain ⟨ys, hy', py⟩ := src_t (K := K) sub (dqa_two hs).2
    obtain ⟨T, z, z', rfl, hT, rfl, y1, y2⟩ := y
    obtain ⟨d, hd, gd⟩ := py.getV (y1 ys hy')
    obtain ⟨e, he, ge⟩ := pw.getV (y2 ws hw')
    obtain ⟨S', e1, g1, s1, q1⟩ := gr_pair sub hT gd ge
    exact ⟨S', _, e1, g1, s1, zipD_at hd he, q1⟩
end
end Ld
set_option Elab.async false
set_option linter.all false
set_option maxRecDepth 100000
namespace Sh
/-! ### past a light shelf -/
def lp : List (Int × Nat) → List Int → List Int
  | [], S => asc S
  | (a, m) :: r, S => (asc (S ++ [a])).take (S.length + 1 - m) ++ lp r ((asc (S ++ [a])).drop (S.length + 1 - m))
theorem asc_len (S : List Int) : (asc S).length = S.length := (asc_perm S).length_eq
theorem lp_perm : ∀ (L : List (Int × Nat)) (S : List Int), (lp L S).Perm (S ++ L.map (·.1))
  | [], S => by
    show (asc S).Perm (S ++ [])
    rw [List.append_nil]
    exact asc_perm S
  | (a, m) :: r, S => by
    show ((asc (S ++ [a])).take _ ++ lp r _).Perm (S ++ a :: r.map (·.1))
    have h := lp_perm r ((asc (S ++ [a])).drop (S.length + 1 - m))
    have h2 : ((asc (S ++ [a])).take (S.length + 1 - m) ++ lp r ((asc (S ++ [a])).drop (S.length + 1 - m))).Perm ((asc (S ++ [a])).take (S.length + 1 - m) ++ ((asc (S ++ [a])).drop (S.length + 1 - m) ++ r.map (·.1))) := h.append_left _
    rw [← List.append_assoc, List.take_append_drop] at h2
    refine h2.trans (((asc_perm (S ++ [a])).append_right _).trans ?_)
    rw [List.append_assoc]
    exact .refl _
theorem cntG_perm {A B : List Int} (h : A.Perm B) (x : Int) : cntG A x = cntG B x := (h.filter _).length_eq
theorem gc_out {A B : List Int} {x : Int} (h : x ∉ A) : gc (A ++ B) x = cntG A x + gc B x := by
  unfold gc
  rw [tw_out _ h, cntG_app]
end Sh
namespace Sh
theorem let_step {l : Bool} {T G U : List Int} {one : Int} (hp : (G ++ U).Perm T) (hs : (tm l G).Pairwise (· ≤ ·)) (hgu : ∀ g ∈ G, ∀ u ∈ U, sg l * g ≤ sg l * u) (h1 : one ∈ U) (h2 : ∀ y ∈ U, sg l * one ≤ sg l * y) :
    ((G ++ [one]) ++ U.erase one).Perm T ∧ (tm l (G ++ [one])).Pairwise (· ≤ ·) ∧ (∀ g ∈ G ++ [one], ∀ u ∈ U.erase one, sg l * g ≤ sg l * u) ∧ (U.erase one).length + 1 = U.length := by
  refine ⟨?_, ?_, fun g hg u hu => ?_, ?_⟩
  · rw [List.append_assoc]
    exact ((List.perm_cons_erase h1).symm.append_left G).trans hp
  · unfold tm
    rw [List.map_append, List.pairwise_append]
    refine ⟨hs, List.pairwise_singleton _ _, fun a ha b hb => ?_⟩
    obtain ⟨g, hg, rfl⟩ := List.mem_map.mp ha
    rw [List.map_singleton, List.mem_singleton] at hb
    rw [hb]
    exact hgu g hg one h1
  · have hu' := List.mem_of_mem_erase hu
    rcases List.mem_append.mp hg with hg | hg
    · exact hgu g hg u hu'
    · rw [List.mem_singleton.mp hg]
      exact h2 u hu'
  · rw [List.length_erase_of_mem h1]
    have := List.length_pos_of_mem h1
    omega
theorem let_fin {l : Bool} {T G U : List Int} {n : Nat} (hp : (G ++ U).Perm T) (hs : (tm l G).Pairwise (· ≤ ·)) (hgu : ∀ g ∈ G, ∀ u ∈ U, sg l * g ≤ sg l * u) (h1 : U.length ≤ n) (h2 : n ≤ U.length ∨ G = []) :
    tm l G = (asc (tm l T)).take (T.length - n) ∧ (tm l U).Perm ((asc (tm l T)).drop (T.length - n)) := by
  have hl := hp.length_eq
  rw [List.length_append] at hl
  have hG : (tm l G).length = T.length - n := by
    rw [tm_len]
    rcases h2 with h2 | h2
    · omega
    · subst h2
      simp only [List.length_nil] at hl ⊢
      omega
  have e : tm l G ++ asc (tm l U) = asc (tm l T) := by
    refine eq_asc (((asc_perm (tm l U)).append_left _).trans ?_) ?_
    · have := hp.map (sg l * ·)
      rw [List.map_append] at this
      exact this
    · rw [List.pairwise_append]
      refine ⟨hs, asc_srt _, fun a ha b hb => ?_⟩
      obtain ⟨g, hg, rfl⟩ := List.mem_map.mp ha
      obtain ⟨u, hu, rfl⟩ := List.mem_map.mp ((asc_perm _).mem_iff.mp hb)
      exact hgu g hg u hu
  rw [← e, List.take_left' hG, List.drop_left' hG]
  exact ⟨rfl, (asc_perm _).symm⟩
end Sh
namespace Ld
open PySem PySem.Spec PyProof.Rows L2 Lx
section
variable {K : PySem.W.Frag} {Γ : List Cell} {Θ : List Tmp}
theorem r2_catR {x y : Tmp} {ds es : List Dat} {Q : List Cell → Tmp → Prop} (hx : rd Γ x (.list ds)) (hy : rd Γ y (.list es)) (hz : ds.length + es.length ≤ sizeLine) (q : Q Γ (.fr (ds ++ es))) : R2V K rCat Γ Θ x y Q := fun L S0 σ τ S vx vy Qv E k => by
  obtain ⟨b, zs, eb, qb, pb⟩ := rdB_l E hy
  obtain ⟨a, xs, ea, qa, pa⟩ := rdB_l E.pop hx
  exact ⟨a, b, xs, zs, ea, eb, qa, qb, by rw [pa.len, pb.len]; exact hz, fun p hp => k Γ _ _ _ (E.pop.pop.newLst hp (pa.app pb)) q⟩
end
end Ld
namespace Sh
open PySem PySem.Spec PyProof.Rows L2 Lx Ld
theorem lp_cong : ∀ (L : List (Int × Nat)) {S S' : List Int}, S.Perm S' → lp L S = lp L S'
  | [], S, S', h => asc_of_perm h
  | (a, m) :: r, S, S', h => by
    show (asc (S ++ [a])).take _ ++ lp r _ = (asc (S' ++ [a])).take _ ++ lp r _
    rw [asc_of_perm (h.append_right [a]), h.length_eq]
theorem zip_iLN (x : List Int) (y : List Nat) : zipD (iL x) (iL (y.map Int.ofNat)) = (x.zip y).map fun p => PyData.tuple [.int p.1, .int p.2] := by
  rw [zip_iL, List.zip_map_right, List.map_map]
  rfl
theorem lp_len (L : List (Int × Nat)) (S : List Int) : (lp L S).length = S.length + L.length := by rw [(lp_perm L S).length_eq, List.length_append, List.length_map]
theorem tm_app (l : Bool) (a b : List Int) : tm l (a ++ b) = tm l a ++ tm l b := List.map_append
/-- one moment more -/
theorem let_one {l : Bool} {L : List (Int × Nat)} {i m : Nat} {n : Int} {U C G U' : List Int} (hL : L[i]? = some (sg l * n, m)) (h : lp L [] = tm l C ++ lp (L.drop i) (tm l U)) (hG : tm l G = (asc (tm l (U ++ [n]))).take ((U ++ [n]).length - m)) (hU : (tm l U').Perm ((asc (tm l (U ++ [n]))).drop ((U ++ [n]).length - m))) :
    lp L [] = tm l (C ++ G) ++ lp (L.drop (i + 1)) (tm l U') := by
  obtain ⟨hi, e⟩ := List.getElem?_eq_some_iff.mp hL
  rw [List.drop_eq_getElem_cons hi, e] at h
  rw [h, tm_app, List.append_assoc]
  congr 1
  show (asc (tm l U ++ [sg l * n])).take ((tm l U).length + 1 - m) ++ lp _ ((asc (tm l U ++ [sg l * n])).drop ((tm l U).length + 1 - m)) = _
  have e1 : tm l (U ++ [n]) = tm l U ++ [sg l * n] := tm_app l U [n]
  have e2 : (U ++ [n]).length = (tm l U).length + 1 := by rw [tm_len, List.length_append]; rfl
  rw [e1, e2] at hG hU
  rw [hG, lp_cong _ hU]
end Sh
namespace Sh
open PySem PySem.Spec PyProof.Rows L2 Lx Ld
theorem iL_inj {a b : List Int} (h : iL a = iL b) : a = b := by
  induction a generalizing b with
  | nil => cases b with
    | nil => rfl
    | cons y b => cases h
  | cons x a ih => cases b with
    | nil => cases h
    | cons y b =>
      have h1 : PyData.int x = PyData.int y := (List.cons.inj h).1
      have h2 : iL a = iL b := (List.cons.inj h).2
      cases h1
      rw [ih h2]
theorem iL_app (a b : List Int) : iL a ++ iL b = iL (a ++ b) := List.map_append.symm
theorem iL_one (a : List Int) (n : Int) : iL a ++ [PyData.int n] = iL (a ++ [n]) := iL_app a [n]
end Sh
namespace Sh
/-- a stretch past a shelf, a row past a shelf -/
def pastL (l : Bool) (n : Nat) (s : List Int) : List Int := tm l (lp ((tm l s).map fun a => (a, n)) [])
end Sh
namespace Sh
open PySem PySem.Spec PyProof.Rows L2 Lx Ld
end Sh
namespace Sh
end Sh
namespace Sh
open PySem PySem.Spec PyProof.Rows L2 Lx Ld
end Sh
namespace Ld
open PySem PySem.Spec PyProof.Rows L2 Lx
/-- a, b = x, y where a name is a cell: the pair is made and taken apart -/
theorem ss_parT {K : PySem.W.Frag} {Γ : List Cell} {i j : Nat} {ta tb : TE} {R : DE} (h : ∀ ss, VE K Γ (srcT ss) ta fun Γ1 x => VE K Γ1 (x :: srcT ss) tb fun Γ2 y => (∀ k, x ≠ .br k) ∧ ∃ Γ3 Γ4, St1 Γ2 i x = some Γ3 ∧ St1 Γ3 j y = some Γ4 ∧ R.nx Γ4) :
    VSs K Γ (tAsg (tTupF (tCons ta (tCons tb tNil))) (gTup K 2 (gCons (gName i) (gCons (gName j) gNil)))) R := fun ss L S0 σ τ S D E kn kr kb kc =>
  h ss L S0 σ τ S _ E fun Γ1 S1 u x E1 h1 => h1 L S0 σ _ S1 _ E1 fun Γ2 S2 v y E2 ⟨nx, Γ3, Γ4, e3, e4, q⟩ => by
    refine ⟨Nat.le_of_lt (show 2 < sizeLine by decide +kernel), fun p o hd hp => ?_⟩
    have E3 := E2.grow (gr_new (o := .frz o (.tup [u, v])) hp E2.sub) (sub_new hp E2.sub)
    refine ⟨p, [u, v], rfl, sqt_f upd_same, rfl, u, [v], rfl, v, [], rfl, rfl, ?_⟩
    have ny : y ≠ .br i := fun z => by subst z; cases e4
    exact kn Γ4 _ ⟨S2.b, upd S2.h p (.frz o (.tup [u, v]))⟩ (((E3.swap).st1 (fun t ht => by
      rcases List.mem_cons.mp ht with rfl | ht
      · exact ny
      · exact nb_src t ht) e3).st1 nb_src e4) q
end Ld
namespace Ld
open PySem PySem.Spec PyProof.Rows L2 Lx
end Ld
namespace Sh
open PySem PySem.Spec PyProof.Rows L2 Lx Ld
end Sh
namespace Sh
open PySem PySem.Spec PyProof.Rows L2 Lx Ld
end Sh
set_option Elab.async false
set_option linter.all false
set_option maxRecDepth 100000
namespace Sh
open PySem PySem.Spec PyProof.Rows L2 Lx Ld
/-! ### stretches, marks, the opposite row -/
end Sh
namespace Sh
open PySem PySem.Spec PyProof.Rows L2 Lx Ld
theorem ve_ifS {K : PySem.W.Frag} {Γ : List Cell} {Θ : List Tmp} {te : TE} {Q : List Cell → Tmp → Prop} (h : VE K Γ Θ te fun Γ1 x => ∃ l, x = .dt (.str (wd l)) ∧ Q Γ1 (.dt (.int (sg l)))) :
    VE K Γ Θ (tIf (tTest (tOp (rEqD K) te (tC (V.str "light")))) (tC (V.int 1)) (tUn (rU fun i => V.int (-i)) (tC (V.int 1)))) Q :=
  ve_ifE (vt_test (ve_op (ve_mono h fun Γ1 x ⟨l, ex, q⟩ => by
    subst ex
    refine ve_str (r2_eqW (asb ⟨fun e => ?_, fun e => ?_⟩))
    · subst e
      exact ve_int q
    · subst e
      exact ve_un rfl (ve_int ⟨1, rfl, q⟩))))
end Sh
namespace Sh
open PySem PySem.Spec PyProof.Rows L2 Lx Ld
theorem idx_nd {N : List Int} (h : N.Nodup) {i : Nat} {x : Int} (hx : N[i]? = some x) : N.idxOf x = i := by
  obtain ⟨hi, e⟩ := List.getElem?_eq_some_iff.mp hx
  subst e
  exact h.idxOf_getElem i hi
end Sh
set_option Elab.async false
set_option linter.all false
set_option maxRecDepth 100000
set_option maxHeartbeats 2000000
namespace Ld
open PySem PySem.Spec PyProof.Rows L2 Lx
theorem upT {h : Heap} {a : Addr} {xs : Array Value} (x : IsTup h a xs) (o : Obj) : IsTup (h.push o) a xs := by
  obtain ⟨p, e, r⟩ := x
  exact ⟨p, Heap.get?_push_of_some _ e, r⟩
theorem ltT {h : Heap} {a : Addr} {xs : Array Value} (x : IsTup h a xs) : a < h.objs.size := by
  obtain ⟨p, e, r⟩ := x
  exact Heap.lt_size e
/-- a tuple at a, a list at b, as they stand at each turn; the items in new pairs -/
def ItzT2 (K : PySem.W.Frag) (a b : Addr) : It := ⟨fun i H => ∃ (xs ys : List V) (x y : V), SqT K H a xs ∧ SqT K H b ys ∧ xs[i]? = some x ∧ ys[i]? = some y, fun i H v H' => ∃ T x y, v = .ref T ∧ H T = none ∧ H' = upd H T (.tup [x, y]) ∧ (∀ xs, SqT K H a xs → xs[i]? = some x) ∧ ∀ ys, SqT K H b ys → ys[i]? = some y, fun i H => ∃ xs ys : List V, SqT K H a xs ∧ SqT K H b ys ∧ (xs.length ≤ i ∨ ys.length ≤ i)⟩
theorem turn_zipT2 {P : Program} {w : World} {K : PySem.W.Frag} {elts : List Expr} {kk : Nat} {tpos : Pos} {a b z TI TO i1 i2 : Addr} (D : ZipApart z TI TO i1 i2 a b) :
    Turn P w K (.Tuple elts kk tpos) (ItzT2 K a b) [z, TI, TO, i1, i2] z (fun i h => IsZip h z TI TO .none ∧ IsPair h TI (.ref i1) (.ref i2) ∧ (∃ x y, IsPair h TO x y) ∧ h.IsTupleIter i1 a i ∧ h.IsTupleIter i2 b i) where
  mem := by simp
  obj := fun i h st c hc => by
    obtain ⟨hz, hTI, ⟨x, y, hTO⟩, ⟨o1, e1, _, d1⟩, ⟨o2, e2, _, d2⟩⟩ := st
    rcases mem5 hc with q | q | q | q | q <;> rw [q]
    · exact ⟨_, hz, fun v q => nomatch q⟩
    · exact ⟨_, hTI, fun v q => nomatch q⟩
    · exact ⟨_, hTO, fun v q => nomatch q⟩
    · exact ⟨o1, e1, fun v q => by rw [d1] at q; cases q⟩
    · exact ⟨o2, e2, fun v q => by rw [d2] at q; cases q⟩
  keep := fun i h h' ⟨hz, hTI, ⟨x, y, hTO⟩, h1, h2⟩ k => ⟨k z (by simp) _ hz, k TI (by simp) _ hTI, ⟨x, y, k TO (by simp) _ hTO⟩, h1.at fun o q => k i1 (by simp) o q, h2.at fun o q => k i2 (by simp) o q⟩
  item := by
    intro X hP hw hK hc i pins s σ H E I hf st hg; subst hP hw hK
    obtain ⟨hz, hTI, ⟨x0, y0, hTO⟩, h1, h2⟩ := st; obtain ⟨xs, ys, x, y, hqx, hqy, hx, hy⟩ := hg
    obtain ⟨its, rv, p, _⟩ := I.tuple hqx; obtain ⟨its2, rv2, p2, _⟩ := I.tuple hqy; obtain ⟨u, hu, ru⟩ := rv.get hx; obtain ⟨u2, hu2, ru2⟩ := rv2.get hy
    have zlt : z < s.heap.objs.size := Heap.lt_size hz
    refine pyNext_zipG_item D (stp_t (xs := its.toArray)) (stp_t (xs := its2.toArray)) hz hTI hTO ⟨h1, p⟩ ⟨h2, p2⟩ (x := u) (y := u2) (by simpa using hu) (by simpa using hu2) fun h' z' TO' ⟨h1', _⟩ ⟨h2', _⟩ hT hsz hk => ?_
    refine ⟨_, rfl, wpAny_letOwnedTupleGo_zip (s := { s with heap := h' }) z' fun h'' z'' sb => ?_⟩
    have t2 : h''.get? s.heap.objs.size = some { cls := .type "tuple", data := .seq #[u, u2] } := (sb.2 _ (Nat.ne_of_gt zlt)).trans hT
    have new : ObjOk X.prog X.w (upd H s.heap.objs.size (.tup [x, y])) h'' s.heap.objs.size (.tup [x, y]) := ⟨by show 2 ≤ sizeLine; decide, [u, u2], .cons ru (.cons ru2 .nil), ⟨_, t2, rfl, _, rfl⟩⟩
    have ne : ∀ {c t : Addr}, c ∉ [z, TI, TO, i1, i2] → t ∈ [z, TI, TO, i1, i2] → c ≠ t := fun a b e => a (e ▸ b)
    have I1 : Inv X pins σ (upd H s.heap.objs.size (.tup [x, y])) { s with heap := h'' } := I.turnedNew (t' := s.toks) (ch := [z, TI, TO, i1, i2]) (fun c o hb q => (sb.2 c (ne hb (by simp))).trans (hk c o (ne hb (by simp)) (ne hb (by simp)) (ne hb (by simp)) (ne hb (by simp)) q)) hf (Nat.le_refl _) new
    refine ⟨.ref s.heap.objs.size, _, I1, rfl, ⟨_, x, y, rfl, I.hok.fresh (Nat.le_refl _), rfl, fun l hl => by rw [I.tuple_inj hl hqx]; exact hx, fun l hl => by rw [I.tuple_inj hl hqy]; exact hy⟩, ⟨z'', (sb.2 _ D.TIz).trans (hk _ _ D.TIz D.TITO D.TIi1 D.TIi2 hTI), ⟨u, u2, (sb.2 _ D.TOz).trans TO'⟩, h1'.at fun o q => (sb.2 _ D.i1z).trans q, h2'.at fun o q => (sb.2 _ D.i2z).trans q⟩, fun c hcm => ?_⟩
    have hlt : c < s.heap.objs.size := by
      rcases mem5 hcm with q | q | q | q | q <;> rw [q]
      · exact zlt
      · exact Heap.lt_size hTI
      · exact Heap.lt_size hTO
      · obtain ⟨_, e1, _⟩ := h1; exact Heap.lt_size e1
      · obtain ⟨_, e2, _⟩ := h2; exact Heap.lt_size e2
    rw [upd_ne (Nat.ne_of_lt hlt)]; exact (hf c hcm).1
  done := by
    intro X hP hw hK hc i pins s σ H E I hf st hg; subst hP hw hK
    obtain ⟨hz, hTI, ⟨x0, y0, hTO⟩, h1, h2⟩ := st; obtain ⟨xs, ys, hqx, hqy, hend⟩ := hg
    obtain ⟨its, rv, p, _⟩ := I.tuple hqx; obtain ⟨its2, rv2, p2, _⟩ := I.tuple hqy
    have l1 := rv.length; have l2 := rv2.length
    have he : its.toArray[i]? = none ∨ its2.toArray[i]? = none := hend.imp (fun q => by simp; omega) (fun q => by simp; omega)
    have ne : ∀ {c t : Addr}, c ∉ [z, TI, TO, i1, i2] → t ∈ [z, TI, TO, i1, i2] → c ≠ t := fun a b e => a (e ▸ b)
    exact pyNext_zipG_end (I.ok.hd hc) D (stp_t (xs := its.toArray)) (stp_t (xs := its2.toArray)) hz hTI hTO ⟨h1, p⟩ ⟨h2, p2⟩ he fun h' hk => ⟨rfl, I.turnedL (t' := s.toks) (ch := [z, TI, TO, i1, i2]) (fun c o hb q => hk c o (ne hb (by simp)) (ne hb (by simp)) (ne hb (by simp)) (ne hb (by simp)) q) hf⟩
  self := fun A i s Q E st h => wpAny_pyIter_zip st.1 h
def iZipT2 (K : PySem.W.Frag) (ta : TA) : TI := fun σ H R => ta σ H fun vs H1 => ∃ a b xs ys, vs = [.ref a, .ref b] ∧ SqT K H1 a xs ∧ SqT K H1 b ys ∧ R (ItzT2 K a b) H1
theorem pi_zipTT {X : Cx} {e e2 : Expr} {ta : TA} {p pos tpos : Pos} {elts : List Expr} {kk : Nat} (hg : Gl X "zip") (hm : X.mg "zip" = none) (ha : PA X [e, e2] ta) (hs : starEach [e, e2] X.env = (false, eval e X.env) :: starEach [e2] X.env := by rfl) (hpl : (backTo pos (starEach [e2] X.env)).any (·.1) = false := by rfl) :
    PI X (.Tuple elts kk tpos) (.Call (.Name "zip" p) [e, e2] [] pos) (iZipT2 X.K ta) := by
  refine ⟨fun pins s σ H R I h => Call_ (ld_blt I hg hm PyProof.Rows.boot_zip (PyProof.Rows.callWith_type1 (thn (ha.run pos pins s σ H _ I h) fun us s1 ⟨vs, H1, I1, r1, q1⟩ => ?_) hs hpl))⟩
  obtain ⟨a, b, xs, ys, ex, hqx, hqy, q⟩ := q1; subst ex
  cases r1 with
  | cons r rr =>
    cases rr with
    | cons r' rr =>
      cases rr; cases r; cases r'
      obtain ⟨its, rv, p1, _⟩ := I1.tuple hqx; obtain ⟨its2, rv2, p2, _⟩ := I1.tuple hqy; obtain ⟨o1, ho1, _⟩ := id p1
      refine call_zipG (begins_tuple a its.toArray) (begins_tuple b its2.toArray) (fun h z => upT z _) p1 p2 fun h' hz hTI hTO h1 h2 hk => wpAny_pyIter_zip hz ?_
      have I2 : Inv X pins σ H1 { s1 with heap := h' } := I1.kept (t' := s1.toks) hk
      refine ⟨s1.heap.objs.size + 4, [s1.heap.objs.size + 4, s1.heap.objs.size + 2, s1.heap.objs.size + 3, s1.heap.objs.size, s1.heap.objs.size + 1], _, _, H1, rfl, I2, turn_zipT2 (PySem.W.ktu_apart s1.heap.objs.size a b (Heap.lt_size ho1) (ltT p2)), ⟨hz, hTI, ⟨_, _, hTO⟩, ⟨_, h1, rfl, rfl⟩, ⟨_, h2, rfl, rfl⟩⟩, fun c hcm => ?_, q⟩
      have hle : s1.heap.objs.size ≤ c := by rcases mem5 hcm with z | z | z | z | z <;> rw [z] <;> omega
      exact I1.fpOk hle (I1.hok.fresh hle)
section
variable {K : PySem.W.Frag} {Γ : List Cell} {Θ : List Tmp}
theorem vi_zipT2 {ta tb : TE} {Q : List Cell → Bool → List Dat → Prop} (h : VD K Γ Θ ta fun Γ1 d => VD K Γ1 (.dt d :: Θ) tb fun Γ2 e => ∃ ds es, d = .tuple ds ∧ e = .tuple es ∧ Q Γ2 true (zipD ds es)) : VI K Γ Θ (iZipT2 K (tCons ta (tCons tb tNil))) Q := fun L S0 σ τ S R E k =>
  h L S0 σ τ S _ E fun Γ1 S1 u d E1 h1 => h1 L S0 σ _ S1 _ E1 fun Γ2 S2 v e E2 ⟨ds, es, ed, ee, q⟩ => by
  subst ed ee
  obtain ⟨b, ob, zs, eb, _, hb, pb⟩ := dp_tup E2.dt
  obtain ⟨a, oa, xs, ea, _, hx, p⟩ := dp_tup E2.pop.dt
  subst ea eb
  refine ⟨a, b, xs, zs, rfl, sqt_f (E2.sub _ _ hx), sqt_f (E2.sub _ _ hb), k Γ2 [.tuple es, .tuple ds] [.ref b, .ref a] S2 _ true (zipD ds es) E2 rfl ⟨fun S i sub hs hi => ?_, fun S sub hs => ?_, fun S i x H' sub hs hi y => ?_⟩ q⟩
  · obtain ⟨ws, hw', pw⟩ := src_t (K := K) sub (dqa_two hs).1
    obtain ⟨ys, hy', py⟩ := src_t (K := K) sub (dqa_two hs).2
    rw [zipD_len] at hi
    have i1 : i < ds.length := by omega
    have i2 : i < es.length := by omega
    obtain ⟨z, hz, _⟩ := py.get (List.getElem?_eq_getElem i1)
    obtain ⟨z', hz', _⟩ := pw.get (List.getElem?_eq_getElem i2)
    exact ⟨ys, ws, z, z', hy', hw', hz, hz'⟩
  · obtain ⟨ws, hw', pw⟩ := src_t (K := K) sub (dqa_two hs).1
    obtain ⟨ys, hy', py⟩ := src_t (K := K) sub (dqa_two hs).2
    refine ⟨ys, ws, hy', hw', ?_⟩
    rw [zipD_len, py.len, pw.len]
    omega
  · obtain ⟨ws, hw', pw⟩ := src_t (K := K) sub (dqa_two hs).1
    obtain ⟨ys, hy', py⟩ := src_t (K := K) sub (dqa_two hs).2
    obtain ⟨T, z, z', rfl, hT, rfl, y1, y2⟩ := y
    obtain ⟨d, hd, gd⟩ := py.getV (y1 ys hy')
    obtain ⟨e, he, ge⟩ := pw.getV (y2 ws hw')
    obtain ⟨S', e1, g1, s1, q1⟩ := gr_pair sub hT gd ge
    exact ⟨S', _, e1, g1, s1, zipD_at hd he, q1⟩
end
end Ld
set_option Elab.async false
set_option linter.all false
set_option maxRecDepth 100000
set_option maxHeartbeats 4000000
/-! tuple * int; dicts of ints -/
namespace Lx
open PySem PySem.Spec PyProof.Rows L2
theorem tuple_mulW1 (l : Addr) (items : Array Value) (n : Nat) (dd : Option Addr) (sl : Array (Option Value)) (x : Int) (u : Tok) (c0 : (decide (x < -(2 ^ 63)) || decide (x ≥ 2 ^ 63)) = false) (c1 : (items.isEmpty || x == 1) = true) :
    Meets (Builtin.«tuple.__mul__» ⟨[.ref l, .int x u], []⟩) (fun _ R s => s.heap.get? l = some { cls := .type "tuple", dict := dd, data := .seq items n, slots := sl } ∧ R (.ok (.ret (Value.ref l))) { s with heap := s.heap, toks := s.toks }) :=
  .of_wp fun prog w A R s h => by
    obtain ⟨hp, g, d, tk, os⟩ := s
    obtain ⟨hl, h⟩ := h
    have f1 := AutoSeq1.idx_int
    wp_walk using wpAny_loadPart' hl
    repeat (first
      | (refine wpAny_ite_false (decide_eq_false (by rw [c0]; exact Bool.false_ne_true)) ?_; wp_walk using wpAny_loadPart' hl)
      | (refine wpAny_ite_true (decide_eq_true (by rw [c1])) ?_; wp_walk using wpAny_loadPart' hl))
    exact ⟨_, rfl, h⟩
theorem tuple_mulW0 (l : Addr) (items : Array Value) (n : Nat) (dd : Option Addr) (sl : Array (Option Value)) (x : Int) (u : Tok) (c0 : (decide (x < -(2 ^ 63)) || decide (x ≥ 2 ^ 63)) = false) (c1 : (items.isEmpty || x == 1) = false) (c2 : (decide (x ≤ 0) || items.isEmpty) = true) :
    Meets (Builtin.«tuple.__mul__» ⟨[.ref l, .int x u], []⟩) (fun _ R s => s.heap.get? l = some { cls := .type "tuple", dict := dd, data := .seq items n, slots := sl } ∧
      R (.ok (.ret (Value.ref s.heap.objs.size))) { s with heap := s.heap.push { cls := Value.type "tuple", data := Data.seq #[] }, toks := s.toks }) :=
  .of_wp fun prog w A R s h => by
    obtain ⟨hp, g, d, tk, os⟩ := s
    obtain ⟨hl, h⟩ := h
    have f1 := AutoSeq1.idx_int
    wp_walk using wpAny_loadPart' hl
    repeat (first
      | (refine wpAny_ite_false (decide_eq_false (by rw [c0]; exact Bool.false_ne_true)) ?_; wp_walk using wpAny_loadPart' hl)
      | (refine wpAny_ite_false (decide_eq_false (by rw [c1]; exact Bool.false_ne_true)) ?_; wp_walk using wpAny_loadPart' hl)
      | (refine wpAny_ite_true (decide_eq_true (by rw [c2])) ?_; wp_walk using wpAny_loadPart' hl))
    exact ⟨_, rfl, h⟩
end Lx
namespace Lx
open PySem PySem.Spec PyProof.Rows L2
def rRepF (K : PySem.W.Frag) : R2 := fun x y H Q => ∃ l k xs, x = .ref l ∧ y = .int k ∧ SqT K H l xs ∧ xs ≠ [] ∧ -1000 ≤ k ∧ k ≤ 1000 ∧ xs.length ≤ 1000 ∧ (k = 1 → Q (.ref l) H) ∧ (k ≠ 1 → NewT H (List.replicate k.toNat xs).flatten Q)
section
variable {X : Cx}
theorem op_repF : OpR X (binaryOp .Mult) (rRepF X.K) := by
  intro pins s σ H x y v u Q I rx ry h
  obtain ⟨l, k, xs, rfl, rfl, hT, hne, h1, h2, hz, q1, q2⟩ := h
  cases rx
  obtain ⟨t, rfl⟩ := ry
  obtain ⟨its, r, ⟨⟨cls, dd, data, sl⟩, ho, hc, n, hd⟩, hs⟩ := I.tuple hT
  simp only at hc hd
  subst hc hd
  have hle : its.length = xs.length := r.length.symm
  have hn : its ≠ [] := fun e => hne (by
    rw [e] at hle
    exact List.eq_nil_of_length_eq_zero hle.symm)
  have hi : its.toArray.isEmpty = false := by
    cases its with
    | nil => exact absurd rfl hn
    | cons a b => rfl
  have hsz0 : its.toArray.size = xs.length := by rw [List.size_toArray, hle]
  have hm : ((its.toArray.size : Nat) : Int) * k ≤ 1000000 := by
    rw [hsz0]
    by_cases k0 : 0 ≤ k
    · have a1 : ((xs.length : Nat) : Int) * k ≤ 1000 * k := Int.mul_le_mul_of_nonneg_right (by omega) k0
      omega
    · have a1 : ((xs.length : Nat) : Int) * k ≤ 0 := Int.mul_nonpos_of_nonneg_of_nonpos (by omega) (by omega)
      omega
  have flen : (List.replicate k.toNat its).flatten.length ≤ sizeLine := by
    rw [PyProof.Rows.lm_len_rep_flat, hle, sizeLine_eq]
    have a1 : k.toNat * xs.length ≤ 1000 * 1000 := Nat.mul_le_mul (by omega) hz
    omega
  have flen2 : (List.replicate k.toNat xs).flatten.length ≤ sizeLine := by
    rw [PyProof.Rows.lm_len_rep_flat, sizeLine_eq]
    have a1 : k.toNat * xs.length ≤ 1000 * 1000 := Nat.mul_le_mul (by omega) hz
    omega
  have c0 : (decide (k < -(2 ^ 63)) || decide (k ≥ 2 ^ 63)) = false := by
    rw [decide_eq_false (by omega), decide_eq_false (by omega)] <;> rfl
  by_cases k1 : k = 1
  · have c1 : (its.toArray.isEmpty || k == 1) = true := by
      rw [hi, Bool.false_or]
      exact beq_iff_eq.mpr k1
    refine wpAny_binaryOp_repeat_ref (T := "tuple") (U := "int") (by decide) ⟨_, ho, rfl⟩ (fun s' => typeIs_int s' k t) noFill_tuple_mul F.fills_int_mul F.slot_int_rmul repeat_tuple F.slot_int_index.lookup
      (call_meets F.slot_int_rmul (typeIs_int s k t) F.entry_int_rmul (F.args_int_rmul_2 _ _) (int_rmul_tuple k t l its.toArray n dd sl)
        ⟨ho, rfl, ⟨_, ho, rfl⟩, call_meets F.slot_tuple_mul ⟨_, ho, rfl⟩ F.entry_tuple_mul (F.args_tuple_mul_2 _ _) (tuple_mulW1 l its.toArray n dd sl k t c0 c1) ⟨ho, ?_⟩⟩)
    exact ⟨.ref l, H, I, rfl, q1 k1⟩
  have c1 : (its.toArray.isEmpty || k == 1) = false := by
    rw [hi, Bool.false_or]
    exact beq_eq_false_iff_ne.mpr k1
  by_cases k2 : 2 ≤ k
  · have c2 : (decide (k ≤ 0) || its.toArray.isEmpty) = false := by
      rw [hi, Bool.or_false]
      exact decide_eq_false (by omega)
    have c4 : Builtin.Tuple.tupleTooMany (((its.toArray.size : Nat) : Int) * k) = false := by
      unfold Builtin.Tuple.tupleTooMany
      rw [sizeLine_eq]
      exact decide_eq_false (by omega)
    refine wpAny_binaryOp_repeat_ref (T := "tuple") (U := "int") (by decide) ⟨_, ho, rfl⟩ (fun s' => typeIs_int s' k t) noFill_tuple_mul F.fills_int_mul F.slot_int_rmul repeat_tuple F.slot_int_index.lookup
      (call_meets F.slot_int_rmul (typeIs_int s k t) F.entry_int_rmul (F.args_int_rmul_2 _ _) (int_rmul_tuple k t l its.toArray n dd sl)
        ⟨ho, rfl, ⟨_, ho, rfl⟩, call_meets F.slot_tuple_mul ⟨_, ho, rfl⟩ F.entry_tuple_mul (F.args_tuple_mul_2 _ _) (tuple_mulW l its.toArray n dd sl k t c0 c1 c2 (by omega) c4 (by rw [size_rep, List.size_toArray]; exact flen)) ⟨ho, ?_⟩⟩)
    rw [size_rep]
    exact newT_at (tk := s.toks) I flen2 (r.rep k.toNat) (q2 k1)
  · have c2 : (decide (k ≤ 0) || its.toArray.isEmpty) = true := by
      rw [hi, Bool.or_false]
      exact decide_eq_true (by omega)
    refine wpAny_binaryOp_repeat_ref (T := "tuple") (U := "int") (by decide) ⟨_, ho, rfl⟩ (fun s' => typeIs_int s' k t) noFill_tuple_mul F.fills_int_mul F.slot_int_rmul repeat_tuple F.slot_int_index.lookup
      (call_meets F.slot_int_rmul (typeIs_int s k t) F.entry_int_rmul (F.args_int_rmul_2 _ _) (int_rmul_tuple k t l its.toArray n dd sl)
        ⟨ho, rfl, ⟨_, ho, rfl⟩, call_meets F.slot_tuple_mul ⟨_, ho, rfl⟩ F.entry_tuple_mul (F.args_tuple_mul_2 _ _) (tuple_mulW0 l its.toArray n dd sl k t c0 c1 c2) ⟨ho, ?_⟩⟩)
    have e0 : k.toNat = 0 := by omega
    have q3 := q2 k1
    rw [e0] at q3
    exact newT_at (tk := s.toks) (its := []) I (by simp) .nil q3
end
end Lx
namespace Ld
open PySem PySem.Spec PyProof.Rows L2 Lx
section
variable {K : PySem.W.Frag} {Γ : List Cell} {Θ : List Tmp}
theorem rep1 {α : Type} (ds : List α) : (List.replicate 1 ds).flatten = ds := by simp
theorem r2_repT {ds : List Dat} {j : Int} {Q : List Cell → Tmp → Prop} (h0 : ds ≠ []) (h1 : -1000 ≤ j) (h2 : j ≤ 1000) (hz : ds.length ≤ 1000) (q : Q Γ (.dt (.tuple (List.replicate j.toNat ds).flatten))) : R2V K (rRepF K) Γ Θ (.dt (.tuple ds)) (.dt (.int j)) Q := fun L S0 σ τ S vx vy Qv E k => by
  obtain ⟨a, o, xs, ea, hd, qa, pa⟩ := dp_tup E.pop.dt
  have hl := pa.len
  refine ⟨a, j, xs, ea, dp_int E.dt, sqt_f (E.sub _ _ qa), fun e => h0 (by rw [e] at hl; exact List.eq_nil_of_length_eq_zero hl.symm), h1, h2, by omega, fun e => ?_, fun _ p o hd hp => k Γ _ _ _ (E.pop.pop.newTup hd hp (dqa_rep pa _)) q⟩
  subst e
  have e1 : (List.replicate (1 : Int).toNat ds).flatten = ds := rep1 ds
  rw [e1] at q
  exact k Γ _ _ _ (E.pop.pop.push (.tup hd qa pa)) q
/-! ### dicts of ints -/
abbrev dI (l : List (Int × Int)) : HO := .dK (l.map fun p => (Sum.inl p.1, V.int p.2))
def lk (l : List (Int × Int)) (n : Int) : Option Int := (l.find? fun p => decide (p.1 = n)).map (·.2)
theorem lk_val (l : List (Int × Int)) (n : Int) : valV (l.map fun p => ((Sum.inl p.1 : Key), V.int p.2)) (Sum.inl n) = (lk l n).map V.int := by
  induction l with
  | nil => rfl
  | cons p l ih =>
    by_cases h : p.1 = n
    · rw [List.map_cons, valV_pos (by rw [h])]
      simp [lk, List.find?_cons, h]
    · rw [List.map_cons, valV_neg (fun e => h (Sum.inl.inj e)), ih]
      simp [lk, List.find?_cons, h]
theorem ve_dnew {Q : List Cell → Tmp → Prop} (q : Q Γ (.ob (dI []))) : VE K Γ Θ tDNewK Q := fun L S0 σ τ S Qv E k p hp => k Γ _ _ _ (E.newOb hp) q
theorem ve_ob {i : Nat} {p : HO} {Q : List Cell → Tmp → Prop} (h : Γ[i]? = some (.ob p)) (q : Q Γ (.br i)) : VE K Γ Θ (tVar i) Q := fun L S0 σ τ S Qv E k => by
  obtain ⟨w, h1, h2⟩ := id E.ok
  obtain ⟨a, e, o, n⟩ := h1 i _ h
  exact ⟨_, e, k Γ S _ _ (E.pushBr e) q⟩
theorem ve_dget {i : Nat} {te : TE} {Q : List Cell → Tmp → Prop} (h0 : ∃ p, Γ[i]? = some (.ob p)) (h : VE K Γ (.br i :: Θ) te fun Γ1 y => ∃ (l : List (Int × Int)) (n m : Int), Γ1[i]? = some (.ob (dI l)) ∧ y = .dt (.int n) ∧ lk l n = some m ∧ Q Γ1 (.dt (.int m))) : VE K Γ Θ (tDGet (tVar i) te) Q := by
  obtain ⟨p, h0⟩ := h0
  refine fun L S0 σ τ S Qv E k => ve_ob (Q := fun Γ1 c => Γ1 = Γ ∧ c = .br i) h0 ⟨rfl, rfl⟩ L S0 σ τ S _ E fun Γ1 S1 v c E1 ⟨e1, e2⟩ => ?_
  subst e1 e2
  refine h L S0 σ _ S1 _ E1 fun Γ2 S2 vy y E2 ⟨l, n, m, hi, ey, hl, q⟩ => ?_
  subst ey
  obtain ⟨a, ea, ha⟩ := E2.pop.ob_at hi
  refine ⟨a, .int m, ea, ?_, k Γ2 S2 _ _ (E2.pop.pop.push (.int m)) q⟩
  have hg := DGet.k (k := Sum.inl n) ha
  rw [lk_val, hl] at hg
  rw [dp_int E2.dt]
  exact hg
theorem ss_dput {i : Nat} {ty tv : TE} {R : DE} (h : ∀ ss, VE K Γ (srcT ss) tv fun Γ1 v => ∃ m : Int, v = .dt (.int m) ∧ (∃ p, Γ1[i]? = some (.ob p)) ∧ VE K Γ1 (.br i :: .dt (.int m) :: srcT ss) ty fun Γ2 y => ∃ (l : List (Int × Int)) (n : Int), Γ2[i]? = some (.ob (dI l)) ∧ y = .dt (.int n) ∧ l.length < sizeLine ∧ lk l n = none ∧ R.nx (Γ2.set i (.ob (dI (l ++ [(n, m)]))))) :
    VSs K Γ (sDPut (tVar i) ty tv) R := fun ss L S0 σ τ S D E kn kr kb kc =>
  h ss L S0 σ τ S _ E fun Γ1 S1 v x E1 ⟨m, ex, ⟨p, h0⟩, h1⟩ => by
    subst ex
    refine ve_ob (Q := fun Γ2 c => Γ2 = Γ1 ∧ c = .br i) h0 ⟨rfl, rfl⟩ L S0 σ _ S1 _ E1 fun Γ2 S2 vd c E2 ⟨e1, e2⟩ => ?_
    subst e1 e2
    refine h1 L S0 σ _ S2 _ E2 fun Γ3 S3 vy y E3 ⟨l, n, hi, ey, hl, hk, q⟩ => ?_
    subst ey
    obtain ⟨a, ea, ha⟩ := E3.pop.ob_at hi
    obtain ⟨a', e', ha', put⟩ := E3.pop.pop.pop.mutOb hi
    have ev : v = .int m := dp_int E3.pop.pop.dt
    have ey : vy = .int n := dp_int E3.dt
    have eaa : a' = a := by
      obtain ⟨w, h1, z, h2⟩ := E3.pop.ok
      have z' : σ[i]? = some (some vd) := z
      rw [z', ea] at e'
      cases e'
      rfl
    subst eaa
    refine ⟨a', _, ea, ?_, kn _ _ ⟨S3.b, upd S3.h a' (dI (l ++ [(n, m)]))⟩ (put _) q⟩
    have hp := DPut.k (k := Sum.inl n) (v := .int m) ha (by rw [List.length_map]; exact hl)
    rw [putK_new _ (by rw [lk_val, hk]; rfl)] at hp
    rw [ev, ey]
    show DPut S3.h a' (kV (Sum.inl n)) (.int m) (upd S3.h a' (dI (l ++ [(n, m)])))
    unfold dI
    rw [List.map_append]
    exact hp
end
end Ld
namespace Ld
open PySem PySem.W
theorem hu1 {n : Nat} (h : n + 64 < cLine) : n + 1 < cLine := by omega
end Ld
set_option Elab.async false
set_option linter.all false
set_option maxRecDepth 100000
namespace Sh
/-! ### places that change: the count in its closed form -/
end Sh
namespace Sh
open PySem PySem.Spec PyProof.Rows L2 Lx Ld
theorem rng0_eq (n : Nat) : rngD 0 (n : Int) = (List.range n).map fun k : Nat => PyData.int (k : Int) := by
  unfold rngD
  rw [show ((n : Int) - 0).toNat = n by omega]
  refine List.map_congr_left fun k _ => ?_
  rw [Int.zero_add]
theorem nd_take {N : List Int} (h : N.Nodup) {i : Nat} {x : Int} (hx : N[i]? = some x) : x ∉ N.take i := fun z => by
  obtain ⟨j, hj⟩ := List.getElem?_of_mem z
  rw [List.getElem?_take] at hj
  by_cases hji : j < i
  · rw [if_pos hji] at hj
    have := (List.getElem?_inj (List.getElem?_eq_some_iff.mp hx).1 h).mp (hx.trans hj.symm)
    omega
  · rw [if_neg hji] at hj
    cases hj
end Sh
namespace Sh
open PySem PySem.Spec PyProof.Rows L2 Lx Ld
theorem cut_from (ds : List Dat) (n : Nat) : Ld.cutD ds (some (n : Int)) none = ds.drop n := by
  unfold Ld.cutD
  rw [HT.sIx_none, HT.sIx_nat]
  have e : ds.drop (min n ds.length) = ds.drop n := by
    by_cases h : n ≤ ds.length
    · rw [Nat.min_eq_left h]
    · rw [Nat.min_eq_right (by omega), List.drop_length, List.drop_of_length_le (by omega)]
  rw [e, List.take_of_length_le (by rw [List.length_drop]; omega)]
end Sh
set_option Elab.async false
set_option linter.all false
set_option maxRecDepth 100000
/-! the truth of lists, a name that a comprehension uses again, words -/
namespace Ld
open PySem PySem.Spec PyProof.Rows L2 Lx Sh
def tTru (K : PySem.W.Frag) (ta : TE) : TT := fun σ H Q => ta σ H fun x H' => ∃ k, TruV K x H' k ∧ Q k H'
theorem pt_tru {X : Cx} {a : Expr} {ta : TE} (ha : PE X a ta) (he : ∀ whole, isTrue a X.env whole = (do let v ← whole; standAt a.pos; holding [v] (truthy v))) : PT X a (tTru X.K ta) := pt_truth ha he
section
variable {K : PySem.W.Frag} {Γ : List Cell} {Θ : List Tmp}
theorem isEmpty_len {α β : Type} {a : List α} {b : List β} (h : a.length = b.length) : a.isEmpty = b.isEmpty := by
  cases a <;> cases b <;> simp at h <;> rfl
theorem vt_truL {te : TE} {Q : List Cell → Bool → Prop} (h : VE K Γ Θ te fun Γ1 x => ∃ ds, rd Γ1 x (.list ds) ∧ Q Γ1 (!ds.isEmpty)) : VT K Γ Θ (tTru K te) Q := fun L S0 σ τ S Qv E k => h L S0 σ τ S _ E fun Γ1 S1 v x E1 ⟨ds, hx, q⟩ => by
  obtain ⟨a, us, ev, ha, pa⟩ := rdB_l E1 hx
  subst ev
  refine ⟨!us.isEmpty, .inl ⟨us, .of ha, rfl⟩, ?_⟩
  rw [isEmpty_len pa.len]
  exact k Γ1 S1 _ E1.pop q
theorem vt_truT {te : TE} {Q : List Cell → Bool → Prop} (h : VE K Γ Θ te fun Γ1 x => ∃ ds, x = .dt (.tuple ds) ∧ Q Γ1 (!ds.isEmpty)) : VT K Γ Θ (tTru K te) Q := fun L S0 σ τ S Qv E k => h L S0 σ τ S _ E fun Γ1 S1 v x E1 ⟨ds, hx, q⟩ => by
  subst hx
  obtain ⟨a, o, us, ev, _, ha, pa⟩ := dp_tup E1.dt
  subst ev
  refine ⟨!us.isEmpty, .inr (.inl ⟨us, sqt_f (E1.sub _ _ ha), rfl⟩), ?_⟩
  rw [isEmpty_len pa.len]
  exact k Γ1 S1 _ E1.pop q
theorem wd_eq (a b : Bool) : decide (wd a = wd b) = decide (a = b) := by cases a <;> cases b <;> decide +kernel
theorem r2_eqWW {a b : Bool} {Q : List Cell → Tmp → Prop} (q : Q Γ (.dt (.bool (decide (a = b))))) : R2V K (rEqD K) Γ Θ (.dt (.str (wd a))) (.dt (.str (wd b))) Q := r2_eqD rd_dt rd_dt (wd_s a) (wd_s b) (by rw [eqv_ss, wd_eq]; exact q)
end
end Ld
namespace Ld
open PySem PySem.Spec PyProof.Rows L2 Lx
/-- what a name holds is forgotten -/
theorem Env.fgt {K : PySem.W.Frag} {L : Addr → Prop} {S0 S : Hs} {Γ : List Cell} {Θ : List Tmp} {σ : L2.St} {τ : List V} (v : Nat) (E : Env K L S0 Γ Θ σ τ S) : Env K L S0 (Γ.set v .no) Θ σ τ S := E.forget (List.length_set ..) fun i c e => by
  by_cases hi : v = i
  · subst hi
    by_cases hl : v < Γ.length
    · rw [List.getElem?_set_self hl] at e
      cases e
      exact .inl rfl
    · have := (List.getElem?_eq_some_iff.mp e).1
      rw [List.length_set] at this
      omega
  · rw [List.getElem?_set_ne hi] at e
    exact .inr e
theorem ss_forget {K : PySem.W.Frag} {Γ : List Cell} (v : Nat) {t : TS} {R : DE} (h : VSs K (Γ.set v .no) t R) : VSs K Γ t R := fun ss L S0 σ τ S D E => h ss L S0 σ τ S D (E.fgt v)
end Ld
namespace Ld
open PySem PySem.Spec PyProof.Rows L2 Lx
theorem vg_three {K : PySem.W.Frag} {Γ : List Cell} {pr : Bool} {i j l : Nat} {x y z : Dat} {Q : List Cell → Prop} (q : Q (((Γ.set i (.dt x)).set j (.dt y)).set l (.dt z))) : VG K pr Γ (gTup K 3 (gCons (gName i) (gCons (gName j) (gCons (gName l) gNil)))) (.tuple [x, y, z]) Q := fun L S0 Θ σ τ S v R nb E hd k => by
  obtain ⟨a, xs, e, h, p⟩ : ∃ a xs, v = .ref a ∧ SqT K S.h a xs ∧ DqAll S.b xs [x, y, z] := by
    cases pr with
    | false =>
      obtain ⟨a, o, xs, e, _, h, p⟩ := dp_tup (show Dq S.b v (.tuple [x, y, z]) from hd)
      exact ⟨a, xs, e, sqt_f (E.sub _ _ h), p⟩
    | true =>
      obtain ⟨a, xs, ds, e, e2, h, p⟩ := hd
      cases e2
      exact ⟨a, xs, e, .of (E.sub _ _ h), p⟩
  cases p with
  | cons p1 p =>
    cases p with
    | cons p2 p =>
      cases p with
      | cons p3 p =>
        cases p
        exact ⟨a, _, e, h, rfl, _, _, rfl, _, _, rfl, _, _, rfl, rfl, k _ _ (((E.setDt (nb i) p1).setDt (nb j) p2).setDt (nb l) p3) q⟩
end Ld
namespace Ld
open PySem PySem.Spec PyProof.Rows L2 Lx
/-- a test at which the walk stops -/
def tStop (t : TT) : TT := t
theorem pt_stop {X : Cx} {a : Expr} {t : TT} (h : PT X a t) : PT X a (tStop t) := h
theorem vt_stop {K : PySem.W.Frag} {Γ : List Cell} {Θ : List Tmp} {t : TT} {Q : List Cell → Bool → Prop} (h : VT K Γ Θ t Q) : VT K Γ Θ (tStop t) Q := h
end Ld
set_option Elab.async false
set_option linter.all false
set_option maxRecDepth 100000
namespace Sh
open PySem PySem.Spec PyProof.Rows L2 Lx Ld
/-! ### several shelves -/
def sD (p : Bool × Nat) : Dat := .tuple [.str (wd p.1), .int p.2]
end Sh
namespace Sh
end Sh
set_option Elab.async false
set_option linter.all false
set_option maxRecDepth 100000
namespace Sh
open PySem PySem.Spec PyProof.Rows L2 Lx Ld
/-! ### how far each number is moved -/
/-- how many lesser ones that stand behind come out ahead -/
def gone (n : Nat) (N : List Int) (x : Int) : Nat := ((N.drop (N.idxOf x + 1)).filter fun z => decide (z < x) && decide ((pastL true n N).idxOf z < (pastL true n N).idxOf x)).length
end Sh
namespace Sh
open PySem PySem.Spec PyProof.Rows L2 Lx Ld
/-! with stretches and marks -/
/-- a number's place in a row -/
def ixO (r : List (Option Int)) (x : Int) : Nat := r.idxOf (some x)
end Sh
namespace Ld
open PySem PySem.Spec PyProof.Rows L2 Lx
def tTIdxO (ta te : TE) : TE := tTIdx ta te
end Ld
namespace Sh
open PySem PySem.Spec PyProof.Rows L2 Lx Ld
theorem oL_fl (r : List (Option Int)) : (oL r).all flD = true := by
  rw [List.all_eq_true]
  intro d hd
  obtain ⟨o, _, rfl⟩ := List.mem_map.mp hd
  cases o <;> simp [oD, flD]
theorem ixO_at {r : List (Option Int)} {x : Int} (h : some x ∈ r) : (oL r)[ixO r x]? = some (.int x) := by
  have hi := List.idxOf_lt_length_iff.mpr h
  unfold ixO
  rw [List.getElem?_map, List.getElem?_eq_getElem hi]
  simp [oD]
theorem eqF_o {o : Option Int} {x : Int} : eqF (oD o) (.int x) = decide (o = some x) := by
  cases o with
  | none => simp [oD, eqF]
  | some a =>
    show eqF (.int a) (.int x) = _
    rw [eqF_ii]
    by_cases h : a = x <;> simp [h]
theorem ixO_no {r : List (Option Int)} {x : Int} {m : Nat} {z : Dat} (hm : m < ixO r x) (hz : (oL r)[m]? = some z) : eqF z (.int x) = false := by
  rw [List.getElem?_map] at hz
  obtain ⟨k, hk, rfl⟩ := Option.map_eq_some_iff.mp hz
  rw [eqF_o]
  refine decide_eq_false fun e => ?_
  subst e
  obtain ⟨hl, e2⟩ := List.getElem?_eq_some_iff.mp hk
  have := List.not_of_lt_findIdx (xs := r) (p := (· == some x)) (i := m) hm
  simp [e2] at this
theorem ve_tidxO {K : PySem.W.Frag} {Γ : List Cell} {Θ : List Tmp} {ta te : TE} {Q : List Cell → Tmp → Prop}
    (h : VE K Γ Θ ta fun Γ1 x => ∃ r, x = .dt (.tuple (oL r)) ∧ VE K Γ1 (x :: Θ) te fun Γ2 y => ∃ n, y = .dt (.int n) ∧ some n ∈ r ∧ Q Γ2 (.dt (.int (ixO r n)))) :
    VE K Γ Θ (tTIdxO ta te) Q := ve_tidx (ve_mono h fun Γ1 x ⟨r, hx, h2⟩ => ⟨oL r, hx, ve_mono h2 fun Γ2 y ⟨n, g2, g3, g4⟩ => by
  subst g2
  exact ⟨.int n, ixO r n, .int n, rd_dt, rfl, oL_fl r, ixO_at g3, by rw [eqF_ii]; simp, fun m z hm hz => ixO_no hm hz, g4⟩⟩)
end Sh
namespace Sh
open PySem PySem.Spec PyProof.Rows L2 Lx Ld
end Sh
set_option Elab.async false
set_option linter.all false
set_option maxRecDepth 100000
/-! max(xs, default=d) -/
namespace Lx
open PySem PySem.Spec PyProof.Rows L2 PySem.W
def rMaxD (K : PySem.W.Frag) : List V → List V → Hp → VK → Prop := fun vs zs H Q => ∃ (a : Addr) (ns : List Int) (d : Int), vs = [V.ref a] ∧ zs = [V.int d] ∧ SqL K H a (ns.map V.int) ∧ (ns = [] → Q (.int d) H) ∧ ∀ m, m ∈ ns → (∀ y ∈ ns, y ≤ m) → Q (.int m) H
end Lx
namespace Ld
open PySem PySem.Spec PyProof.Rows L2 Lx
theorem ve_maxD {K : PySem.W.Frag} {Γ : List Cell} {Θ : List Tmp} {d : Int} {ta : TE} {Q : List Cell → Tmp → Prop} (h : VE K Γ Θ ta fun Γ1 x => ∃ ns : List Int, rd Γ1 x (.list (ns.map .int)) ∧ (ns = [] → Q Γ1 (.dt (.int d))) ∧ ∀ m, m ∈ ns → (∀ y ∈ ns, y ≤ m) → Q Γ1 (.dt (.int m))) :
    VE K Γ Θ (tCKw (rMaxD K) (tCons ta tNil) (tCons (tC (.int d)) tNil)) Q := fun L S0 σ τ S Qv E k => h L S0 σ τ S _ E fun Γ1 S1 v x E1 ⟨ns, hx, q0, q⟩ => by
  obtain ⟨a, e, h⟩ := intsL E1 hx
  exact ⟨a, ns, d, by rw [e], rfl, h, fun e => k Γ1 S1 _ _ (E1.pop.push (.int d)) (q0 e), fun m h1 h2 => k Γ1 S1 _ _ (E1.pop.push (.int m)) (q m h1 h2)⟩
end Ld
/-! zip of a list and a tuple -/
set_option maxHeartbeats 2000000
namespace Ld
open PySem PySem.Spec PyProof.Rows L2 Lx
/-- a tuple at a, a list at b, as they stand at each turn; the items in new pairs -/
def ItzLT (K : PySem.W.Frag) (a b : Addr) : It := ⟨fun i H => ∃ (xs ys : List V) (x y : V), SqL K H a xs ∧ SqT K H b ys ∧ xs[i]? = some x ∧ ys[i]? = some y, fun i H v H' => ∃ T x y, v = .ref T ∧ H T = none ∧ H' = upd H T (.tup [x, y]) ∧ (∀ xs, SqL K H a xs → xs[i]? = some x) ∧ ∀ ys, SqT K H b ys → ys[i]? = some y, fun i H => ∃ xs ys : List V, SqL K H a xs ∧ SqT K H b ys ∧ (xs.length ≤ i ∨ ys.length ≤ i)⟩
def iZipLT (K : PySem.W.Frag) (ta : TA) : TI := fun σ H R => ta σ H fun vs H1 => ∃ a b xs ys, vs = [.ref a, .ref b] ∧ SqL K H1 a xs ∧ SqT K H1 b ys ∧ R (ItzLT K a b) H1
section
variable {K : PySem.W.Frag} {Γ : List Cell} {Θ : List Tmp}
theorem vi_zipLT {ta tb : TE} {Q : List Cell → Bool → List Dat → Prop} (h : VD K Γ Θ ta fun Γ1 d => VD K Γ1 (.dt d :: Θ) tb fun Γ2 e => ∃ ds es, d = .list ds ∧ e = .tuple es ∧ Q Γ2 true (zipD ds es)) : VI K Γ Θ (iZipLT K (tCons ta (tCons tb tNil))) Q := fun L S0 σ τ S R E k =>
  h L S0 σ τ S _ E fun Γ1 S1 u d E1 h1 => h1 L S0 σ _ S1 _ E1 fun Γ2 S2 v e E2 ⟨ds, es, ed, ee, q⟩ => by
  subst ed ee
  obtain ⟨b, ob, zs, eb, _, hb, pb⟩ := dp_tup E2.dt
  obtain ⟨a, xs, ea, hx, p⟩ := dp_list E2.pop.dt
  subst ea eb
  refine ⟨a, b, xs, zs, rfl, .of (E2.sub _ _ hx), sqt_f (E2.sub _ _ hb), k Γ2 [.tuple es, .list ds] [.ref b, .ref a] S2 _ true (zipD ds es) E2 rfl ⟨fun S i sub hs hi => ?_, fun S sub hs => ?_, fun S i x H' sub hs hi y => ?_⟩ q⟩
  · obtain ⟨ws, hw', pw⟩ := src_t (K := K) sub (dqa_two hs).1
    obtain ⟨ys, hy', py⟩ := src_l (K := K) sub (dqa_two hs).2
    rw [zipD_len] at hi
    have i1 : i < ds.length := by omega
    have i2 : i < es.length := by omega
    obtain ⟨z, hz, _⟩ := py.get (List.getElem?_eq_getElem i1)
    obtain ⟨z', hz', _⟩ := pw.get (List.getElem?_eq_getElem i2)
    exact ⟨ys, ws, z, z', hy', hw', hz, hz'⟩
  · obtain ⟨ws, hw', pw⟩ := src_t (K := K) sub (dqa_two hs).1
    obtain ⟨ys, hy', py⟩ := src_l (K := K) sub (dqa_two hs).2
    refine ⟨ys, ws, hy', hw', ?_⟩
    rw [zipD_len, py.len, pw.len]
    omega
  · obtain ⟨ws, hw', pw⟩ := src_t (K := K) sub (dqa_two hs).1
    obtain ⟨ys, hy', py⟩ := src_l (K := K) sub (dqa_two hs).2
    obtain ⟨T, z, z', rfl, hT, rfl, y1, y2⟩ := y
    obtain ⟨d, hd, gd⟩ := py.getV (y1 ys hy')
    obtain ⟨e, he, ge⟩ := pw.getV (y2 ws hw')
    obtain ⟨S', e1, g1, s1, q1⟩ := gr_pair sub hT gd ge
    exact ⟨S', _, e1, g1, s1, zipD_at hd he, q1⟩
end
end Ld
namespace Lx
open PySem PySem.Spec PyProof.Rows L2 PySem.W
def rMinT (K : PySem.W.Frag) : List V → Hp → VK → Prop := fun vs H Q => ∃ (a : Addr) (ns : List Int), vs = [V.ref a] ∧ SqT K H a (ns.map V.int) ∧ 0 < ns.length ∧ ∀ m, m ∈ ns → (∀ y ∈ ns, m ≤ y) → Q (.int m) H
theorem minOf_int : ∀ (xs : List Int) (x : Int), minOf x xs ∈ x :: xs ∧ ∀ y ∈ x :: xs, minOf x xs ≤ y
  | [], x => ⟨by simp [minOf], fun y hy => by simp [minOf] at hy ⊢; omega⟩
  | a :: xs, x => by
    have e : minOf x (a :: xs) = minOf (if DatumOrd.lt a x = true then a else x) xs := rfl
    obtain ⟨h1, h2⟩ := minOf_int xs (if DatumOrd.lt a x = true then a else x)
    have hl : (DatumOrd.lt a x = true) ↔ a < x := by
      show (decide (a < x) = true) ↔ _
      simp
    rw [e]
    by_cases h : DatumOrd.lt a x = true
    · rw [if_pos h] at h1 h2 ⊢
      have hlt := hl.mp h
      refine ⟨List.mem_cons_of_mem _ h1, fun y hy => ?_⟩
      rcases List.mem_cons.mp hy with rfl | hy
      · have := h2 a (by simp); omega
      · exact h2 y hy
    · rw [if_neg h] at h1 h2 ⊢
      have hlt : ¬ a < x := fun z => h (hl.mpr z)
      refine ⟨?_, fun y hy => ?_⟩
      · rcases List.mem_cons.mp h1 with h1 | h1
        · rw [h1]; simp
        · exact List.mem_cons_of_mem _ (List.mem_cons_of_mem _ h1)
      · rcases List.mem_cons.mp hy with rfl | hy
        · exact h2 _ (by simp)
        · rcases List.mem_cons.mp hy with rfl | hy
          · have := h2 x (by simp); omega
          · exact h2 y (List.mem_cons_of_mem _ hy)
theorem cr_minT {X : Cx} (hc : X.calm = true) (hu : X.A.units + 64 < cLine) : CallR X (.builtin "min") (rMinT X.K) := by
  intro pins s σ H vs us Q I r h
  obtain ⟨a, ns, rfl, hs, h0, q⟩ := h
  obtain rfl := Vals.ref1 r
  obtain ⟨its, rv, hl, _⟩ := I.tuple hs
  cases ns with
  | nil => simp at h0
  | cons y ys =>
    refine min_tuple_datum (α := Int) (I.ok.hd hc) hl (HoldAll.of_ints (by simpa using rv.ints)) (by have e : Datum.depth Int = 0 := rfl; rw [e]; omega) fun i v h' tk hi hv hk => ?_
    obtain ⟨bs, hr⟩ := hv
    cases hr with
    | int i t' =>
      obtain ⟨g1, g2⟩ := minOf_int ys y
      exact ⟨.int _, H, I.kept hk, ⟨_, rfl⟩, q _ g1 g2⟩
end Lx
namespace Ld
open PySem PySem.Spec PyProof.Rows L2 Lx
def tTruT (K : PySem.W.Frag) (ta : TE) : TT := tTru K ta
theorem pt_truTp {X : Cx} {a : Expr} {ta : TE} (ha : PE X a ta) (he : ∀ whole, isTrue a X.env whole = (do let v ← whole; standAt a.pos; holding [v] (truthy v))) : PT X a (tTruT X.K ta) := pt_tru ha he
section
variable {K : PySem.W.Frag} {Γ : List Cell} {Θ : List Tmp}
theorem vt_truTp {te : TE} {Q : List Cell → Bool → Prop} (h : VE K Γ Θ te fun Γ1 x => ∃ ds, x = .dt (.tuple ds) ∧ Q Γ1 (!ds.isEmpty)) : VT K Γ Θ (tTruT K te) Q := vt_truT h
theorem c1_minT {ns : List Int} {Q : List Cell → Tmp → Prop} (h0 : 0 < ns.length) (q : ∀ m, m ∈ ns → (∀ y ∈ ns, m ≤ y) → Q Γ (.dt (.int m))) : C1V K (rMinT K) Γ Θ (.dt (.tuple (ns.map .int))) Q := fun L S0 σ τ S vx Qv E k => by
  obtain ⟨a, o, xs, e, _, h, p⟩ := dp_tup E.dt
  rw [dpa_ints p] at h
  exact ⟨a, ns, by rw [e], sqt_f (E.sub _ _ h), h0, fun m h1 h2 => k Γ S _ _ (E.pop.push (.int m)) (q m h1 h2)⟩
theorem eqv_bb (a b : Bool) : PyData.eqv (.bool a) (.bool b) = decide (a = b) := by
  cases a <;> cases b <;> simp [PyData.eqv]
theorem r2_eqB {a b : Bool} {Q : List Cell → Tmp → Prop} (q : Q Γ (.dt (.bool (decide (a = b))))) : R2V K (rEqD K) Γ Θ (.dt (.bool a)) (.dt (.bool b)) Q := r2_eqD rd_dt rd_dt rfl rfl (by rw [eqv_bb]; exact q)
theorem r2_neB {a b : Bool} {Q : List Cell → Tmp → Prop} (q : Q Γ (.dt (.bool (!decide (a = b))))) : R2V K (rNeD K) Γ Θ (.dt (.bool a)) (.dt (.bool b)) Q := r2_neD rd_dt rd_dt rfl rfl (by rw [eqv_bb]; exact q)
end
end Ld
set_option Elab.async false
set_option linter.all false
set_option maxRecDepth 100000
namespace Sh
open PySem PySem.Spec PyProof.Rows L2 Lx Ld
/-! ### places needed -/
def nd (N : List Int) (k : Nat) : Nat := ((N.take (k + 1)).filter fun y => (N.drop (k + 1)).any fun z => decide (z < y)).length
def ndN (N : List Int) : List Nat := (List.range N.length).map (nd N)
theorem nd_min {N : List Int} {k : Nat} {m : Int} (hm : m ∈ N.drop (k + 1)) (hl : ∀ y ∈ N.drop (k + 1), m ≤ y) : nd N k = cntG (N.take (k + 1)) m := by
  unfold nd cntG
  congr 1
  refine List.filter_congr fun y _ => ?_
  by_cases h : y > m
  · rw [decide_eq_true h, List.any_eq_true.mpr ⟨m, hm, by simpa using h⟩]
  · rw [decide_eq_false h]
    refine List.any_eq_false.mpr fun z hz => ?_
    have := hl z hz
    simp
    omega
theorem nd_nil {N : List Int} {k : Nat} (h : N.drop (k + 1) = []) : nd N k = 0 := by
  unfold nd
  rw [h]
  simp
theorem gc_take {N : List Int} {i : Nat} {x : Int} (hN : N.Nodup) (h : N[i]? = some x) : gc N x = cntG (N.take i) x := by
  unfold gc
  rw [← take_idx, idx_nd hN h]
end Sh
namespace Sh
end Sh
namespace Sh
open PySem PySem.Spec PyProof.Rows L2 Lx Ld
end Sh
set_option Elab.async false
set_option linter.all false
set_option maxRecDepth 100000
/-! defs with a default; x *= e -/
namespace Ld
open PySem PySem.Spec PyProof.Rows L2 Lx
section
variable {P : Program} {w : World} {K : PySem.W.Frag} {mg : Str → Option Value} {base : Heap}
theorem ok_Gd {α : Type} {x qual : Str} {st : Stmt} {dvs : List V} {f : Addr} {fd : FuncData} {N ps : List Str} {k : Nat} {Ar : α → List Arg} {pre : α → Prop} {post : α → Dat → Prop} (F : FunD K x qual (defArgs st) (defBody st) (defScope st) dvs [] f fd) (Sc : FnScope N ps (defScope st)) (hl : ∀ x, (Ar x).length = ps.length) (hN : ps.length ≤ N.length)
    (hb : ∀ (cdv : Value) (A : Around) (outer : List PySem.Env) (s : Shared) (H : Hp) (E : XK), Room k (A.deeper (envOfC qual (defScope st) s.heap.objs.size f cdv)) →
      ∃ t, PSs (Bx P w K mg base N qual st f cdv A outer s H E) (defBody st) t ∧ ∀ x, pre x → VSs K (cells0 N ((Ar x).map Arg.cell)) t ⟨fun _ => post x .none, fun _ d => post x d, fun _ => False, fun _ => False⟩) : FnOk P w K mg base CX0 (k + 1) f fd ps (spG K Ar pre post) := by
  refine F.ok Sc (fun vs H Q E h => ?_) (fun cdv A outer s H vs Q E hr h => ?_)
  · obtain ⟨B, x, _, p, hp, _⟩ := h
    rw [p.len, hl x]
  · obtain ⟨t, ht, hv⟩ := hb cdv A outer s H E hr
    obtain ⟨B, x, sub, p, hp, q⟩ := h
    have hlv : vs.length ≤ N.length := by rw [p.len, hl x]; exact hN
    refine ⟨t, ht.nox, ?_⟩
    refine hv x hp [] L0 ⟨B, H⟩ (L2.start N vs) [] ⟨B, H⟩ _ (env_start sub p hlv) (fun Γ' σ' S' E' z => ?_) (fun Γ' σ' S' v d E' hd z => ?_) (fun Γ' σ' S' E' z => z.elim) (fun Γ' σ' S' E' z => z.elim)
    · exact q .non S' .none E'.gr E'.sub .non z
    · exact q v S' d E'.gr E'.sub hd z
/-- a def whose last parameter has the default d -/
structure DfD (K : PySem.W.Frag) (mg : Str → Option Value) (x : Str) (st : Stmt) (ps : List Str) (d : Int) (f : Addr) (fd : FuncData) : Prop where
  F : FunD K x x (defArgs st) (defBody st) (defScope st) [.int d] [] f fd
  g : mg x = some (.ref f)
  b0 : ∃ ds, Vals [] ds ∧ Binds K fd ps ds
  b1 : ∃ ds, Vals [V.int d] ds ∧ Binds K fd ps ds
structure CalD (P : Program) (w : World) (K : PySem.W.Frag) (mg : Str → Option Value) (base : Heap) (k : Nat) (x : Str) (ps : List Str) (sp : Sp) (d : Int) (f : Addr) (fd : FuncData) : Prop where
  G : FnOk P w K mg base CX0 k f fd ps sp
  g : mg x = some (.ref f)
  kp : PySem.W.keepIn K (.ref f) = true
  b0 : ∃ ds, Vals [] ds ∧ Binds K fd ps ds
  b1 : ∃ ds, Vals [V.int d] ds ∧ Binds K fd ps ds
theorem DfD.cal {k : Nat} {x : Str} {st : Stmt} {ps : List Str} {sp : Sp} {d : Int} {f : Addr} {fd : FuncData} (D : DfD K mg x st ps d f fd) (G : FnOk P w K mg base CX0 k f fd ps sp) : CalD P w K mg base k x ps sp d f fd := ⟨G, D.g, D.F.kp, D.b0, D.b1⟩
theorem DfD.of {x : Str} {st : Stmt} {ps : List Str} {d : Int} {f : Addr} {fd : FuncData} (n : Nat) (F : FunD K x x (defArgs st) (defBody st) (defScope st) [.int d] [] f fd) (g : mg x = some (.ref f)) (hn : n + 1 = ps.length)
    (h0 : ∀ (T : Addr) (kV doc pm : Value) (an : Option Addr) (cdv ct : Value) (us its : List Value), us.length = n + 1 → its.length = 1 →
      ∃ k, bindArgs (PySem.W.fnOf x x (defArgs st) (defBody st) (defScope st) (.ref T) kV doc pm an cdv ct) ⟨us, []⟩ = seqItems? (.ref T) >>= k ∧ k (some its.toArray) = pure (ps.zip (us ++ its.drop 1)))
    (h1 : ∀ (T : Addr) (kV doc pm : Value) (an : Option Addr) (cdv ct : Value) (us its : List Value), us.length = n → its.length = 1 →
      ∃ k, bindArgs (PySem.W.fnOf x x (defArgs st) (defBody st) (defScope st) (.ref T) kV doc pm an cdv ct) ⟨us, []⟩ = seqItems? (.ref T) >>= k ∧ k (some its.toArray) = pure (ps.zip (us ++ its.drop 0))) : DfD K mg x st ps d f fd :=
  ⟨F, g, F.binds1 (n + 1) 1 (by simp) (by simp; omega) h0, F.binds1 n 0 (by simp) (by simp; omega) h1⟩
end
section
variable {K : PySem.W.Frag} {Γ : List Cell} {Θ : List Tmp}
theorem argsOk_app {B : Hp} : ∀ {vs us : List V} {as bs : List Arg}, ArgsOk K B vs as → ArgsOk K B us bs → ArgsOk K B (vs ++ us) (as ++ bs)
  | _, _, _, _, .nil, h => h
  | _, _, _, _, .cons h t, h2 => .cons h (argsOk_app t h2)
theorem ve_callFd {α : Type} {d : Int} {A : α → List Arg} {pre : α → Prop} {g : α → Dat} {X : XK} {t : TA} {Q : List Cell → Tmp → Prop} (h : VAX K Γ Θ t fun Γ1 as => ∃ x, as ++ [.dt (.int d)] = A x ∧ pre x ∧ Q Γ1 (.dt (g x))) : VE K Γ Θ (tCall (spF K A pre g) [V.int d] X t) Q := fun L S0 σ τ S Qv E k => h L S0 σ τ S _ E fun Γ1 S1 vs as E1 p ⟨x, ex, hp, q⟩ => by
  refine ⟨S1.b, x, E1.sub, ?_, hp, fun v S' d g s hd hq => k Γ1 S' v _ ((E1.grow g s).push hd) (by rw [hq]; exact q)⟩
  rw [← ex]
  exact argsOk_app p (.cons (.int d) .nil)
theorem ss_augI {i : Nat} {te : TE} {C : Int → Int → Prop} {f : Int → Int → Int} {R : DE} (h0 : ∃ m : Int, Γ[i]? = some (.dt (.int m))) (h : ∀ ss, VE K Γ (srcT ss) te fun Γ1 y => ∃ m n : Int, Γ1[i]? = some (.dt (.int m)) ∧ y = .dt (.int n) ∧ C m n ∧ R.nx (Γ1.set i (.dt (.int (f m n))))) :
    VSs K Γ (tAug i te (rI C fun i j => .int (f i j))) R := fun ss L S0 σ τ S D E kn kr kb kc => by
  obtain ⟨m0, h0⟩ := h0
  obtain ⟨w, g1, g2⟩ := id E.ok
  obtain ⟨v, ev, qv⟩ := g1 i _ h0
  refine ⟨v, ev, h ss L S0 σ τ S _ E fun Γ1 S1 vy y E1 ⟨m, n, hi, ey, hc, q⟩ => ?_⟩
  subst ey
  obtain ⟨w', g1', g2'⟩ := id E1.ok
  obtain ⟨v', ev', qv'⟩ := g1' i _ hi
  rw [ev] at ev'
  cases ev'
  have e1 : v = .int m := dp_int qv'
  have e2 : vy = .int n := dp_int E1.dt
  refine ⟨m, n, e1, e2, hc, ?_⟩
  exact kn _ _ S1 (E1.pop.setDt nb_src (.int _)) q
end
end Ld
namespace Ld
open PySem PySem.Spec PyProof.Rows L2 Lx
/-- a statement at which the walk stops -/
def tStopS (t : TS) : TS := t
theorem ps_stop {X : Cx} {a : Stmt} {t : TS} (h : PS X a t) : PS X a (tStopS t) := h
section
variable {K : PySem.W.Frag} {Γ : List Cell} {t : TS} {R : DE}
theorem ss_mono {R' : DE} (h : VSs K Γ t R') (f1 : ∀ Γ', R'.nx Γ' → R.nx Γ') (f2 : ∀ Γ' d, R'.rt Γ' d → R.rt Γ' d) (f3 : ∀ Γ', R'.bk Γ' → R.bk Γ') (f4 : ∀ Γ', R'.ct Γ' → R.ct Γ') : VSs K Γ t R := fun ss L S0 σ τ S D E kn kr kb kc =>
  h ss L S0 σ τ S D E (fun Γ' σ' S' E' q => kn Γ' σ' S' E' (f1 _ q)) (fun Γ' σ' S' v d E' hd q => kr Γ' σ' S' v d E' hd (f2 _ _ q)) (fun Γ' σ' S' E' q => kb Γ' σ' S' E' (f3 _ q)) (fun Γ' σ' S' E' q => kc Γ' σ' S' E' (f4 _ q))
/-- .. behind which all is as it was -/
theorem ss_same (h : VSs K Γ t ⟨fun Γ' => Γ' = Γ, fun _ _ => False, fun _ => False, fun _ => False⟩) (q : R.nx Γ) : VSs K Γ (tStopS t) R := ss_mono h (fun Γ' e => by rw [e]; exact q) (fun _ _ z => z.elim) (fun _ z => z.elim) (fun _ z => z.elim)
end
end Ld
set_option Elab.async false
set_option linter.all false
set_option maxRecDepth 100000
namespace Sh
open PySem PySem.Spec PyProof.Rows L2 Lx Ld
/-! ### how few places sort a row; how many rows are sorted -/
def sby : Nat → Nat → Nat
  | 0, _ => 1
  | n + 1, b => sby n b * (min n b + 1)
end Sh
namespace Sh
end Sh
set_option Elab.async false
set_option linter.all false
set_option maxRecDepth 100000
set_option maxHeartbeats 4000000
/-! dict(zip(t, l)): t a tuple, l a list -/
namespace Lx
open PySem PySem.Spec PyProof.Rows
open PySem.Sem (wp)
section
variable {prog : Program} {w : World} {A : Around} {E : Value → Shared → Prop} {s : Shared} {z TI TO T i1 i2 l1 l2 : Addr} {S1 S2 : Nat → Heap → Prop} {n1 n2 : Nat} {f1 f2 : Nat → Option Value} {f : Bool} {oT : Obj}
theorem heldI {k1 k2 : Nat} {x y : Value} {Q : Value → Shared → Prop} (D : ZipApart z TI TO i1 i2 l1 l2) (T1 : Stp prog w i1 l1 S1 n1 f1) (T2 : Stp prog w i2 l2 S2 n2 f2) (hz : IsZipHeld s.heap z TI TO T f) (hT : s.heap.get? T = some oT) (hTI : IsPair s.heap TI (.ref i1) (.ref i2)) (h1 : S1 k1 s.heap) (h2 : S2 k2 s.heap) (hx : f1 k1 = some x) (hy : f2 k2 = some y)
    (hQ : ∀ h', IsZipHeld h' z TI TO T true → S1 (k1 + 1) h' → S2 (k2 + 1) h' → IsPair h' s.heap.objs.size x y → (∀ c o, c ≠ z → c ≠ i1 → c ≠ i2 → s.heap.get? c = some o → h'.get? c = some o) → Q (.ref s.heap.objs.size) { s with heap := h' }) :
    wpAny (model prog w) A (Builtin.«zip.__next__» ⟨[.ref z], []⟩) (fun fin s' => ∃ v, fin = .done (.ret v) ∧ Q v s') E s := by
  show wpAny _ _ (field (.ref z) 2 >>= _) _ _ _; refine wpAny_bind (wpAny_field hz rfl (x := .bool false) rfl ?_); show wpAny _ _ (field (.ref z) 3 >>= _) _ _ _; refine wpAny_bind (wpAny_field hz rfl (x := .ref TI) rfl ?_); refine wpAny_bind (wpAny_seqItems hTI rfl ?_)
  show wpAny _ _ (Builtin.SmallTypes.ownedTupleIsFree (.ref z) >>= _) _ _ _; refine wpAny_bind (wpAny_tupleHeld_zip hz hT fun g1 z1 s1 => ?_); simp only [Bool.false_eq_true, if_false]
  refine wpAny_bind ?_; rw [← Array.forIn_toList]; simp only [List.forIn_cons, List.forIn_nil]; refine wpAny_bind (wpAny_bind (wpAny_holding ?_)); show wpAny _ _ (Builtin.SmallTypes.nextOf (.ref i1) >>= _) _ _ _
  refine wpAny_bind (T1.go _ _ _ k1 x _ (T1.mv _ _ _ _ h1 s1.extBut D.i1z D.l1z) hx fun g2 q1 s2 => wpAny_pure ?_)
  refine wpAny_pure ?_; refine wpAny_bind (wpAny_bind (wpAny_holding ?_)); show wpAny _ _ (Builtin.SmallTypes.nextOf (.ref i2) >>= _) _ _ _
  refine wpAny_bind (T2.go _ _ _ k2 y _ (T2.mv _ _ _ _ (T2.mv _ _ _ _ h2 s1.extBut D.i2z D.l2z) s2.extBut D.i12.symm D.l2i1) hy fun g3 q2 s3 => wpAny_pure ?_)
  refine wpAny_pure (wpAny_pure ?_); show wpAny _ _ (newTuple [x, y] >>= _) _ _ _; refine wpAny_bind (wpAny_newTuple ?_)
  have sz : g3.objs.size = s.heap.objs.size := by rw [s3.1, s2.1, s1.1]
  have z3 : IsZipHeld g3 z TI TO T true := s3.extBut _ _ D.i2z.symm (s2.extBut _ _ D.i1z.symm z1)
  have up : ∀ c o, c ≠ z → c ≠ i1 → c ≠ i2 → s.heap.get? c = some o → g3.get? c = some o := fun c o c1 c2 c3 e => s3.extBut _ _ c3 (s2.extBut _ _ c2 (s1.extBut _ _ c1 e))
  have a1 : S1 (k1 + 1) g3 := T1.mv _ _ _ _ q1 s3.extBut D.i12 D.l1i2
  refine wpAny_pure ⟨_, rfl, ?_⟩; show Q (.ref g3.objs.size) _
  have pushed : ∀ c o, g3.get? c = some o → (g3.push { cls := .type "tuple", data := .seq #[x, y] }).get? c = some o := fun c o e => Heap.get?_push_of_some _ e
  have t4 : IsPair (g3.push { cls := .type "tuple", data := .seq #[x, y] }) g3.objs.size x y := Heap.get?_push_size _ rfl
  have b1 : S1 (k1 + 1) (g3.push { cls := .type "tuple", data := .seq #[x, y] }) := T1.mv _ z _ _ a1 (fun c o _ e => pushed c o e) D.i1z D.l1z
  have b2 : S2 (k2 + 1) (g3.push { cls := .type "tuple", data := .seq #[x, y] }) := T2.mv _ z _ _ q2 (fun c o _ e => pushed c o e) D.i2z D.l2z
  rw [sz] at t4 ⊢
  exact hQ _ (pushed _ _ z3) b1 b2 t4 fun c o c1 c2 c3 e => pushed _ _ (up c o c1 c2 c3 e)
theorem heldE {k1 k2 : Nat} {Q : Fin → Shared → Prop} (hh : A.handled = none) (D : ZipApart z TI TO i1 i2 l1 l2) (T1 : Stp prog w i1 l1 S1 n1 f1) (T2 : Stp prog w i2 l2 S2 n2 f2) (hz : IsZipHeld s.heap z TI TO T f) (hT : s.heap.get? T = some oT) (hTI : IsPair s.heap TI (.ref i1) (.ref i2)) (h1 : S1 k1 s.heap) (h2 : S2 k2 s.heap) (hend : f1 k1 = none ∨ f2 k2 = none)
    (hE : ∀ h' e, (∀ c o, c ≠ z → c ≠ i1 → c ≠ i2 → s.heap.get? c = some o → h'.get? c = some o) → (∃ o, h'.get? e = some o ∧ o.cls = .type "StopIteration") → E (.ref e) { s with heap := h' }) : wpAny (model prog w) A (Builtin.«zip.__next__» ⟨[.ref z], []⟩) Q E s := by
  show wpAny _ _ (field (.ref z) 2 >>= _) _ _ _; refine wpAny_bind (wpAny_field hz rfl (x := .bool false) rfl ?_); show wpAny _ _ (field (.ref z) 3 >>= _) _ _ _; refine wpAny_bind (wpAny_field hz rfl (x := .ref TI) rfl ?_); refine wpAny_bind (wpAny_seqItems hTI rfl ?_)
  show wpAny _ _ (Builtin.SmallTypes.ownedTupleIsFree (.ref z) >>= _) _ _ _; refine wpAny_bind (wpAny_tupleHeld_zip hz hT fun g1 z1 s1 => ?_); simp only [Bool.false_eq_true, if_false]
  refine wpAny_bind ?_; rw [← Array.forIn_toList]; simp only [List.forIn_cons, List.forIn_nil]; refine wpAny_bind (wpAny_bind (wpAny_holding ?_)); show wpAny _ _ (Builtin.SmallTypes.nextOf (.ref i1) >>= _) _ _ _
  have p1 := T1.mv _ _ _ _ h1 s1.extBut D.i1z D.l1z
  cases hx : f1 k1 with
  | none => exact wpAny_bind (T1.stop _ _ _ k1 _ hh p1 hx fun g2 e s2 he => hE g2 e (fun c o c1 c2 _ x => s2 _ _ c2 (s1.extBut _ _ c1 x)) he)
  | some x =>
    have hy : f2 k2 = none := hend.resolve_left (by rw [hx]; exact fun z => nomatch z)
    refine wpAny_bind (T1.go _ _ _ k1 x _ p1 hx fun g2 q1 s2 => wpAny_pure ?_)
    refine wpAny_pure ?_; refine wpAny_bind (wpAny_bind (wpAny_holding ?_)); show wpAny _ _ (Builtin.SmallTypes.nextOf (.ref i2) >>= _) _ _ _
    exact wpAny_bind (T2.stop _ _ _ k2 _ hh (T2.mv _ _ _ _ (T2.mv _ _ _ _ h2 s1.extBut D.i2z D.l2z) s2.extBut D.i12.symm D.l2i1) hy fun g3 e s3 he => hE g3 e (fun c o c1 c2 c3 x => s3 _ _ c3 (s2.extBut _ _ c2 (s1.extBut _ _ c1 x))) he)
theorem nextI {k1 k2 : Nat} {x y : Value} {Q : Option Value → Shared → Prop} (D : ZipApart z TI TO i1 i2 l1 l2) (T1 : Stp prog w i1 l1 S1 n1 f1) (T2 : Stp prog w i2 l2 S2 n2 f2) (hz : IsZipHeld s.heap z TI TO T f) (hT : s.heap.get? T = some oT) (hTI : IsPair s.heap TI (.ref i1) (.ref i2)) (h1 : S1 k1 s.heap) (h2 : S2 k2 s.heap) (hx : f1 k1 = some x) (hy : f2 k2 = some y)
    (hQ : ∀ h', IsZipHeld h' z TI TO T true → S1 (k1 + 1) h' → S2 (k2 + 1) h' → IsPair h' s.heap.objs.size x y → (∀ c o, c ≠ z → c ≠ i1 → c ≠ i2 → s.heap.get? c = some o → h'.get? c = some o) → Q (some (.ref s.heap.objs.size)) { s with heap := h' }) : wpAny (model prog w) A (pyNext (.ref z)) Q E s := by
  have ty : s.TypeIs (.ref z) "zip" := ⟨_, hz, rfl⟩
  unfold pyNext; exact wpAny_bind (wpAny_attempt (wpAny_callSpecial?_slot (name := Str.ofString "__next__") ty F.slot_zip_next (wpAny_call_entry F.slot_zip_next ty F.entry_zip_next (heldI D T1 T2 hz hT hTI h1 h2 hx hy fun h' b1 b2 b3 b4 b5 => wpAny_pure (hQ h' b1 b2 b3 b4 b5)) (F.args_zip_next_1 _))))
theorem nextE {k1 k2 : Nat} {Q : Option Value → Shared → Prop} (hh : A.handled = none) (D : ZipApart z TI TO i1 i2 l1 l2) (T1 : Stp prog w i1 l1 S1 n1 f1) (T2 : Stp prog w i2 l2 S2 n2 f2) (hz : IsZipHeld s.heap z TI TO T f) (hT : s.heap.get? T = some oT) (hTI : IsPair s.heap TI (.ref i1) (.ref i2)) (h1 : S1 k1 s.heap) (h2 : S2 k2 s.heap) (hend : f1 k1 = none ∨ f2 k2 = none)
    (hQ : ∀ h', (∀ c o, c ≠ z → c ≠ i1 → c ≠ i2 → s.heap.get? c = some o → h'.get? c = some o) → Q none { s with heap := h' }) : wpAny (model prog w) A (pyNext (.ref z)) Q E s := by
  have ty : s.TypeIs (.ref z) "zip" := ⟨_, hz, rfl⟩
  unfold pyNext; refine wpAny_bind (wpAny_attempt (wpAny_callSpecial?_slot (name := Str.ofString "__next__") ty F.slot_zip_next (wpAny_call_entry F.slot_zip_next ty F.entry_zip_next (heldE hh D T1 T2 hz hT hTI h1 h2 hend fun h' e hk he => ?_) (F.args_zip_next_1 _))))
  obtain ⟨o, ho, hc⟩ := he; exact wpAny_bind (wpAny_isInstance (T := "StopIteration") (b := true) ⟨o, ho, hc⟩ isSubtype_stop (wpAny_pure (hQ _ hk)))
end
section
variable {prog : Program} {w : World}
theorem mem7 {c z TI TO i1 i2 l1 l2 : Addr} (h : c ∈ [z, TI, TO, i1, i2, l1, l2]) : c = z ∨ c = TI ∨ c = TO ∨ c = i1 ∨ c = i2 ∨ c = l1 ∨ c = l2 := by simpa using h
/-- zip of a tuple at l1 and a list at l2, as pairs -/
theorem argTL (z TI TO i1 i2 l1 l2 : Addr) (D : ZipApart z TI TO i1 i2 l1 l2) (xs ys : Array Value) :
    PairArg prog w "zip" z [z, TI, TO, i1, i2, l1, l2] [z, TO, i1, i2] (min xs.size ys.size) (fun i k v => xs[i]? = some k ∧ ys[i]? = some v)
      (fun h => IsZip h z TI TO .none ∧ IsPair h TI (.ref i1) (.ref i2) ∧ (∃ a b, IsPair h TO a b) ∧ (h.IsTupleIter i1 l1 0 ∧ h.IsTuple l1 xs) ∧ (h.IsListIter i2 l2 0 ∧ h.IsList l2 ys)) where
  type := fun s ok => ⟨_, ok.1, rfl⟩
  notDict := by decide
  keep := fun h h' ⟨q1, q2, ⟨a, b, q3⟩, ⟨q4, q5⟩, q6, q7⟩ k => ⟨k _ _ q1, k _ _ q2, ⟨a, b, k _ _ q3⟩, ⟨q4.at fun o e => k _ o e, q5.at fun o e => k _ o e⟩, q6.at fun o e => k _ o e, q7.at fun o e => k _ o e⟩
  there := fun h ⟨q1, q2, ⟨a, c, q3⟩, ⟨⟨o1, q4, _⟩, ⟨o3, q5, _⟩⟩, ⟨o2, q6, _⟩, ⟨o4, q7, _⟩⟩ b hb => by
    rcases mem7 hb with e | e | e | e | e | e | e <;> rw [e]
    · exact ⟨_, q1⟩
    · exact ⟨_, q2⟩
    · exact ⟨_, q3⟩
    · exact ⟨_, q4⟩
    · exact ⟨_, q6⟩
    · exact ⟨_, q5⟩
    · exact ⟨_, q7⟩
  sub := fun b hb => by
    have : b = z ∨ b = TO ∨ b = i1 ∨ b = i2 := by simpa using hb
    rcases this with e | e | e | e <;> simp [e]
  noKeys := fun A s Q E hA ok h => getAttrOr_miss_zip ok.1 rfl rfl rfl zip_no_keys (by decide +kernel) hA h
  iter := fun A s d Q E hA ⟨q1, q2, ⟨a, b, q3⟩, q4, q5⟩ hd hdf h => by
    have ne : ∀ c ∈ [z, TI, TO, i1, i2, l1, l2], c ≠ d := fun c hc e => hdf (e ▸ hc)
    refine wpAny_pyIter_zip q1 (h z [z, TO, i1, i2] (fun i h => IsPair h TI (.ref i1) (.ref i2) ∧ (h.IsTupleIter i1 l1 i ∧ h.IsTuple l1 xs) ∧ (h.IsListIter i2 l2 i ∧ h.IsList l2 ys) ∧ ((IsZip h z TI TO .none ∧ ∃ a b, IsPair h TO a b) ∨ ∃ T f oT, IsZipHeld h z TI TO T f ∧ h.get? T = some oT ∧ T ≠ z ∧ T ≠ i1 ∧ T ≠ i2 ∧ T ≠ d)) s.heap s.toks ?_ ⟨q2, q4, q5, .inl ⟨q1, a, b, q3⟩⟩ (fun _ _ e => e) fun b hb => .inl hb)
    have T1 := stp_t (prog := prog) (w := w) (i := i1) (l := l1) (xs := xs)
    have T2 := stp_l (prog := prog) (w := w) (i := i2) (l := l2) (xs := ys)
    have out : ∀ {c : Addr}, c ∉ [z, TO, i1, i2] → c ≠ z ∧ c ≠ TO ∧ c ≠ i1 ∧ c ≠ i2 := fun hc => ⟨fun e => hc (by simp [e]), fun e => hc (by simp [e]), fun e => hc (by simp [e]), fun e => hc (by simp [e])⟩
    refine { off := fun hm => ?_, frame := fun i h1 h2 st k => ?_, item := fun i s1 Q1 E1 hi st hds hQ => ?_, done := fun s1 Q1 E1 st hQ => ?_ }
    · have : d = z ∨ d = TO ∨ d = i1 ∨ d = i2 := by simpa using hm
      rcases this with e | e | e | e
      · exact ne z (by simp) e.symm
      · exact ne TO (by simp) e.symm
      · exact ne i1 (by simp) e.symm
      · exact ne i2 (by simp) e.symm
    · obtain ⟨p, ⟨a1, a2⟩, ⟨a3, a4⟩, hz⟩ := st
      refine ⟨k _ _ (ne TI (by simp)) p, ⟨a1.at fun o e => k _ o (ne i1 (by simp)) e, a2.at fun o e => k _ o (ne l1 (by simp)) e⟩, ⟨a3.at fun o e => k _ o (ne i2 (by simp)) e, a4.at fun o e => k _ o (ne l2 (by simp)) e⟩, ?_⟩
      rcases hz with ⟨hz, a, b, hTO⟩ | ⟨T, f, oT, hz, hT, r1, r2, r3, r4⟩
      · exact .inl ⟨k _ _ (ne z (by simp)) hz, a, b, k _ _ (ne TO (by simp)) hTO⟩
      · exact .inr ⟨T, f, oT, k _ _ (ne z (by simp)) hz, k _ _ r4 hT, r1, r2, r3, r4⟩
    · obtain ⟨p, a1, a2, hz⟩ := st
      have ex := Array.getElem?_eq_getElem (Nat.lt_of_lt_of_le hi (Nat.min_le_left xs.size ys.size))
      have ey := Array.getElem?_eq_getElem (Nat.lt_of_lt_of_le hi (Nat.min_le_right xs.size ys.size))
      have lt : ∀ {c o}, s1.heap.get? c = some o → s1.heap.objs.size ≠ c := fun e => Nat.ne_of_gt (Heap.lt_size e)
      have n1 : s1.heap.objs.size ≠ i1 := let ⟨_, e, _⟩ := a1.1; lt e
      have n2 : s1.heap.objs.size ≠ i2 := let ⟨_, e, _⟩ := a2.1; lt e
      rcases hz with ⟨hz, a, b, hTO⟩ | ⟨T, f, oT, hz, hT, r1, r2, r3, r4⟩
      · refine pyNext_zipG_item D T1 T2 hz p hTO a1 a2 ex ey fun h' c1 c2 c3 c4 c5 c6 k => ?_
        exact hQ s1.heap.objs.size _ _ h' s1.toks ⟨ex, ey⟩ (.inl ⟨_, c5, rfl, _, rfl⟩) ⟨k _ _ D.TIz D.TITO D.TIi1 D.TIi2 p, c3, c4, .inr ⟨s1.heap.objs.size, false, _, c1, c5, lt hz, n1, n2, Nat.ne_of_gt hds⟩⟩ fun c o hc e => k c o (out hc).1 (out hc).2.1 (out hc).2.2.1 (out hc).2.2.2 e
      · refine nextI D T1 T2 hz hT p a1 a2 ex ey fun h' c1 c3 c4 c5 k => ?_
        exact hQ s1.heap.objs.size _ _ h' s1.toks ⟨ex, ey⟩ (.inl ⟨_, c5, rfl, _, rfl⟩) ⟨k _ _ D.TIz D.TIi1 D.TIi2 p, c3, c4, .inr ⟨T, true, oT, c1, k _ _ r1 r2 r3 hT, r1, r2, r3, r4⟩⟩ fun c o hc e => k c o (out hc).1 (out hc).2.2.1 (out hc).2.2.2 e
    · obtain ⟨p, a1, a2, hz⟩ := st
      have hend : xs[min xs.size ys.size]? = none ∨ ys[min xs.size ys.size]? = none := (Nat.le_total xs.size ys.size).imp (fun q => Array.getElem?_eq_none (by omega)) (fun q => Array.getElem?_eq_none (by omega))
      rcases hz with ⟨hz, a, b, hTO⟩ | ⟨T, f, oT, hz, hT, r1, r2, r3, r4⟩
      · exact pyNext_zipG_end hA D T1 T2 hz p hTO a1 a2 hend fun h' k => hQ h' s1.toks fun c o hc e => k c o (out hc).1 (out hc).2.1 (out hc).2.2.1 (out hc).2.2.2 e
      · exact nextE hA D T1 T2 hz hT p a1 a2 hend fun h' k => hQ h' s1.toks fun c o hc e => k c o (out hc).1 (out hc).2.2.1 (out hc).2.2.2 e
end
end Lx
namespace Lx
open PySem PySem.Spec PyProof.Rows L2
open PySem.Sem (wp)
def tDZip (K : PySem.W.Frag) (ta : TA) : TE := fun σ H Q => ta σ H fun vs H1 => ∃ (a b : Addr) (ns ms : List Int), vs = [.ref a, .ref b] ∧ SqT K H1 a (ns.map V.int) ∧ SqL K H1 b (ms.map V.int) ∧ ms.length = ns.length ∧ ns.Nodup ∧ ns.length ≤ 4000 ∧ ∀ p, H1 p = none → Q (.ref p) (upd H1 p (Ld.dI (ns.zip ms)))
theorem merge_new : ∀ (l acc : List (Int × Int)), ((acc ++ l).map (·.1)).Nodup → mergeK (acc.map fun p => ((Sum.inl p.1 : Key), V.int p.2)) (l.map fun p => ((Sum.inl p.1 : Key), V.int p.2)) = (acc ++ l).map fun p => ((Sum.inl p.1 : Key), V.int p.2)
  | [], acc, _ => by rw [List.append_nil]; rfl
  | p :: l, acc, h => by
    have hk : Ld.lk acc p.1 = none := by
      rw [List.map_append, List.nodup_append] at h
      unfold Ld.lk
      rw [Option.map_eq_none_iff, List.find?_eq_none]
      intro q hq
      have := h.2.2 q.1 (List.mem_map_of_mem hq) p.1 (by simp)
      simpa using this
    have ih := merge_new l (acc ++ [p]) (by rw [List.append_assoc]; exact h)
    have e : putK (acc.map fun p => ((Sum.inl p.1 : Key), V.int p.2)) (Sum.inl p.1) (V.int p.2) = (acc ++ [p]).map fun p => ((Sum.inl p.1 : Key), V.int p.2) := by
      rw [putK_new _ (by rw [Ld.lk_val, hk]; rfl), List.map_append]
      rfl
    show mergeK (putK (acc.map fun p => ((Sum.inl p.1 : Key), V.int p.2)) (Sum.inl p.1) (V.int p.2)) (l.map fun p => ((Sum.inl p.1 : Key), V.int p.2)) = _
    rw [e, ih, List.append_assoc]
    rfl
end Lx
namespace Lx
open PySem PySem.Spec PyProof.Rows L2
open PySem.Sem (wp)
theorem kv_zip {P : Program} {w : World} : ∀ {ns ms : List Int} {its its2 : List Value}, Vals (ns.map V.int) its → Vals (ms.map V.int) its2 → ms.length = ns.length →
    ∃ prs : List (Key × Value), KV ((ns.zip ms).map fun p => ((Sum.inl p.1 : Key), V.int p.2)) prs ∧ prs.length = its.length ∧ its2.length = its.length ∧ ∀ (i : Nat) (k v : Value), its[i]? = some k → its2[i]? = some v → ∃ key, prs[i]? = some (key, v) ∧ (mixKind P w).is key k = true
  | [], [], _, _, .nil, .nil, _ => ⟨[], .nil, rfl, rfl, fun i k v h => by simp at h⟩
  | n :: ns, m :: ms, _, _, .cons (b := u) r rs, .cons (b := u2) r2 rs2, h => by
    obtain ⟨prs, g1, g2, g3, g4⟩ := kv_zip (P := P) (w := w) rs rs2 (by simpa using h)
    refine ⟨(Sum.inl n, u2) :: prs, .cons ⟨rfl, r2⟩ g1, by simp [g2], by simp [g3], fun i k v h1 h2 => ?_⟩
    cases i with
    | zero =>
      cases h1
      cases h2
      exact ⟨_, rfl, kV_is (k := Sum.inl n) r⟩
    | succ i => exact g4 i k v h1 h2
  | [], _ :: _, _, _, _, _, h => by cases h
  | _ :: _, [], _, _, _, _, h => by cases h
theorem pe_dictZip {X : Cx} {e e2 : Expr} {ta : TA} {p p2 q pos : Pos} (hg : Gl X "dict") (hm : X.mg "dict" = none) (hg2 : Gl X "zip") (hm2 : X.mg "zip" = none) (ha : PA X [e, e2] ta) (hc : X.calm = true := by rfl)
    (hs : starEach [e, e2] X.env = (false, eval e X.env) :: starEach [e2] X.env := by rfl) (hpl : (backTo q (starEach [e2] X.env)).any (·.1) = false := by rfl) : PE X (.Call (.Name "dict" p) [.Call (.Name "zip" p2) [e, e2] [] q] [] pos) (tDZip X.K ta) := by
  refine ⟨fun pins s σ H Q I h => ?_⟩
  refine Call_ (ld_blt I hg hm boot_dict ?_)
  refine PyProof.Rows.callWith_type1 (PyProof.Rows.args_cons ?_ rfl) rfl rfl
  refine Call_ (ld_blt I hg2 hm2 PyProof.Rows.boot_zip (PyProof.Rows.callWith_type1 (thn (ha.run q pins s σ H _ I h) fun us s1 ⟨vs, H1, I1, r1, q1⟩ => ?_) hs hpl))
  obtain ⟨a, b, ns, ms, ex, hqx, hqy, hlen, hnd, hsz, q1⟩ := q1; subst ex
  cases r1 with
  | cons r rr =>
    cases rr with
    | cons r' rr =>
      cases rr; cases r; cases r'
      obtain ⟨its, rv, p1, _⟩ := I1.tuple hqx; obtain ⟨its2, rv2, p2', _⟩ := I1.list hqy; obtain ⟨o1, ho1, _⟩ := id p1
      obtain ⟨prs, kv, l1, l2, at_⟩ := kv_zip (P := X.prog) (w := X.w) rv rv2 hlen
      have li : its.length = ns.length := by rw [← rv.length, List.length_map]
      have D := PySem.W.ktu_apart s1.heap.objs.size a b (Heap.lt_size ho1) p2'.lt
      refine call_zipG (begins_tuple a its.toArray) (begins_list b its2.toArray) (fun h z => Heap.IsList.push z _) p1 p2'.isList fun h' hz hTI hTO h1 h2 hk => PyProof.Rows.args_nil ?_
      have t1 : h'.IsTuple a its.toArray := let ⟨o, e, r⟩ := p1; ⟨o, hk _ _ e, r⟩
      have t2 : h'.IsList b its2.toArray := let ⟨o, e, r⟩ := p2'.isList; ⟨o, hk _ _ e, r⟩
      have mn : min its.toArray.size its2.toArray.size = prs.length := by simp only [List.size_toArray]; omega
      refine PySem.call_dict_pairs (knd := mixKind X.prog X.w) (kvs := prs) (argTL _ _ _ _ _ a b D its.toArray its2.toArray) (I1.ok.hd hc) ⟨hz, hTI, ⟨_, _, hTO⟩, ⟨⟨_, h1, rfl, rfl⟩, t1⟩, ⟨⟨_, h2, rfl, rfl⟩, t2⟩⟩ ⟨mn.symm, fun i k v ⟨g1, g2⟩ => at_ i k v (by simpa using g1) (by simpa using g2)⟩ (by rw [mn, l1, li, sizeLine_eq]; omega) fun h'' tk hd' k => ?_
      have hle : s1.heap.objs.size ≤ h'.objs.size := Nat.le_trans (Nat.le_add_right _ 4) (Nat.le_of_lt (Heap.lt_size hz))
      have hm0 : (h'.objs.size == sysModules) = false := beq_eq_false_iff_ne.mpr (Nat.ne_of_gt (Nat.lt_of_lt_of_le I1.big hle))
      have em := merge_new (ns.zip ms) [] (by
        rw [List.nil_append, List.map_fst_zip (by omega)]
        exact hnd)
      rw [List.nil_append] at em
      have nz : ∀ c o, s1.heap.get? c = some o → c ∉ [s1.heap.objs.size + 4, s1.heap.objs.size + 3, s1.heap.objs.size, s1.heap.objs.size + 1] := fun c o e hcm => by
        have hlt := Heap.lt_size e
        simp only [List.mem_cons, List.not_mem_nil, or_false] at hcm
        rcases hcm with g | g | g | g
        · rw [g] at hlt; exact absurd hlt (Nat.not_lt.mpr (Nat.le_add_right _ _))
        · rw [g] at hlt; exact absurd hlt (Nat.not_lt.mpr (Nat.le_add_right _ _))
        · rw [g] at hlt; exact absurd hlt (Nat.lt_irrefl _)
        · rw [g] at hlt; exact absurd hlt (Nat.not_lt.mpr (Nat.le_add_right _ _))
      refine ⟨.ref h'.objs.size, upd H1 h'.objs.size (Ld.dI (ns.zip ms)), I1.laid (t' := tk) (fun c o e => k c o (nz c o e) (hk c o e)) hle (show ObjOk X.prog X.w _ _ _ (Ld.dI (ns.zip ms)) from ⟨?_, hm0, merged [] prs, ?_, hd'⟩), rfl, q1 _ (I1.hok.fresh hle)⟩
      · rw [List.length_map, List.length_zip, sizeLine_eq]
        omega
      · have := KV.merge kv (kvs := []) (vs := []) .nil
        rw [show mergeK [] ((ns.zip ms).map fun p => ((Sum.inl p.1 : Key), V.int p.2)) = (ns.zip ms).map fun p => ((Sum.inl p.1 : Key), V.int p.2) from em] at this
        exact this
end Lx
namespace Ld
open PySem PySem.Spec PyProof.Rows L2 Lx
theorem ve_dictZip {K : PySem.W.Frag} {Γ : List Cell} {Θ : List Tmp} {ta tb : TE} {Q : List Cell → Tmp → Prop} (h : VE K Γ Θ ta fun Γ1 x => VE K Γ1 (x :: Θ) tb fun Γ2 y => ∃ ns ms : List Int, x = .dt (.tuple (ns.map .int)) ∧ rd Γ2 y (.list (ms.map .int)) ∧ ms.length = ns.length ∧ ns.Nodup ∧ ns.length ≤ 4000 ∧ Q Γ2 (.ob (dI (ns.zip ms)))) :
    VE K Γ Θ (tDZip K (tCons ta (tCons tb tNil))) Q := fun L S0 σ τ S Qv E k => h L S0 σ τ S _ E fun Γ1 S1 vx x E1 h1 => h1 L S0 σ _ S1 _ E1 fun Γ2 S2 vy y E2 ⟨ns, ms, ex, hy, hl, hn, hz, q⟩ => by
  subst ex
  obtain ⟨b, eb, hb⟩ := intsL E2 hy
  obtain ⟨a, o, xs, ea, _, hx, p⟩ := dp_tup E2.pop.dt
  rw [dpa_ints p] at hx
  exact ⟨a, b, ns, ms, by rw [ea, eb], sqt_f (E2.sub _ _ hx), hb, hl, hn, hz, fun p hp => k Γ2 _ _ _ (E2.pop.pop.newOb hp) q⟩
end Ld
set_option Elab.async false
set_option linter.all false
set_option maxRecDepth 100000
namespace Sh
open PySem PySem.Spec PyProof.Rows L2 Lx Ld
/-! ### lettings: none is "on", some n is n let off -/
structure LSt where
  i : Nat
  S : List Int
  O : List Int
def stepF (N : List Int) (b : Nat) (st : LSt) : Option Int → Option LSt
  | none => if st.S.length ≤ b then (N[st.i]?).map fun x => ⟨st.i + 1, st.S ++ [x], st.O⟩ else none
  | some n => if n ∈ st.S then some ⟨st.i, st.S.erase n, st.O ++ [n]⟩ else none
def runF (N : List Int) (b : Nat) (W : List (Option Int)) : Option LSt := W.foldl (fun acc s => acc.bind fun st => stepF N b st s) (some ⟨0, [], []⟩)
theorem runF_snoc (N : List Int) (b : Nat) (W : List (Option Int)) (s : Option Int) : runF N b (W ++ [s]) = (runF N b W).bind fun st => stepF N b st s := by unfold runF; rw [List.foldl_append]; rfl
theorem runF_pre {N : List Int} {b : Nat} {W : List (Option Int)} {s : Option Int} {st : LSt} (h : runF N b (W ++ [s]) = some st) : ∃ st0, runF N b W = some st0 ∧ stepF N b st0 s = some st := by
  rw [runF_snoc] at h
  cases e : runF N b W with
  | none => rw [e] at h; cases h
  | some st0 => rw [e] at h; exact ⟨st0, rfl, h⟩
structure LOk (N : List Int) (b : Nat) (W : List (Option Int)) (st : LSt) : Prop where
  le : st.i ≤ N.length
  perm : (st.S ++ st.O).Perm (N.take st.i)
  out : st.O = W.filterMap id
  len : W.length = st.i + st.O.length
  few : st.S.length ≤ b + 1
  gain : ∀ j x, j < st.i → N[j]? = some x → ∃ O1 O2, st.O = O1 ++ O2 ∧ x ∉ O1 ∧ cntG (N.take j) x ≤ b + cntG O1 x
theorem lok {N : List Int} {b : Nat} (hN : N.Nodup) : ∀ (W : List (Option Int)) {st : LSt}, runF N b W = some st → LOk N b W st := fun W => by
  have h : ∀ (n : Nat) (W : List (Option Int)) {st : LSt}, W.length = n → runF N b W = some st → LOk N b W st := by
    intro n
    induction n with
    | zero =>
      intro W st hl h
      rw [List.length_eq_zero_iff.mp hl] at h ⊢
      cases h
      exact ⟨Nat.zero_le _, .refl _, rfl, rfl, Nat.zero_le _, fun j x h => by cases h⟩
    | succ n ih =>
      intro W st hl h
      obtain ⟨W', s, rfl⟩ : ∃ W' s, W = W' ++ [s] := ⟨W.dropLast, W.getLast (List.ne_nil_of_length_pos (by omega)), (List.dropLast_concat_getLast _).symm⟩
      simp only [List.length_append, List.length_singleton] at hl
      obtain ⟨st0, e0, hs⟩ := runF_pre h
      have ok := ih W' (by omega) e0
      cases s with
      | none =>
        unfold stepF at hs
        by_cases hb : st0.S.length ≤ b
        · simp only [if_pos hb] at hs
          obtain ⟨x, hx, rfl⟩ := Option.map_eq_some_iff.mp hs
          have hi := (List.getElem?_eq_some_iff.mp hx).1
          refine ⟨by show st0.i + 1 ≤ _; omega, ?_, ?_, ?_, ?_, fun j y hj hy => ?_⟩
          · show (st0.S ++ [x] ++ st0.O).Perm (N.take (st0.i + 1))
            rw [take_snoc hx]
            have := (ok.perm.append_right [x])
            refine List.Perm.trans ?_ this
            rw [List.append_assoc, List.append_assoc]
            exact List.Perm.append_left _ List.perm_append_comm
          · show st0.O = _
            rw [List.filterMap_append, ok.out]
            simp
          · show (W' ++ [none]).length = st0.i + 1 + st0.O.length
            rw [List.length_append, ok.len]
            simp only [List.length_singleton]
            omega
          · show (st0.S ++ [x]).length ≤ b + 1
            simp
            omega
          · by_cases hj2 : j < st0.i
            · exact ok.gain j y hj2 hy
            · have : j = st0.i := by have : j < st0.i + 1 := hj; omega
              subst this
              rw [hx] at hy
              cases hy
              refine ⟨st0.O, [], by rw [List.append_nil], fun z => ?_, ?_⟩
              · exact nd_take hN hx (ok.perm.mem_iff.mp (List.mem_append_right _ z))
              · rw [← cntG_perm ok.perm, cntG_app]
                have : cntG st0.S x ≤ st0.S.length := List.length_filter_le _ _
                omega
        · simp only [if_neg hb] at hs
          cases hs
      | some m =>
        unfold stepF at hs
        by_cases hm : m ∈ st0.S
        · simp only [if_pos hm] at hs
          cases hs
          refine ⟨ok.le, ?_, ?_, ?_, ?_, fun j y hj hy => ?_⟩
          · show (st0.S.erase m ++ (st0.O ++ [m])).Perm (N.take st0.i)
            refine List.Perm.trans ?_ ok.perm
            rw [← List.append_assoc]
            refine (List.perm_append_comm (l₁ := st0.S.erase m ++ st0.O) (l₂ := [m])).trans ?_
            show (m :: (st0.S.erase m ++ st0.O)).Perm _
            exact ((List.perm_cons_erase hm).symm.append_right st0.O)
          · show st0.O ++ [m] = _
            rw [List.filterMap_append, ok.out]
            simp
          · show (W' ++ [some m]).length = st0.i + (st0.O ++ [m]).length
            rw [List.length_append, List.length_append, ok.len]
            simp only [List.length_singleton]
            omega
          · show (st0.S.erase m).length ≤ b + 1
            rw [List.length_erase_of_mem hm]
            have := ok.few
            omega
          · obtain ⟨O1, O2, e, hn, hc⟩ := ok.gain j y hj hy
            exact ⟨O1, O2 ++ [m], by show st0.O ++ [m] = _; rw [e, List.append_assoc], hn, hc⟩
        · simp only [if_neg hm] at hs
          cases hs
  exact fun {st} h' => h _ W rfl h'
/-- a whole letting -/
structure Whole (N : List Int) (b : Nat) (W : List (Option Int)) (O : List Int) : Prop where
  run : runF N b W = some ⟨N.length, [], O⟩
theorem Whole.perm {N O : List Int} {b : Nat} {W : List (Option Int)} (hN : N.Nodup) (h : Whole N b W O) : O.Perm N := by
  have := (lok hN W h.run).perm
  rwa [List.nil_append, List.take_length] at this
theorem Whole.len {N O : List Int} {b : Nat} {W : List (Option Int)} (hN : N.Nodup) (h : Whole N b W O) : W.length = 2 * N.length := by
  have h1 := (lok hN W h.run).len
  have h2 := (h.perm hN).length_eq
  dsimp only at h1
  omega
theorem Whole.out {N O : List Int} {b : Nat} {W : List (Option Int)} (hN : N.Nodup) (h : Whole N b W O) : O = W.filterMap id := (lok hN W h.run).out
theorem Whole.gain {N O : List Int} {b : Nat} {W : List (Option Int)} (hN : N.Nodup) (h : Whole N b W O) {x : Int} (hx : x ∈ N) : gc N x ≤ b + gc O x := by
  obtain ⟨j, hj⟩ := List.getElem?_of_mem hx
  obtain ⟨O1, O2, e, hn, hc⟩ := (lok hN W h.run).gain j x (List.getElem?_eq_some_iff.mp hj).1 hj
  dsimp only at e
  rw [gc_take hN hj, e, gc_out hn]
  omega
end Sh
namespace Sh
open PySem PySem.Spec PyProof.Rows L2 Lx Ld
/-! the shelf's own way -/
theorem lk_zip : ∀ {N M : List Int}, N.Nodup → ∀ {i : Nat} {x v : Int}, N[i]? = some x → M[i]? = some v → lk (N.zip M) x = some v
  | a :: N, m :: M, h, 0, x, v, h1, h2 => by
    cases h1
    cases h2
    simp [lk]
  | a :: N, m :: M, h, i + 1, x, v, h1, h2 => by
    rw [List.nodup_cons] at h
    have hxN : x ∈ N := List.mem_of_getElem? (by simpa using h1)
    have hax : ¬ a = x := fun e => h.1 (e ▸ hxN)
    have ih := lk_zip h.2 (i := i) (x := x) (v := v) (by simpa using h1) (by simpa using h2)
    unfold lk at ih ⊢
    rw [List.zip_cons_cons, List.find?_cons]
    simpa [hax] using ih
theorem lk_gr {O : List Int} (h : O.Nodup) {x : Int} (hx : x ∈ O) : lk (O.zip (gr O)) x = some (gc O x : Int) := lk_zip h (by
  have hi := List.idxOf_lt_length_iff.mpr hx
  rw [List.getElem?_eq_getElem hi]
  simp) (gr_idx hx)
end Sh
namespace Ld
open PySem PySem.Spec PyProof.Rows L2 Lx
section
variable {K : PySem.W.Frag} {Γ : List Cell} {Θ : List Tmp}
/-- xs.pop(0) -/
theorem ve_pop0 {i : Nat} {te : TE} {Q : List Cell → Tmp → Prop} (h0 : ∃ ds, IsLs Γ i ds) (h : VE K Γ Θ te fun Γ1 y => ∃ (d : Dat) (ds : List Dat), y = .dt (.int 0) ∧ IsLs Γ1 i (d :: ds) ∧ ds.length < sizeLine ∧ Q (putC Γ1 i ds) (.dt d)) : VE K Γ Θ (tBM K "list" rPopAt (tVar i) (tCons te tNil)) Q := fun L S0 σ τ S Qv E k => by
  obtain ⟨ds0, c0, hc0, hl0⟩ := h0
  obtain ⟨a, ea, nb, us, hu, pu⟩ := E.own hc0 hl0
  refine ⟨_, ea, .inl ⟨rfl, us, .of hu⟩, h L S0 σ τ S _ E fun Γ1 S1 v y E1 ⟨d, ds, ey, ⟨c, hc, hl⟩, hz, q⟩ => ?_⟩
  subst ey
  obtain ⟨a', vs, ea', hv, pv, put⟩ := E1.pop.mutSlot hc hl
  rw [ea] at ea'
  cases ea'
  cases pv with
  | cons p1 p2 =>
    rename_i v0 vs0
    refine ⟨a, v0 :: vs0, 0, 0, v0, rfl, by rw [dp_int E1.dt], hv, by decide, by decide, ?_, rfl, ?_⟩
    · simp [seqIndex?]
    · have E2 := put vs0 ds p2
      rw [putC_eq hc] at q
      exact k _ _ _ _ (E2.push p1) q
theorem ss_augI0 {i : Nat} {te : TE} {f : Int → Int → Int} {R : DE} (h0 : ∃ m : Int, Γ[i]? = some (.dt (.int m))) (h : ∀ ss, VE K Γ (srcT ss) te fun Γ1 y => ∃ m n : Int, Γ1[i]? = some (.dt (.int m)) ∧ y = .dt (.int n) ∧ R.nx (Γ1.set i (.dt (.int (f m n))))) :
    VSs K Γ (tAug i te (rI0 fun i j => .int (f i j))) R := fun ss L S0 σ τ S D E kn kr kb kc => by
  obtain ⟨m0, h0⟩ := h0
  obtain ⟨w, g1, g2⟩ := id E.ok
  obtain ⟨v, ev, qv⟩ := g1 i _ h0
  refine ⟨v, ev, h ss L S0 σ τ S _ E fun Γ1 S1 vy y E1 ⟨m, n, hi, ey, q⟩ => ?_⟩
  subst ey
  obtain ⟨w', g1', g2'⟩ := id E1.ok
  obtain ⟨v', ev', qv'⟩ := g1' i _ hi
  rw [ev] at ev'
  cases ev'
  have e1 : v = .int m := dp_int qv'
  have e2 : vy = .int n := dp_int E1.dt
  exact ⟨m, n, e1, e2, kn _ _ S1 (E1.pop.setDt nb_src (.int _)) q⟩
end
end Ld
namespace Sh
open PySem PySem.Spec PyProof.Rows L2 Lx Ld
theorem any_in {S : List Int} {n : Int} : ((iL S).any fun d => eqF d (.int n)) = decide (n ∈ S) := by
  rw [Bool.eq_iff_iff, List.any_eq_true, decide_eq_true_iff]
  constructor
  · rintro ⟨d, hd, he⟩
    obtain ⟨m, hm, rfl⟩ := List.mem_map.mp hd
    rw [eqF_ii] at he
    rw [← of_decide_eq_true he]
    exact hm
  · intro h
    exact ⟨.int n, List.mem_map_of_mem h, by rw [eqF_ii]; simp⟩
end Sh
namespace Sh
open PySem PySem.Spec PyProof.Rows L2 Lx Ld
end Sh
namespace Ld
theorem sto_ob {Γ : List Cell} {i : Nat} {p : L2.HO} {Q : List Cell → Prop} (q : Q (Γ.set i (.ob p))) : Sto Γ i Q (.ob p) := q
end Ld
namespace Ld
open PySem PySem.Spec PyProof.Rows L2 Lx
theorem st1_nbr {Γ : List Cell} {i : Nat} {c : Tmp} {Γ' : List Cell} (h : St1 Γ i c = some Γ') : ∀ k, c ≠ .br k := fun k z => by subst z; cases h
/-- a, b, c, d = e, f, g, h -/
theorem ss_asg4 {K : PySem.W.Frag} {Γ : List Cell} {i j k l : Nat} {ta tb tc td : TE} {R : DE} (hd : i ≠ j ∧ i ≠ k ∧ i ≠ l ∧ j ≠ k ∧ j ≠ l ∧ k ≠ l) (h : ∀ ss, VE K Γ (srcT ss) ta fun Γ1 x => VE K Γ1 (x :: srcT ss) tb fun Γ2 y => VE K Γ2 (y :: x :: srcT ss) tc fun Γ3 z => VE K Γ3 (z :: y :: x :: srcT ss) td fun Γ4 u =>
      ∃ Γ5 Γ6 Γ7 Γ8, St1 Γ4 l u = some Γ5 ∧ St1 Γ5 k z = some Γ6 ∧ St1 Γ6 j y = some Γ7 ∧ St1 Γ7 i x = some Γ8 ∧ R.nx Γ8) :
    VSs K Γ (tAsg (tTupF (tCons ta (tCons tb (tCons tc (tCons td tNil))))) (gTup K 4 (gCons (gName i) (gCons (gName j) (gCons (gName k) (gCons (gName l) gNil)))))) R := fun ss L S0 σ τ S D E kn kr kb kc =>
  h ss L S0 σ τ S _ E fun Γ1 S1 u x E1 h1 => h1 L S0 σ _ S1 _ E1 fun Γ2 S2 v y E2 h2 => h2 L S0 σ _ S2 _ E2 fun Γ3 S3 w z E3 h3 => h3 L S0 σ _ S3 _ E3 fun Γ4 S4 r t E4 ⟨Γ5, Γ6, Γ7, Γ8, e5, e6, e7, e8, q⟩ => by
    refine ⟨by show 4 ≤ sizeLine; decide +kernel, fun p o hd0 hp => ?_⟩
    have E5 := E4.grow (gr_new (o := .frz o (.tup [u, v, w, r])) hp E4.sub) (sub_new hp E4.sub)
    have nx := st1_nbr e8
    have ny := st1_nbr e7
    have nz := st1_nbr e6
    have E6 := E5.st1 (fun t ht => by
      rcases List.mem_cons.mp ht with rfl | ht
      · exact nz l
      rcases List.mem_cons.mp ht with rfl | ht
      · exact ny l
      rcases List.mem_cons.mp ht with rfl | ht
      · exact nx l
      · exact nb_src t ht) e5
    have E7 := E6.st1 (fun t ht => by
      rcases List.mem_cons.mp ht with rfl | ht
      · exact ny k
      rcases List.mem_cons.mp ht with rfl | ht
      · exact nx k
      · exact nb_src t ht) e6
    have E8 := E7.st1 (fun t ht => by
      rcases List.mem_cons.mp ht with rfl | ht
      · exact nx j
      · exact nb_src t ht) e7
    have E9 := E8.st1 nb_src e8
    obtain ⟨d1, d2, d3, d4, d5, d6⟩ := hd
    have es : ((((σ.set l (some r)).set k (some w)).set j (some v)).set i (some u)) = ((((σ.set i (some u)).set j (some v)).set k (some w)).set l (some r)) := by
      rw [List.set_comm _ _ d1.symm, List.set_comm _ _ d2.symm, List.set_comm _ _ d3.symm, List.set_comm _ _ d4.symm, List.set_comm _ _ d5.symm, List.set_comm _ _ d6.symm]
    rw [es] at E9
    exact ⟨p, _, rfl, sqt_f upd_same, rfl, _, _, rfl, _, _, rfl, _, _, rfl, _, _, rfl, rfl, kn _ _ _ E9 q⟩
end Ld
namespace Ld
open PySem PySem.Spec PyProof.Rows L2 Lx
end Ld
namespace Sh
open PySem PySem.Spec PyProof.Rows L2 Lx Ld
end Sh
namespace Ld
open PySem PySem.Spec PyProof.Rows L2 Lx
end Ld
set_option Elab.async false
set_option linter.all false
set_option maxRecDepth 100000
namespace Ld
open PySem PySem.Spec PyProof.Rows L2 Lx
section
variable {K : PySem.W.Frag} {Γ : List Cell} {Θ : List Tmp}
theorem argsOk_dts {B : Hp} : ∀ {vs : List V} {ds : List Dat}, DqAll B vs ds → ArgsOk K B vs (ds.map Arg.dt)
  | _, _, .nil => .nil
  | _, _, .cons h t => .cons h (argsOk_dts t)
theorem argsOk_apd {B : Hp} : ∀ {vs ws : List V} {as bs : List Arg}, ArgsOk K B vs as → ArgsOk K B ws bs → ArgsOk K B (vs ++ ws) (as ++ bs)
  | _, _, _, _, .nil, h => h
  | _, _, _, _, .cons h t, g => .cons h (argsOk_apd t g)
theorem Env.pushD {L : Addr → Prop} {S0 S : Hs} {σ : L2.St} {τ : List V} : ∀ {xs : List V} {ds : List Dat}, DqAll S.b xs ds → Env K L S0 Γ Θ σ τ S → Env K L S0 Γ (ds.map Tmp.dt ++ Θ) σ (xs ++ τ) S
  | _, _, .nil, E => E
  | _, _, .cons h t, E => (Env.pushD t E).push h
theorem Env.popD {L : Addr → Prop} {S0 S : Hs} {σ : L2.St} {τ : List V} : ∀ {xs : List V} {ds : List Dat}, xs.length = ds.length → Env K L S0 Γ (ds.map Tmp.dt ++ Θ) σ (xs ++ τ) S → DqAll S.b xs ds ∧ Env K L S0 Γ Θ σ τ S
  | [], [], _, E => ⟨.nil, E⟩
  | _ :: xs, _ :: ds, h, E => by
    have E' : Env K L S0 Γ (.dt _ :: (ds.map Tmp.dt ++ Θ)) σ (_ :: (xs ++ τ)) S := E
    obtain ⟨p, E2⟩ := Env.popD (xs := xs) (ds := ds) (by simpa using h) E'.pop
    exact ⟨.cons E'.dt p, E2⟩
  | [], _ :: _, h, _ => nomatch h
  | _ :: _, [], h, _ => nomatch h
/-- *e ahead of further items -/
theorem vax_star {te : TE} {t : TA} {Q : List Cell → List Arg → Prop} (h : VE K Γ Θ te fun Γ1 x => ∃ ds, x = .dt (.list ds) ∧ VAX K Γ1 (ds.map Tmp.dt ++ Θ) t fun Γ2 as => Q Γ2 (ds.map Arg.dt ++ as)) : VAX K Γ Θ (StX.tStar K te t) Q := fun L S0 σ τ S Qv E k =>
  h L S0 σ τ S _ E fun Γ1 S1 v x E1 ⟨ds, ex, h1⟩ => by
    subst ex
    obtain ⟨a, xs, ea, hx, p⟩ := dp_list E1.dt
    subst ea
    refine ⟨a, xs, rfl, .inr (E1.sub.seq (.inl (.of hx))), h1 L S0 σ _ S1 _ (E1.pop.pushD p) fun Γ2 S2 vs as E2 p2 q => ?_⟩
    obtain ⟨pd, E3⟩ := E2.popD p.len
    exact k Γ2 S2 _ _ E3 (argsOk_apd (argsOk_dts pd) p2) q
end
section
variable {K : PySem.W.Frag} {Γ : List Cell} {Θ : List Tmp}
theorem dqa_rg {B : Hp} (a : Int) : ∀ (l : List Nat), DqAll B (l.map fun i => V.int (a + (i : Nat))) (l.map fun i => PyData.int (a + (i : Nat)))
  | [] => .nil
  | _ :: l => .cons (.int _) (dqa_rg a l)
/-- list(range(n)) -/
theorem ve_lstRg1 {te : TE} {Q : List Cell → Tmp → Prop} (h : VE K Γ Θ te fun Γ1 x => ∃ n : Nat, x = .dt (.int n) ∧ n ≤ 16777216 ∧ Q Γ1 (.fr ((List.range n).map fun i => .int (i : Nat)))) : VE K Γ Θ (tLstRg (tRg1 te)) Q := fun L S0 σ τ S Qv E k =>
  h L S0 σ τ S _ E fun Γ1 S1 v x E1 ⟨n, ex, hn, q⟩ => by
    subst ex
    refine ⟨(n : Int), dp_int E1.dt, RgOk.of_le (by omega) (by omega) (by omega) (by omega), fun q0 hq => ?_⟩
    have e : (List.range n).map (fun i : Nat => PyData.int (i : Nat)) = (List.range ((n : Int) - 0).toNat).map fun i : Nat => PyData.int (0 + (i : Nat)) := by
      rw [show ((n : Int) - 0).toNat = n by omega]
      exact List.map_congr_left fun i _ => by rw [Int.zero_add]
    rw [e] at q
    exact k Γ1 _ _ _ (E1.pop.newLst hq (dqa_rg 0 _)) q
/-- list(range(a, b)) -/
theorem ve_lstRg2 {ta tb : TE} {Q : List Cell → Tmp → Prop} (h : VE K Γ Θ ta fun Γ1 x => VE K Γ1 (x :: Θ) tb fun Γ2 y => ∃ a b : Nat, x = .dt (.int a) ∧ y = .dt (.int b) ∧ a ≤ 16777216 ∧ b ≤ 16777216 ∧ Q Γ2 (.fr ((List.range (b - a)).map fun i => .int ((a + i : Nat))))) : VE K Γ Θ (tLstRg (tRg2 ta tb)) Q := fun L S0 σ τ S Qv E k =>
  h L S0 σ τ S _ E fun Γ1 S1 v x E1 h1 => h1 L S0 σ _ S1 _ E1 fun Γ2 S2 u y E2 ⟨a, b, ex, ey, ha, hb, q⟩ => by
    subst ex ey
    refine ⟨(a : Int), (b : Int), dp_int E2.pop.dt, dp_int E2.dt, RgOk.of_le (by omega) (by omega) (by omega) (by omega), fun q0 hq => ?_⟩
    have e : (List.range (b - a)).map (fun i : Nat => PyData.int ((a + i : Nat))) = (List.range ((b : Int) - (a : Int)).toNat).map fun i : Nat => PyData.int ((a : Int) + (i : Nat)) := by
      rw [show ((b : Int) - (a : Int)).toNat = b - a by omega]
      exact List.map_congr_left fun i _ => by rw [Int.natCast_add]
    rw [e] at q
    exact k Γ2 _ _ _ (E2.pop.pop.newLst hq (dqa_rg _ _)) q
end
end Ld
namespace Sh
open PySem PySem.Spec PyProof.Rows L2 Lx Ld
/-! rows ahead -/
/-- the counts a number can have ahead, by its count, its rank, the places -/
def canL (c r b : Nat) : List Int := if c = 0 then (List.range (min r b + 1)).map Int.ofNat else if c + b ≤ r then [((c + b : Nat) : Int)] else []
theorem canL_len {c r b : Nat} : (canL c r b).length ≤ b + 1 := by
  unfold canL
  by_cases h1 : c = 0
  · rw [if_pos h1, List.length_map, List.length_range]; omega
  · rw [if_neg h1]
    by_cases h2 : c + b ≤ r
    · rw [if_pos h2]; simp
    · rw [if_neg h2]; simp
theorem gc_len {N : List Int} {x : Int} : gc N x ≤ N.length := by
  unfold gc cntG
  refine Nat.le_trans (List.length_filter_le _ _) ?_
  rw [← take_idx, List.length_take]
  omega
def cansA (N : List Int) (b : Nat) : List (List Int) := (dsc N).zipIdx.map fun q => canL (gc N q.1) q.2 b
def manyA (N : List Int) (b : Nat) : Nat := (cansA N b).foldl (fun m l => m * l.length) 1
end Sh
set_option Elab.async false
set_option linter.all false
set_option maxRecDepth 100000
namespace Ld
open PySem PySem.Spec PyProof.Rows L2 Lx
open PySem.W (AllAlike Sortable dataLe EachIs sorted_data)
end Ld
namespace Ld
open PySem PySem.Spec PyProof.Rows L2 Lx
open PySem.W (AllAlike Sortable dataLe EachIs sorted_data)
end Ld
namespace Sh
open PySem PySem.Spec PyProof.Rows L2 Lx Ld
end Sh
namespace Sh
open PySem PySem.Spec PyProof.Rows L2 Lx Ld
end Sh
namespace Sh
open PySem PySem.Spec PyProof.Rows L2 Lx Ld
end Sh
set_option Elab.async false
set_option linter.all false
set_option maxRecDepth 100000
namespace Sh
open PySem PySem.Spec PyProof.Rows L2 Lx Ld
/-! known rows -/
end Sh
namespace Sh
open PySem PySem.Spec PyProof.Rows L2 Lx Ld
end Sh
set_option Elab.async false
set_option linter.all false
set_option maxRecDepth 100000
namespace Ld
open PySem PySem.Spec PyProof.Rows L2 Lx
theorem dqa_set {B : Hp} {v : V} {d : Dat} (h : Dq B v d) : ∀ (i : Nat) {vs : List V} {ds : List Dat}, DqAll B vs ds → DqAll B (vs.set i v) (ds.set i d)
  | _, _, _, .nil => .nil
  | 0, _, _, .cons _ t => .cons h t
  | i + 1, _, _, .cons g t => .cons g (dqa_set h i t)
/-- x[i], x[j] = a, b -/
theorem ss_swap {K : PySem.W.Frag} {Γ : List Cell} {k : Nat} {ta tb ti tj : TE} {R : DE}
    (h : ∀ ss, VE K Γ (srcT ss) ta fun Γ1 x => VE K Γ1 (x :: srcT ss) tb fun Γ2 y => ∃ dx dy ds, x = .dt dx ∧ y = .dt dy ∧ IsLs Γ2 k ds ∧
      VE K Γ2 (y :: x :: srcT ss) ti fun Γ3 z => ∃ (i : Nat) (ds3 : List Dat), z = .dt (.int i) ∧ IsLs Γ3 k ds3 ∧ i < ds3.length ∧
        (∃ es, IsLs (putC Γ3 k (ds3.set i dx)) k es) ∧ VE K (putC Γ3 k (ds3.set i dx)) (y :: x :: srcT ss) tj fun Γ4 u => ∃ (j : Nat) (ds4 : List Dat), u = .dt (.int j) ∧ IsLs Γ4 k ds4 ∧ j < ds4.length ∧ R.nx (putC Γ4 k (ds4.set j dy))) :
    VSs K Γ (tAsg (tTupF (tCons ta (tCons tb tNil))) (gTup K 2 (gCons (gSub (tVar k) ti rSetL) (gCons (gSub (tVar k) tj rSetL) gNil)))) R := fun ss L S0 σ τ S D E kn kr kb kc =>
  h ss L S0 σ τ S _ E fun Γ1 S1 v x E1 h1 => h1 L S0 σ _ S1 _ E1 fun Γ2 S2 u y E2 ⟨dx, dy, ds, ex, ey, ⟨c, hc, hl⟩, h2⟩ => by
    subst ex ey
    refine ⟨by show 2 ≤ sizeLine; decide +kernel, fun p o hd0 hp => ?_⟩
    have E5 := E2.grow (gr_new (o := .frz o (.tup [v, u])) hp E2.sub) (sub_new hp E2.sub)
    obtain ⟨a, ea, _⟩ := E5.own hc hl
    refine ⟨p, _, rfl, sqt_f upd_same, rfl, _, _, rfl, _, ea, ?_⟩
    refine h2 L S0 σ _ _ _ E5 fun Γ3 S3 w z E3 ⟨i, ds3, ez, ⟨c3, hc3, hl3⟩, hi, ⟨es, c9, hc9, hl9⟩, h3⟩ => ?_
    subst ez
    obtain ⟨a', vs, ea', hv, pv, put⟩ := E3.pop.mutSlot hc3 hl3
    rw [ea] at ea'
    cases ea'
    have E6 := put (vs.set i v) (ds3.set i dx) (dqa_set E3.pop.pop.dt i pv)
    have hi' : i < vs.length := by rw [pv.len]; exact hi
    rw [putC_eq hc3] at h3 hc9
    refine ⟨a, vs, i, i, rfl, dp_int E3.dt, hv, ?_, ?_⟩
    · unfold ixN
      rw [if_pos (Int.natCast_nonneg i), if_pos (by omega)]
      rfl
    refine ⟨_, _, rfl, _, ea, ?_⟩
    refine h3 L S0 σ _ _ _ E6 fun Γ4 S4 w2 z2 E7 ⟨j, ds4, ez, ⟨c4, hc4, hl4⟩, hj, q⟩ => ?_
    subst ez
    obtain ⟨a', vs2, ea', hv2, pv2, put2⟩ := E7.pop.mutSlot hc4 hl4
    rw [ea] at ea'
    cases ea'
    have E8 := put2 (vs2.set j u) (ds4.set j dy) (dqa_set E7.pop.dt j pv2)
    have hj' : j < vs2.length := by rw [pv2.len]; exact hj
    rw [putC_eq hc4] at q
    refine ⟨a, vs2, j, j, rfl, dp_int E7.dt, hv2, ?_, ?_⟩
    · unfold ixN
      rw [if_pos (Int.natCast_nonneg j), if_pos (by omega)]
      rfl
    exact ⟨rfl, kn _ _ _ E8.pop.pop q⟩
end Ld
set_option Elab.async false
set_option linter.all false
set_option maxRecDepth 100000
namespace Ld
open PySem PySem.Spec PyProof.Rows L2 Lx
section
variable {K : PySem.W.Frag} {Γ : List Cell} {Θ : List Tmp}
/-- list.count of whole numbers -/
theorem ve_lcount {ta te : TE} {Q : List Cell → Tmp → Prop}
    (h : VE K Γ Θ ta fun Γ1 x => (∃ ds, rd Γ1 x (.list ds)) ∧ VE K Γ1 (x :: Θ) te fun Γ2 y => ∃ (ns : List Int) (n : Int), rd Γ2 x (.list (ns.map .int)) ∧ y = .dt (.int n) ∧ Q Γ2 (.dt (.int (ns.count n : Nat)))) :
    VE K Γ Θ (tBM K "list" (rCntI K) ta (tCons te tNil)) Q := fun L S0 σ τ S Qv E k => h L S0 σ τ S _ E fun Γ1 S1 vx x E1 ⟨⟨ds0, hx0⟩, h1⟩ => by
  obtain ⟨a, us, ea, hu, _⟩ := rdB_l E1 hx0
  subst ea
  refine ⟨.inl ⟨rfl, us, .of hu⟩, h1 L S0 σ _ S1 _ E1 fun Γ2 S2 vy y E2 ⟨ns, n, hx, hy, q⟩ => ?_⟩
  subst hy
  obtain ⟨a', zs, ea, hs, p⟩ := dp_list (E2.pop.rd hx)
  cases ea
  have ez := dpa_ints p
  subst ez
  exact ⟨a, ns, n, rfl, by rw [dp_int E2.dt], .of hs, k Γ2 S2 _ _ (E2.pop.pop.push (.int _)) q⟩
end
end Ld
namespace Sh
open PySem PySem.Spec PyProof.Rows L2 Lx Ld
/-! how many rows need just so many places -/
def nj (n b : Nat) : Int := if b = 0 then (sby n 0 : Int) else (sby n b : Int) - (sby n (b - 1) : Int)
end Sh
set_option Elab.async false
set_option linter.all false
set_option maxRecDepth 100000
namespace Sh
open PySem PySem.Spec PyProof.Rows L2 Lx Ld
/-! pairs the wrong way round -/
end Sh
set_option Elab.async false
set_option linter.all false
set_option maxRecDepth 100000
namespace Sh
open PySem PySem.Spec PyProof.Rows L2 Lx Ld
/-! known rows: falling ones, one number behind all -/
/-! a pass of exchanges -/
/-! one number behind all -/
end Sh
set_option Elab.async false
set_option linter.all false
set_option maxRecDepth 100000
namespace Ld
open PySem PySem.Spec PyProof.Rows L2 Lx
section
variable {K : PySem.W.Frag} {Γ : List Cell} {Θ : List Tmp}
theorem dqa_erase {B : Hp} : ∀ (i : Nat) {vs : List V} {ds : List Dat}, DqAll B vs ds → DqAll B (vs.eraseIdx i) (ds.eraseIdx i) := fun i _ _ h => DqAll.eraseIdx i h
/-- xs.pop(i) -/
theorem ve_popAt {i : Nat} {te : TE} {Q : List Cell → Tmp → Prop} (h0 : ∃ ds, IsLs Γ i ds) (h : VE K Γ Θ te fun Γ1 y => ∃ (j : Nat) (d : Dat) (ds : List Dat), y = .dt (.int j) ∧ IsLs Γ1 i ds ∧ ds[j]? = some d ∧ j < 100000 ∧ Q (putC Γ1 i (ds.eraseIdx j)) (.dt d)) : VE K Γ Θ (tBM K "list" rPopAt (tVar i) (tCons te tNil)) Q := fun L S0 σ τ S Qv E k => by
  obtain ⟨ds0, c0, hc0, hl0⟩ := h0
  obtain ⟨a, ea, nb, us, hu, pu⟩ := E.own hc0 hl0
  refine ⟨_, ea, .inl ⟨rfl, us, .of hu⟩, h L S0 σ τ S _ E fun Γ1 S1 v y E1 ⟨j, d, ds, ey, ⟨c, hc, hl⟩, hd, hj, q⟩ => ?_⟩
  subst ey
  obtain ⟨a', vs, ea', hv, pv, put⟩ := E1.pop.mutSlot hc hl
  rw [ea] at ea'
  cases ea'
  obtain ⟨u, hu2, pu2⟩ := pv.get hd
  have hlt : j < vs.length := (List.getElem?_eq_some_iff.mp hu2).1
  refine ⟨a, vs, (j : Int), j, u, rfl, by rw [dp_int E1.dt], hv, by omega, by omega, ?_, hu2, ?_⟩
  · have h1 : ¬ ((j : Int) < 0) := by omega
    unfold seqIndex?
    simp only [h1, if_false]
    simp [hlt]
  · have E2 := put (vs.eraseIdx j) (ds.eraseIdx j) (dqa_erase j pv)
    rw [putC_eq hc] at q
    exact k _ _ _ _ (E2.push pu2) q
end
end Ld
namespace Lx
open PySem PySem.Spec PyProof.Rows L2 PySem.W
end Lx
namespace Ld
open PySem PySem.Spec PyProof.Rows L2 Lx
end Ld
namespace Sh
open PySem PySem.Spec PyProof.Rows L2 Lx Ld
open PySem.W (DatumOrd minOf minD Tup Datum listLt)
/-! the least of tuples -/
/-- three whole numbers -/
structure T where
  v : Int
  i : Int
  j : Int
def T.l (t : T) : List Int := [t.v, t.i, t.j]
def T.d (t : T) : Dat := .tuple (iL t.l)
structure T.ok (t : T) : Prop where
  v0 : 0 ≤ t.v
  v1 : t.v ≤ 90
  i0 : -1 ≤ t.i
  i1 : t.i ≤ 90
  j0 : -1 ≤ t.j
  j1 : t.j ≤ 90
end Sh
set_option Elab.async false
set_option linter.all false
set_option maxRecDepth 100000
namespace Sh
open PySem PySem.Spec PyProof.Rows L2 Lx Ld
/-! moves that mend -/
def mvN (N : List Int) (i j : Nat) : List Int := (N.take i ++ N.drop (i + 1)).take j ++ [N.getD i 0] ++ (N.take i ++ N.drop (i + 1)).drop j
end Sh
set_option Elab.async false
set_option linter.all false
set_option maxRecDepth 100000
namespace Sh
open PySem PySem.Spec PyProof.Rows L2 Lx Ld
/-! blocks -/
/-! stretches between places -/
end Sh
namespace Sh
open PySem PySem.Spec PyProof.Rows L2 Lx Ld
/-! marks put at some of the places -/
end Sh
set_option Elab.async false
set_option linter.all false
set_option maxRecDepth 100000
namespace Lx
open PySem PySem.Spec PyProof.Rows L2 PySem.W
end Lx
namespace Ld
open PySem PySem.Spec PyProof.Rows L2 Lx
section
variable {K : PySem.W.Frag} {Γ : List Cell} {Θ : List Tmp}
/-- not t, t a tuple -/
theorem ve_notTp {te : TE} {Q : List Cell → Tmp → Prop} (h : VE K Γ Θ te fun Γ1 x => ∃ ds, x = .dt (.tuple ds) ∧ Q Γ1 (.dt (.bool ds.isEmpty))) : VE K Γ Θ (tNotT K te) Q := fun L S0 σ τ S Qv E k => h L S0 σ τ S _ E fun Γ1 S1 v x E1 ⟨ds, hx, q⟩ => by
  subst hx
  obtain ⟨a, o, us, ev, _, ha, pa⟩ := dp_tup E1.dt
  subst ev
  refine ⟨!us.isEmpty, .inr (.inl ⟨us, sqt_f (E1.sub _ _ ha), rfl⟩), ?_⟩
  rw [isEmpty_len pa.len, Bool.not_not]
  exact k Γ1 S1 _ _ (E1.pop.push (.bl _)) q
end
end Ld
namespace Sh
open PySem PySem.Spec PyProof.Rows L2 Lx Ld
theorem kb_bb : kitB "bool" "bool" = some true := by decide +kernel
end Sh
namespace Ld
open PySem PySem.Spec PyProof.Rows L2 Lx
end Ld
namespace Sh
open PySem PySem.Spec PyProof.Rows L2 Lx Ld
end Sh
namespace Sh
open PySem PySem.Spec PyProof.Rows L2 Lx Ld
end Sh
namespace Sh
open PySem PySem.Spec PyProof.Rows L2 Lx Ld
end Sh
namespace Sh
open PySem PySem.Spec PyProof.Rows L2 Lx Ld
end Sh
set_option Elab.async false
set_option linter.all false
set_option maxRecDepth 100000
/-! defs called in an except suite that are handed the caught exception -/
namespace Xa
open PySem PySem.Spec PyProof.Rows L2
structure FnE (P : Program) (w : World) (K : PySem.W.Frag) (mg : Str → Option Value) (base : Heap) (k : Nat) (f : Addr) (fd : FuncData) (ps : List Str) (sp : Addr → Value → Option Addr → Sp) : Prop where
  len : ∀ a c d vs H Q E, sp a c d vs H Q E → vs.length = ps.length
  run : ∀ (A : Around) (outer : List Env) (s : Shared) (H : Hp) (args : Args) (us : List Value) (vs : List V) (Q : VK) (E : XK) (p : Addr × Obj) (cls : Value) (d : Option Addr), L2H.RoomH k A → L2H.Hot1 A p → L2N.Zn cls d p.2 → L2H.PinOk outer H s p → Env0 P w K mg base A outer s H → BindsTo s fd args (ps.zip us) → Vals vs us → sp p.1 cls d vs H Q E →
    codeAny (model P w) A (.call (.ref f) args) (CR CX0 outer P w H s Q E) s
theorem fn_ofE {P : Program} {w : World} {K : PySem.W.Frag} {mg : Str → Option Value} {base : Heap} {k : Nat} {f : Addr} {name qual : Str} {params : Arguments} {body : List Stmt} {scope : Scope} {dV kV doc pm cdv ct oc : Value} {an od : Option Addr}
    {osl : Array (Option Value)} {N ps : List Str} {sp : Addr → Value → Option Addr → Sp} (lk : K.lookup f = some ⟨oc, od, .func (PySem.W.fnOf name qual params body scope dV kV doc pm an cdv ct), osl⟩) (hcd : PySem.W.codeIn K cdv qual = true) (S : FnScope N ps scope)
    (len : ∀ a c d vs H Q E, sp a c d vs H Q E → vs.length = ps.length)
    (hbody : ∀ (A : Around) (outer : List Env) (s : Shared) (H : Hp) (vs : List V) (Q : VK) (E : XK) (p : Addr × Obj) (cls : Value) (d : Option Addr), L2H.Hot1 A p → L2N.Zn cls d p.2 → L2H.RoomH k (A.deeper (envOfC qual scope s.heap.objs.size f cdv)) → sp p.1 cls d vs H Q E →
      ∃ t, PSs (L2H.cxH CX0 P w K mg base N qual scope f cdv A outer s H E p) body t ∧ t { nx := fun _ H' => Q .non H', rt := Q } (L2.start N vs) H) :
    FnE P w K mg base (k + 1) f (PySem.W.fnOf name qual params body scope dV kV doc pm an cdv ct) ps sp := by
  refine ⟨len, fun A outer s H args us vs Q E p cls d hr hot hz hpin e0 hb r hsp => ?_⟩
  have hl := len _ _ _ _ _ _ _ hsp
  have KX : K.In s.heap := e0.mod.kin.keeps fun b o e => (e0.bs b o e).1
  have lim : s.heap.NoLimit := e0.mod.nolimit.keeps fun b o e => (e0.bs b o e).1
  have hkind : ∀ y ∈ ps.zip us, scope.names.lookup y.1 = some .local ∨ (scope.names.lookup y.1 = some .cell ∧ ((cellsFrom (s.heap.objs.size + 1) scope.names []).lookup y.1).isSome = true) := fun ⟨n, v⟩ hy => by
    rcases S.par n (List.of_mem_zip hy).1 with q | q
    · exact .inl q
    · exact .inr ⟨q, PySem.W.cellsFrom_some _ _ _ (.inl q)⟩
  refine codeAny_call_function hr.depth (KX _ _ lk) rfl S.co S.gen rfl (PySem.W.codeRec_of KX hcd) (hb _ _ _ _ ?_)
  refine wpAny_newFunctionEnv_cells S.kind hkind fun env he s1 x => ?_
  subst he
  refine ⟨lim.keeps x.toInCall.keep, codeAny_func ?_⟩
  obtain ⟨t, ht, hq⟩ := hbody A outer s H vs Q E p cls d hot hz (hr.deeper _) hsp
  have I : Inv (L2H.cxH CX0 P w K mg base N qual scope f cdv A outer s H E p) [] (L2.start N vs) H s1 := L2H.inv_startH S hpin e0 hl r x
  refine wpAny_mono (ht.run [] s1 (L2.start N vs) H _ I hq) (fun fl s' hs => ?_) fun e s' hs => hs
  have fin : ∀ {σ' : L2.St} {H' : Hp} {v : V} {u : Value}, Inv (L2H.cxH CX0 P w K mg base N qual scope f cdv A outer s H E p) [] σ' H' s' → RelV v u → Q v H' → CE outer P w H s Q u s' :=
    fun {σ' H' v u} J rv q => ⟨v, H', J.os, J.bare, J.base, J.hok, rv, q⟩
  cases fl with
  | ret u =>
    obtain ⟨v, σ', H', J, rv, q⟩ := hs
    exact fin J rv q
  | next =>
    obtain ⟨σ', H', J, q⟩ := hs
    exact fin (v := V.non) (u := Value.none) J rfl q
  | brk =>
    obtain ⟨_, _, _, q⟩ := hs
    exact False.elim q
  | cont =>
    obtain ⟨_, _, _, q⟩ := hs
    exact False.elim q
section
variable {X : Cx} {k : Nat} {f : Addr} {fd : FuncData} {ps : List Str} {sp : Addr → Value → Option Addr → Sp} {x : Str} {q pos : Pos} {e : Expr} {es : List Expr} {t : TA}
/-- g(e), e the caught exception, in the suite -/
theorem pe_callE {p : Addr × Obj} {cls : Value} {d : Option Addr} (F : FnE X.prog X.w X.K X.mg X.base k f fd ps sp) (hr : L2H.RoomH k X.A) (hot : L2H.Hot1 X.A p) (hp : p ∈ X.pn) (hz : L2N.Zn cls d p.2) (hg : Gl X x) (hm : X.mg x = some (.ref f)) (hk : PySem.W.keepIn X.K (.ref f) = true) (hb : Binds X.K fd ps [])
    (ha : PA X (e :: es) t) (hdb : (x == ("__debug__" : Str)) = false := by decide) (he : starEach (e :: es) X.env = (false, eval e X.env) :: starEach es X.env := by rfl) (hpl : (backTo pos (starEach es X.env)).any (·.1) = false := by rfl) :
    PE X (.Call (.Name x q) (e :: es) [] pos) (tCall (sp p.1 cls d) [] E0 t) := by
  refine ⟨fun pins s σ H Q I h => ?_⟩
  refine wpAny_Call_Name_kw (ld_glob I hg hm ?_ hdb)
  refine PySem.W.callWith_K (h₀ := X.base) I.ok.mod.kin hk (thn (ha.run pos pins s σ H _ I h) fun us s1 ⟨vs, H1, I1, r, qq⟩ => ⟨I1.kIn, ?_⟩) he hpl
  have qq : sp p.1 cls d vs H1 Q E0 := by
    have z : sp p.1 cls d (vs ++ []) H1 Q E0 := qq
    rwa [List.append_nil] at z
  have hl : us.length = ps.length := by rw [← r.length]; exact F.len _ _ _ _ _ _ _ qq
  have b := hb s1 us I1.kIn (by rw [List.append_nil]; exact hl)
  rw [List.append_nil] at b
  have P1 := I1.pin p (List.mem_append_left _ hp)
  have hpin : L2H.PinOk X.stack H1 s1 p := ⟨P1.1, P1.2.1, fun hm => (List.mem_cons.mp (I1.stkSub p.1 hm)).elim P1.2.2.1 P1.2.2.2.1, P1.2.2.2.2⟩
  refine wpAny_call (codeAny_mono (F.run X.A X.stack s1 H1 ⟨us, []⟩ us vs Q E0 p cls d hr hot hz hpin I1.env0 b r qq) fun r s' hq => ?_)
  cases r with
  | error e => exact (hq : False).elim
  | ok fl =>
    cases fl with
    | ret u => exact I1.after hq
    | next => exact False.elim hq
    | brk => exact False.elim hq
    | cont => exact False.elim hq
end
/-- isinstance(e, c), e the exception that is handled here -/
theorem call_isX {X : Cx} {a D : Addr} {oe : Obj} (hm : (a, oe) ∈ X.pn) (C : ExcC X.K D) (hz : Zc (.ref D) none oe) (hf : ∃ vs, oe.data = .fields vs) : CallR X (.builtin "isinstance") (rIsE X.K D a) := by
  intro pins s σ H xs us Q I r h
  obtain ⟨c, cv, b, rfl, hcv, e, q⟩ := h
  cases r with
  | cons rx rr =>
    cases rr with
    | cons rt rr =>
      cases rr
      cases rx
      have ec := hcv _ rt
      subst ec
      obtain ⟨hget, _⟩ := I.pin (a, oe) (List.mem_append.mpr (.inl hm))
      obtain ⟨vs, hv⟩ := hf
      have J : PySem.W.InstAt s.heap a oe D none := by
        obtain ⟨oc, od, oda, osl⟩ := oe
        obtain ⟨h1, h2⟩ := hz
        dsimp only at h1 h2 hv
        subst h1 h2 hv
        exact ⟨hget, rfl, rfl, trivial⟩
      exact PySem.W.kia_one (PySem.W.handS_kitx_exc C.hg C.hk C.hs C.hd C.ha C.hn C.ht C.hm) I.kIn J e (fun z => nomatch z) fun tk => ⟨.bl b, H, I.kept (t' := tk) fun _ _ z => z, rfl, q⟩
/-! list.count of flat values -/
def rCntV (K : PySem.W.Frag) : V → List V → Hp → VK → Prop := fun x xs H Q => ∃ (a : Addr) (ys : List V) (y : V), x = .ref a ∧ xs = [y] ∧ SqL K H a ys ∧ flatV y = true ∧ ys.all flatV = true ∧ Q (.int (ys.countP (fun z => eqV z y) : Nat)) H
theorem cnt_eq {y : V} : ∀ {ys : List V} {us : List Value}, Vals ys us → ys.all flatV = true → us.countP (eqU y) = ys.countP fun z => eqV z y
  | _, _, .nil, _ => rfl
  | z :: ys, u :: us, .cons r t, f => by
    rw [List.all_cons, Bool.and_eq_true] at f
    rw [List.countP_cons, List.countP_cons, cnt_eq t f.2, eqU_of r f.1]
theorem mt_lcountV {X : Cx} : MtR X "list.count" (rCntV X.K) := by
  intro pins s σ H x xs v us Q I rx rxs h
  obtain ⟨a, ys, y, rfl, rfl, hs, fy, fys, q⟩ := h
  cases rx
  cases rxs with
  | cons ry rt =>
    rename_i uy ut
    cases rt
    obtain ⟨its, rv, ⟨⟨cls, dd, data, sl⟩, n, ho, hc, hdn, hd⟩, hlen⟩ := I.list hs
    simp only at hc hd
    subst hc hd
    refine call_meets PySem.F.slot_list_count ⟨_, ho, rfl⟩ PySem.F.entry_list_count (PySem.F.args_list_count_2 _ _)
      (SeqAt.list_countAt a its.toArray n dd sl uy (eqU y)) ⟨ho, fun u' hu' => mem_eqAt ry fy rv fys u' (by simpa using hu'), ?_⟩
    have ec : its.toArray.toList.countP (eqU y) = ys.countP fun z => eqV z y := cnt_eq rv fys
    refine ⟨.int (ys.countP (fun z => eqV z y) : Nat), H, I.tok _, ⟨s.toks, ?_⟩, q⟩
    show Value.int ((its.toArray.toList.countP (eqU y) : Nat) : Int) s.toks = _
    rw [ec]
/-! exceptions made where nothing is handled -/
section
variable {X : Cx}
theorem takes0N : L2N.Takes X (fun _ _ _ _ => False) := fun _ _ x => by
  obtain ⟨_, _, _, _, _, _, _, _, _, _, _, _, _, _, _, _, z⟩ := x
  exact z.elim
theorem pmk_n1 {C : Addr} {bmB : List Value} {B newId initId : String} {x : Str} {e : Expr} {ta : TE} {p pos : Pos} (F : ExcBaseFacts B newId initId bmB) (q : PySem.W.excIn X.K C bmB newId = true) (gC : X.mg x = some (.ref C)) (kC : PySem.W.keepIn X.K (.ref C) = true) (r : Raises X (.ref C)) (hg : Gl X x)
    (he : PE X e ta) (hs : starEach [e] X.env = (false, eval e X.env) :: starEach [] X.env := by rfl) (hdb : (x == ("__debug__" : Str)) = false := by decide) :
    L2N.PMk X (.Call (.Name x p) [e] [] pos) (fun σ H Q => ta σ H fun _ H1 => Q (.ref C) none H1) := by
  intro pins s σ H Q I h
  refine wpAny_Call_Name_kw (ld_glob I hg gC ?_ hdb)
  refine PySem.W.callWith_K (h₀ := X.base) I.ok.mod.kin kC ?_ hs (by rfl)
  rw [hs]
  show wpAny _ _ (spliced ((false, eval e X.env) :: backTo pos (starEach [] X.env))) _ _ s
  refine Calls.spliced_cons (thn (he.run pins s σ H _ I h) fun u s1 ⟨v, H1, I1, r1, q1⟩ => ?_)
  refine Calls.spliced_nil ⟨I1.kIn, ?_⟩
  show wpAny _ _ (call (.ref C) [u]) _ _ _
  obtain ⟨bm, N, nm, qn, bs, hdct, sn, sub, ab, col, dd, k0, k1, k2, k3, k5, mN, hC, hN, hni, T⟩ := exc_obj I1.kIn q
  refine wpAny_call_exc_subT F T hC hN hni (fun h' e hm => ?_) (by show 1 ≤ sizeLine; rw [sizeLine_eq]; omega)
  exact L2N.mk_of I1 hm r q1 (I1.hok.gone hm.new)
end
end Xa
set_option Elab.async false
set_option linter.all false
set_option maxRecDepth 100000
namespace Ld
open PySem PySem.Spec PyProof.Rows L2 Lx
/-! defs that raise -/
abbrev BxN (P : Program) (w : World) (K : PySem.W.Frag) (mg : Str → Option Value) (base : Heap) (N : List Str) (qual : Str) (st : Stmt) (f : Addr) (cdv : Value) (A : Around) (outer : List PySem.Env) (s : Shared) (H : Hp) (E : XK) : Cx := cxOf (L2N.CX P w) P w K mg base N qual (defScope st) f cdv A outer s H E
/-- an own exception class over ValueError -/
structure ExcF (K : PySem.W.Frag) (mg : Str → Option Value) (x : Str) (C : Addr) : Prop where
  g : mg x = some (.ref C)
  x : PySem.W.excIn K C He.veBase "ValueError.__new__" = true
  k : PySem.W.keepIn K (.ref C) = true
  b : PySem.W.subIn K (.ref C) (.type "BaseException") = some true
  t : PySem.W.typeIn K (.ref C) = some (.type "type")
def spR {α : Type} (K : PySem.W.Frag) (A : α → List Arg) (pre : α → Prop) (C : α → Addr) : Sp := fun vs H _ E => ∃ (B : Hp) (x : α), Same B H ∧ ArgsOk K B vs (A x) ∧ pre x ∧
  ∀ S', Gr L0 ⟨B, H⟩ S' → Same S'.b S'.h → E (.ref (C x)) none S'.h
def XF (E : XK) (L : Addr → Prop) (S0 : Hs) (C : Addr) : Prop := ∀ S', Gr L S0 S' → Same S'.b S'.h → E (.ref C) none S'.h
section
variable (K : PySem.W.Frag) (L : Addr → Prop) (S0 : Hs) (Γ : List Cell)
def VEr (Θ : List Tmp) (t : TE) : Prop := ∀ (σ : L2.St) (τ : List V) (S : Hs) (Qv : VK), Env K L S0 Γ Θ σ τ S → t σ S.h Qv
def VIr (Θ : List Tmp) (t : TI) : Prop := ∀ (σ : L2.St) (τ : List V) (S : Hs) (Qv : It → Hp → Prop), Env K L S0 Γ Θ σ τ S → t σ S.h Qv
def VSr (t : TS) : Prop := ∀ (ss : List Dat) (σ : L2.St) (τ : List V) (S : Hs) (D : Ends), Env K L S0 Γ (srcT ss) σ τ S → t D σ S.h
end
section
variable {K : PySem.W.Frag} {L : Addr → Prop} {S0 : Hs} {Γ : List Cell} {Θ : List Tmp}
theorem sr_first {s1 s2 : TS} (h : VSr K L S0 Γ s1) : VSr K L S0 Γ (tSeq s1 s2) := fun ss σ τ S D E => h ss σ τ S _ E
theorem sr_seq {s1 s2 : TS} (h : VSs K Γ s1 ⟨fun Γ' => VSr K L S0 Γ' s2, fun _ _ => False, fun _ => False, fun _ => False⟩) : VSr K L S0 Γ (tSeq s1 s2) := fun ss σ τ S D E =>
  h ss L S0 σ τ S _ E (fun Γ' σ' S' E' q => q ss σ' τ S' _ E') (fun _ _ _ _ _ _ _ z => z.elim) (fun _ _ _ _ z => z.elim) (fun _ _ _ _ z => z.elim)
theorem sr_if {tt : TT} {ta tb : TS} (h : ∀ ss, VT K Γ (srcT ss) tt fun Γ1 b => (b = true → VSr K L S0 Γ1 ta) ∧ (b = false → VSr K L S0 Γ1 tb)) : VSr K L S0 Γ (tIfS tt ta tb) := fun ss σ τ S D E => h ss L S0 σ τ S _ E fun Γ1 S1 b E1 q => by
  cases b with
  | true => rw [if_pos rfl]; exact q.1 rfl ss σ τ S1 D E1
  | false => rw [if_neg Bool.false_ne_true]; exact q.2 rfl ss σ τ S1 D E1
theorem sr_ret {te : TE} (h : ∀ ss, VEr K L S0 Γ (srcT ss) te) : VSr K L S0 Γ (tRet te) := fun ss σ τ S D E => h ss σ τ S _ E
theorem sr_drop {te : TE} (h : ∀ ss, VEr K L S0 Γ (srcT ss) te) : VSr K L S0 Γ (tDrop te) := fun ss σ τ S D E => h ss σ τ S _ E
theorem sr_asg {te : TE} {g : TG} (h : ∀ ss, VEr K L S0 Γ (srcT ss) te) : VSr K L S0 Γ (tAsg te g) := fun ss σ τ S D E => h ss σ τ S _ E
theorem sr_raise {ta : TE} {E : XK} {C : Addr} (hE : XF E L S0 C) (ha : ∀ ss σ τ S, Env K L S0 Γ (srcT ss) σ τ S → ∀ Q : VK, (∀ v, Q v S.h) → ta σ S.h Q) :
    VSr K L S0 Γ (fun _ σ H => ta σ H fun _ H1 => E (.ref C) none H1) := fun ss σ τ S D Ev => ha ss σ τ S Ev _ fun _ => hE S Ev.gr Ev.sub
theorem er_call {α : Type} {A : α → List Arg} {pre : α → Prop} {C : α → Addr} {E : XK} {t : TA} (h : VAX K Γ Θ t fun Γ1 as => ∃ x, as = A x ∧ pre x ∧ XF E L S0 (C x)) : VEr K L S0 Γ Θ (L2.tCallS (spR K A pre C) (fun _ => E) t) := fun σ τ S Qv E0 => h L S0 σ τ S _ E0 fun Γ1 S1 vs as E1 p ⟨x, ex, hp, hE⟩ => by
  subst ex
  exact ⟨S1.b, x, E1.sub, p, hp, fun S' g s => hE S' (E1.gr.trans0 g) s⟩
theorem er_op {r : R2} {ta tb : TE} (h : VEr K L S0 Γ Θ ta) : VEr K L S0 Γ Θ (tOp r ta tb) := fun σ τ S Qv E => h σ τ S _ E
theorem ir_list {te : TE} (h : VEr K L S0 Γ Θ te) : VIr K L S0 Γ Θ (iList K te) := fun σ τ S Qv E => h σ τ S _ E
end
section
variable {P : Program} {w : World} {K : PySem.W.Frag} {mg : Str → Option Value} {base : Heap}
theorem ok_R {α : Type} {x qual : Str} {st : Stmt} {f : Addr} {fd : FuncData} {N ps : List Str} {k : Nat} {Ar : α → List Arg} {pre : α → Prop} {C : α → Addr} (F : Fun K x qual st f fd) (Sc : FnScope N ps (defScope st)) (hl : ∀ x, (Ar x).length = ps.length) (hN : ps.length ≤ N.length)
    (hb : ∀ (cdv : Value) (A : Around) (outer : List PySem.Env) (s : Shared) (H : Hp) (E : XK), Room k (A.deeper (envOfC qual (defScope st) s.heap.objs.size f cdv)) →
      ∃ t, PSs (BxN P w K mg base N qual st f cdv A outer s H E) (defBody st) t ∧ ∀ x S0, pre x → XF E L0 S0 (C x) → VSr K L0 S0 (cells0 N ((Ar x).map Arg.cell)) t) : FnOk P w K mg base (L2N.CX P w) (k + 1) f fd ps (spR K Ar pre C) := by
  have hlen : ∀ vs H Q E, spR K Ar pre C vs H Q E → vs.length = ps.length := fun vs H Q E h => by
    obtain ⟨B, x, _, p, hp, _⟩ := h
    rw [p.len, hl x]
  obtain ⟨oc, od, kV, doc, pm, an, cdv, ct, osl, rfl, lk, hcd⟩ := F.ex
  refine fn_of lk hcd Sc hlen fun A outer s H vs Q E hr h => ?_
  obtain ⟨t, ht, hv⟩ := hb cdv A outer s H E hr
  obtain ⟨B, x, sub, p, hp, q⟩ := h
  have hlv : vs.length ≤ N.length := by rw [p.len, hl x]; exact hN
  exact ⟨t, ht, hv x ⟨B, H⟩ hp q [] (L2.start N vs) [] ⟨B, H⟩ _ (env_start sub p hlv)⟩
/-- .. and what is called -/
structure CalR (P : Program) (w : World) (K : PySem.W.Frag) (mg : Str → Option Value) (base : Heap) (k : Nat) (x : Str) (ps : List Str) (sp : Sp) (f : Addr) (fd : FuncData) : Prop where
  G : FnOk P w K mg base (L2N.CX P w) k f fd ps sp
  g : mg x = some (.ref f)
  kp : PySem.W.keepIn K (.ref f) = true
  b : Binds K fd ps []
theorem Df.calR {k : Nat} {x : Str} {st : Stmt} {ps : List Str} {sp : Sp} {f : Addr} {fd : FuncData} (D : Df K mg x st ps f fd) (G : FnOk P w K mg base (L2N.CX P w) k f fd ps sp) : CalR P w K mg base k x ps sp f fd := ⟨G, D.g, D.F.kp, D.b⟩
/-- one promise or the other -/
theorem FnOk_or {CX : CXT} {k : Nat} {f : Addr} {fd : FuncData} {ps : List Str} {sp sp' : Sp} (F : FnOk P w K mg base CX k f fd ps sp) (G : FnOk P w K mg base CX k f fd ps sp') : FnOk P w K mg base CX k f fd ps (fun vs H Q E => sp vs H Q E ∨ sp' vs H Q E) :=
  ⟨fun vs H Q E h => h.elim (F.len vs H Q E) (G.len vs H Q E), fun A outer s H args us vs Q E hr he hb hv h => h.elim (fun h => F.run A outer s H args us vs Q E hr he hb hv h) fun h => G.run A outer s H args us vs Q E hr he hb hv h⟩
end
section
variable {K : PySem.W.Frag} {Γ : List Cell} {Θ : List Tmp}
theorem ve_callOr {α β : Type} {A : α → List Arg} {pre : α → Prop} {post : α → Dat → Prop} {A' : β → List Arg} {pre' : β → Prop} {post' : β → Dat → Prop} {X : XK} {t : TA} {Q : List Cell → Tmp → Prop}
    (h : VAX K Γ Θ t fun Γ1 as => (∃ x, as = A x ∧ pre x ∧ ∀ d, post x d → Q Γ1 (.dt d)) ∨ ∃ x, as = A' x ∧ pre' x ∧ ∀ d, post' x d → Q Γ1 (.dt d)) : VE K Γ Θ (tCall (fun vs H Q E => spG K A pre post vs H Q E ∨ spG K A' pre' post' vs H Q E) [] X t) Q := fun L S0 σ τ S Qv E k => h L S0 σ τ S _ E fun Γ1 S1 vs as E1 p hx => by
  show spG K A pre post (vs ++ []) S1.h Qv X ∨ spG K A' pre' post' (vs ++ []) S1.h Qv X
  rw [List.append_nil]
  rcases hx with ⟨x, ex, hp, q⟩ | ⟨x, ex, hp, q⟩
  · subst ex
    exact .inl ⟨S1.b, x, E1.sub, p, hp, fun v S' d g s hd hq => k Γ1 S' v _ ((E1.grow g s).push hd) (q d hq)⟩
  · subst ex
    exact .inr ⟨S1.b, x, E1.sub, p, hp, fun v S' d g s hd hq => k Γ1 S' v _ ((E1.grow g s).push hd) (q d hq)⟩
/-- what a def is told that is handed a caught exception, and tells -/
def spE (idx : Addr → Option Int) : Addr → Value → Option Addr → Sp := fun a cl d vs H Q _ => vs = [V.ref a] ∧ H a = none ∧ d = none ∧ ∃ (D : Addr) (n : Int), cl = .ref D ∧ idx D = some n ∧ ∃ B, Same B H ∧
  ∀ v S', Gr L0 ⟨B, H⟩ S' → Same S'.b S'.h → Dq S'.b v (.tuple [.str "refused", .int n]) → Q v S'.h
end
end Ld
set_option Elab.async false
set_option linter.all false
set_option maxRecDepth 100000
namespace Ld
open PySem PySem.Spec PyProof.Rows L2 Lx
/-- what is known of a class of errors: it is the n-th of these -/
structure KitF (K : PySem.W.Frag) (X : Addr) (n : Int) (cs : List Addr) : Prop where
  e : ExcC K X
  v : PySem.W.kitOne K (.ref X) (.type "ValueError") = some true
  o : ∀ (j : Nat) C, cs[j]? = some C → PySem.W.kitOne K (.ref X) (.ref C) = some (decide ((j : Int) = n))
  n0 : 0 ≤ n
  n1 : n < 12
theorem is_rd {K : PySem.W.Frag} {X a C : Addr} {b : Bool} {σ : L2.St} {H : Hp} {Q : VK} (h0 : σ[0]? = some (some (.ref a))) (hk : PySem.W.kitOne K (.ref X) (.ref C) = some b) (q : Q (.bl b) H) : tCB (rIsE K X a) (tCons (tVar 0) (tCons (tC (.ref C)) tNil)) σ H Q :=
  ⟨_, h0, ⟨.ref C, .ref C, b, rfl, fun u r => r, hk, q⟩⟩
theorem is_rdV {K : PySem.W.Frag} {X a : Addr} {b : Bool} {σ : L2.St} {H : Hp} {Q : VK} (h0 : σ[0]? = some (some (.ref a))) (hk : PySem.W.kitOne K (.ref X) (.type "ValueError") = some b) (q : Q (.bl b) H) : tCB (rIsE K X a) (tCons (tVar 0) (tCons (tC (.ty "ValueError")) tNil)) σ H Q :=
  ⟨_, h0, ⟨.ty "ValueError", .type "ValueError", b, rfl, fun u r => r, hk, q⟩⟩
end Ld
namespace Ld
open PySem PySem.Spec PyProof.Rows L2 Lx
theorem idx_pre {ys : List V} {y : V} {j : Nat} (h : (ys.take j).all (fun z => !eqV z y) = true) : ∀ (m : Nat) (z' : V), m < j → ys[m]? = some z' → eqV z' y = false := fun m z' hm hz => by
  have hz2 : (ys.take j)[m]? = some z' := by rw [List.getElem?_take_of_lt hm]; exact hz
  have := List.all_eq_true.mp h z' (List.mem_of_getElem? hz2)
  simpa using this
end Ld
namespace Ld
open PySem PySem.Spec PyProof.Rows L2 Lx
theorem ite_f {c : Bool} {A B : Prop} (h : c = false) (q : B) : if c = true then A else B := by rw [h, if_neg Bool.false_ne_true]; exact q
end Ld
namespace He
open PySem PySem.Spec PyProof.Rows L2
theorem xcB_ok {x : Str} {K : PySem.W.Frag} (c : xcB x K = true) : ExcC K (ga K x) := by
  obtain ⟨c1, c⟩ := ba c
  obtain ⟨c2, c⟩ := ba c
  obtain ⟨c3, c⟩ := ba c
  obtain ⟨c4, c⟩ := ba c
  obtain ⟨c5, c⟩ := ba c
  obtain ⟨c6, c⟩ := ba c
  obtain ⟨c7, c8⟩ := ba c
  exact ⟨eqO_ok c1, eqO_ok c2, of_decide_eq_true c3, c4, eqO_ok c5, eqO_ok c6, of_decide_eq_true c7, of_decide_eq_true c8⟩
theorem ktB_ok {x y : Str} {b : Bool} {K : PySem.W.Frag} (c : ktB x y b K = true) : PySem.W.kitOne K (.ref (ga K x)) (.ref (ga K y)) = some b := of_decide_eq_true c
theorem kvB_ok {x : Str} {K : PySem.W.Frag} (c : kvB x K = true) : PySem.W.kitOne K (.ref (ga K x)) (.type "ValueError") = some true := of_decide_eq_true c
theorem klB_ok {x : Str} {n : Nat} {ys : List Str} {K : PySem.W.Frag} (hn : n < 12) (c : klB x n ys K = true) : Ld.KitF K (ga K x) n (ys.map (ga K)) := by
  obtain ⟨c1, c⟩ := ba c
  obtain ⟨c2, c3⟩ := ba c
  refine ⟨xcB_ok c1, kvB_ok c2, fun j C h => ?_, by omega, by omega⟩
  rw [List.getElem?_map] at h
  obtain ⟨y, hy, rfl⟩ := Option.map_eq_some_iff.mp h
  have := List.all_eq_true.mp c3 (y, j) (List.mem_zipIdx_iff_getElem?.mpr hy)
  exact ktB_ok this
end He
namespace Ld
open PySem PySem.Spec PyProof.Rows L2 Lx
theorem ExcF.of {K : PySem.W.Frag} {h : Heap} {mg : Str → Option Value} (X : K.In h) (G : h.Ns mainGlobals mg) {x : Str} (g : (He.Fa.glo x).ok K = true) (c : (He.Fa.exc x).ok K = true) : ExcF K mg x (He.ga K x) := by
  obtain ⟨h1, h2, h3, h4⟩ := He.exc_ok c
  exact ⟨He.glo_ok X G g, h1, h2, h3, h4⟩
end Ld
set_option Elab.async false
set_option linter.all false
set_option maxRecDepth 100000
/-! an error's number among its classes -/
namespace Ld
open PySem PySem.Spec PyProof.Rows L2 Lx
theorem KitF.one {K : PySem.W.Frag} {X : Addr} {n m : Int} {cs : List Addr} (h : KitF K X n cs) (g : KitF K X m cs) (hl : cs.length = 12) : m = n := by
  have h0 := h.n0
  have h1 := h.n1
  have hi : n.toNat < cs.length := by omega
  have e1 := h.o n.toNat _ (List.getElem?_eq_getElem hi)
  have e2 := g.o n.toNat _ (List.getElem?_eq_getElem hi)
  rw [e1] at e2
  have e3 := Option.some.inj e2
  rw [decide_eq_true (by omega : ((n.toNat : Nat) : Int) = n)] at e3
  have e4 := of_decide_eq_true e3.symm
  omega
open Classical in
noncomputable def idxK (K : PySem.W.Frag) (cs : List Addr) (X : Addr) : Option Int := if h : ∃ n, KitF K X n cs then some h.choose else none
theorem idxK_kit {K : PySem.W.Frag} {cs : List Addr} {X : Addr} {n : Int} (h : idxK K cs X = some n) : KitF K X n cs := by
  unfold idxK at h
  split at h
  · rename_i w
    cases h
    exact w.choose_spec
  · cases h
theorem idxK_of {K : PySem.W.Frag} {cs : List Addr} {X : Addr} {n : Int} (hl : cs.length = 12) (h : KitF K X n cs) : idxK K cs X = some n := by
  have w : ∃ n, KitF K X n cs := ⟨n, h⟩
  unfold idxK
  rw [dif_pos w, h.one w.choose_spec hl]
end Ld
set_option Elab.async false
set_option linter.all false
set_option maxRecDepth 100000
namespace Ld
open PySem PySem.Spec PyProof.Rows L2 Lx
open PySem.W (AllAlike Sortable dataLe EachIs sorted_data)
/-! sorted of data, one item of any kind too -/
/-! t < u of tuples of ints; d not in l -/
end Ld
namespace Ld
open PySem PySem.Spec PyProof.Rows L2 Lx
theorem roomX {k : Nat} {A : Around} (r : Room k A) (h : Option Value) : L2H.RoomH k (A.mark h) := ⟨r.dp, r.un⟩
end Ld
namespace Ld
open PySem PySem.Spec PyProof.Rows L2 Lx
theorem ve_callOrF {K : PySem.W.Frag} {Γ : List Cell} {Θ : List Tmp} {α β : Type} {A : α → List Arg} {pre : α → Prop} {g : α → Dat} {A' : β → List Arg} {pre' : β → Prop} {g' : β → Dat} {X : XK} {t : TA} {Q : List Cell → Tmp → Prop}
    (h : VAX K Γ Θ t fun Γ1 as => (∃ x, as = A x ∧ pre x ∧ Q Γ1 (.dt (g x))) ∨ ∃ x, as = A' x ∧ pre' x ∧ Q Γ1 (.dt (g' x))) : VE K Γ Θ (tCall (fun vs H Q E => spF K A pre g vs H Q E ∨ spF K A' pre' g' vs H Q E) [] X t) Q := by
  refine ve_callOr (post := fun x d => d = g x) (post' := fun x d => d = g' x) fun L S0 σ τ S Qv E k => h L S0 σ τ S Qv E fun Γ1 S1 vs as E1 p q => k Γ1 S1 vs as E1 p ?_
  rcases q with ⟨x, e, hp, q⟩ | ⟨x, e, hp, q⟩
  · exact .inl ⟨x, e, hp, fun d ed => by rw [ed]; exact q⟩
  · exact .inr ⟨x, e, hp, fun d ed => by rw [ed]; exact q⟩
end Ld
namespace Ld
open PySem PySem.Spec PyProof.Rows L2 Lx
end Ld
namespace Ld
open PySem PySem.Spec PyProof.Rows L2 Lx
theorem vt_cutT {K : PySem.W.Frag} {Γ : List Cell} {Θ : List Tmp} {t : TT} {Q : List Cell → Bool → Prop} (b : Bool) (h : VT K Γ Θ t fun Γ1 c => c = b ∧ Γ1 = Γ) (q : Q Γ b) : VT K Γ Θ t Q := vt_mono h fun Γ1 c ⟨e1, e2⟩ => by rw [e1, e2]; exact q
end Ld
set_option Elab.async false
set_option linter.all false
set_option maxRecDepth 100000
set_option autoImplicit false
namespace Sh
open PySem PySem.Spec PyProof.Rows L2 Lx Ld
/-! the rows ahead -/
/-! orders of tuples -/
/-! every order -/
end Sh
namespace Sh
open PySem PySem.Spec PyProof.Rows L2 Lx Ld
open PySem.W (DatumOrd Tup Datum listLt dataLe dataLt)
end Sh
namespace Sh
open PySem PySem.Spec PyProof.Rows L2 Lx Ld
end Sh
set_option Elab.async false
set_option linter.all false
set_option maxRecDepth 100000
/-! a def out of a table, called -/
namespace Xa
open PySem PySem.Spec PyProof.Rows L2
def tCallAny (T : Addr → Sp → Prop) (E : L2.St → XK) (tf : TE) (ta : TA) : TE := fun σ H Q => tf σ H fun v H1 => ∃ f sp, v = .ref f ∧ T f sp ∧ ta σ H1 fun vs H2 => sp vs H2 Q (E σ)
structure Callee (X : Cx) (E : L2.St → XK) (f : Addr) (sp : Sp) : Prop where
  ex : ∃ (CX : CXT) (k : Nat) (fd : FuncData) (ps : List Str), FnOk X.prog X.w X.K X.mg X.base CX k f fd ps sp ∧ Room k X.A ∧ PySem.W.keepIn X.K (.ref f) = true ∧ Binds X.K fd ps [] ∧ ∀ σ, PassesAt CX X σ (E σ)
theorem pe_callAny {X : Cx} {T : Addr → Sp → Prop} {E : L2.St → XK} {fe e : Expr} {es : List Expr} {tf : TE} {ta : TA} {pos : Pos} (hT : ∀ f sp, T f sp → Callee X E f sp) (hf : PE X fe tf) (ha : PA X (e :: es) ta)
    (hev : eval (.Call fe (e :: es) [] pos) X.env = (do callWith pos (← eval fe X.env) [] (backTo pos (starEach (e :: es) X.env)) (backToKw pos (keywordEach [] X.env))) := by rfl)
    (he : starEach (e :: es) X.env = (false, eval e X.env) :: starEach es X.env := by rfl) (hpl : (backTo pos (starEach es X.env)).any (·.1) = false := by rfl) : PE X (.Call fe (e :: es) [] pos) (tCallAny T E tf ta) := by
  refine ⟨fun pins s σ H Q I h => ?_⟩
  rw [hev]
  refine wpAny_bind (thn (hf.run pins s σ H _ I h) fun v s1 hv => ?_)
  obtain ⟨x, H1, I1, r1, f, sp, rfl, hT1, q⟩ := hv
  cases r1
  obtain ⟨CX, k, fd, ps, F, hr, hk, hb, hx⟩ := (hT f sp hT1).ex
  refine PySem.W.callWith_K (h₀ := X.base) I1.ok.mod.kin hk (thn (ha.run pos pins s1 σ H1 _ I1 q) fun us s2 ⟨vs, H2, I2, r2, q2⟩ => ⟨I2.kIn, ?_⟩) he hpl
  exact run_fnS F hr hb (hx σ) I2 r2 q2
end Xa
namespace Ld
open PySem PySem.Spec PyProof.Rows L2 Lx
def tRefs : List Addr → TA
  | [] => tNil
  | f :: fs => tCons (tC (.ref f)) (tRefs fs)
theorem tRefs_ok : ∀ (fs : List Addr) (σ : L2.St) (H : Hp) (Q : List V → Hp → Prop), Q (fs.map V.ref) H → tRefs fs σ H Q
  | [], σ, H, Q, q => q
  | f :: fs, σ, H, Q, q => by
    show tRefs fs σ H _
    exact tRefs_ok fs σ H _ q
section
variable {K : PySem.W.Frag} {Γ : List Cell} {Θ : List Tmp}
theorem newRefs {L : Addr → Prop} {S0 S : Hs} {σ : L2.St} {τ : List V} {l : Addr} {xs : List V} (E : Env K L S0 Γ Θ σ τ S) (hl : S.h l = none) : Env K L S0 Γ Θ σ τ ⟨S.b, upd S.h l (.lst xs)⟩ := by
  have kp : ∀ a o, S.h a = some o → upd S.h l (.lst xs) a = some o := fun a o e => by rw [upd_ne (ne_of_none e hl)]; exact e
  refine E.grow ⟨fun _ _ e => e, fun a o _ e => kp a o e, fun a e _ => e, fun a na => ?_⟩ fun a o e => kp a o (E.sub a o e)
  cases e : S.h a with
  | none => exact absurd e na
  | some o =>
    show upd S.h l (.lst xs) a ≠ none
    rw [kp a o e]
    exact fun z => nomatch z
end
end Ld
set_option Elab.async false
set_option linter.all false
set_option maxRecDepth 100000
namespace Sh
open PySem PySem.Spec PyProof.Rows L2 Lx Ld
/-! things that are no rows -/
def isI : Dat → Bool
  | .int _ => true
  | _ => false
def isK : Dat → Bool
  | .dict _ => false
  | _ => true
end Sh
namespace RZ
open PySem PySem.Spec PyProof.Rows L2
/-- len(set(l)), ints that may be alike -/
def tLenSetG (K : PySem.W.Frag) (ta : TE) : TE := fun σ H Q => ta σ H fun x H1 => ∃ (l : Addr) (ns : List Int), x = .ref l ∧ SqL K H1 l (ns.map V.int) ∧ ns.length ≤ 4000 ∧ Q (.int ((firstMet (fun i => ns.getD i 0) ns.length).length : Nat)) H1
theorem pe_lenSetG {X : Cx} {a : Expr} {ta : TE} {p p2 q pos : Pos} (hg : Gl X "len") (hm : X.mg "len" = none) (hg2 : Gl X "set") (hm2 : X.mg "set" = none) (ha : PE X a ta) (hc : X.calm = true := by rfl)
    (na : starEach [a] X.env = (false, eval a X.env) :: starEach [] X.env := by rfl) : PE X (.Call (.Name "len" p) [.Call (.Name "set" p2) [a] [] q] [] pos) (tLenSetG X.K ta) := by
  refine ⟨fun pins s σ H Q I h => ?_⟩
  refine Call_ (ld_blt I hg hm PySem.boot_len ?_)
  refine callWith_builtin1 (args_cons ?_ rfl) rfl rfl
  refine Call_ (ld_blt I hg2 hm2 boot_set ?_)
  refine callWith_type1 (args_cons (thn (ha.run pins s σ H _ I h) fun v s1 ⟨x, H1, I1, r1, q1⟩ => args_nil ?_) na) na rfl
  obtain ⟨l, ns, rfl, hq, hl, q1⟩ := q1
  cases r1
  obtain ⟨its, r, pl, hz⟩ := I1.list hq
  have hlen : its.toArray.size = ns.length := by rw [List.size_toArray, ← r.length, List.length_map]
  refine call_set_list (I1.ok.hd hc) pl.isList (by simpa using intsAre_vals r) (by rw [hlen]; unfold scanBound; omega) fun h' tk hS hk => ?_
  refine args_nil ?_
  rw [hlen] at hS
  obtain ⟨o, es, ep, t, ho, hex, hd, _, _, _, hf, hn⟩ := hS
  have I2 : Inv X pins σ H1 { s1 with heap := h', toks := tk } := I1.kept fun b o e => hk b o (Heap.lt_size e) e
  have hle := firstMet_length_le (fun i => ns.getD i 0) ns.length
  exact call_len_set ho hex hd hf (by rw [hn] <;> omega) ⟨.int _, H1, I2.tok _, ⟨_, by rw [hn]⟩, q1⟩
end RZ
namespace Ld
open PySem PySem.Spec PyProof.Rows L2 Lx
theorem ve_lenSetG {K : PySem.W.Frag} {Γ : List Cell} {Θ : List Tmp} {ta : TE} {Q : List Cell → Tmp → Prop} (h : VE K Γ Θ ta fun Γ1 x => ∃ ns : List Int, rd Γ1 x (.list (ns.map .int)) ∧ ns.length ≤ 4000 ∧ Q Γ1 (.dt (.int ((firstMet (fun i => ns.getD i 0) ns.length).length : Nat)))) : VE K Γ Θ (RZ.tLenSetG K ta) Q := fun L S0 σ τ S Qv E k => h L S0 σ τ S _ E fun Γ1 S1 v x E1 ⟨ns, hx, h2, q⟩ => by
  obtain ⟨a, e, h⟩ := intsL E1 hx
  exact ⟨a, ns, e, h, h2, k Γ1 S1 _ _ (E1.pop.push (.int _)) q⟩
end Ld
namespace Ld
open PySem PySem.Spec PyProof.Rows L2 Lx
section
variable {P : Program} {w : World} {K : PySem.W.Frag} {mg : Str → Option Value} {base : Heap}
theorem ok_Rd {α : Type} {x qual : Str} {st : Stmt} {dvs : List V} {f : Addr} {fd : FuncData} {N ps : List Str} {k : Nat} {Ar : α → List Arg} {pre : α → Prop} {C : α → Addr} (F : FunD K x qual (defArgs st) (defBody st) (defScope st) dvs [] f fd) (Sc : FnScope N ps (defScope st)) (hl : ∀ x, (Ar x).length = ps.length) (hN : ps.length ≤ N.length)
    (hb : ∀ (cdv : Value) (A : Around) (outer : List PySem.Env) (s : Shared) (H : Hp) (E : XK), Room k (A.deeper (envOfC qual (defScope st) s.heap.objs.size f cdv)) →
      ∃ t, PSs (BxN P w K mg base N qual st f cdv A outer s H E) (defBody st) t ∧ ∀ x S0, pre x → XF E L0 S0 (C x) → VSr K L0 S0 (cells0 N ((Ar x).map Arg.cell)) t) : FnOk P w K mg base (L2N.CX P w) (k + 1) f fd ps (spR K Ar pre C) := by
  refine F.ok Sc (fun vs H Q E h => ?_) (fun cdv A outer s H vs Q E hr h => ?_)
  · obtain ⟨B, x, _, p, hp, _⟩ := h
    rw [p.len, hl x]
  · obtain ⟨t, ht, hv⟩ := hb cdv A outer s H E hr
    obtain ⟨B, x, sub, p, hp, q⟩ := h
    have hlv : vs.length ≤ N.length := by rw [p.len, hl x]; exact hN
    exact ⟨t, ht, hv x ⟨B, H⟩ hp q [] (L2.start N vs) [] ⟨B, H⟩ _ (env_start sub p hlv)⟩
structure CalRD (P : Program) (w : World) (K : PySem.W.Frag) (mg : Str → Option Value) (base : Heap) (k : Nat) (x : Str) (ps : List Str) (sp : Sp) (d : Int) (f : Addr) (fd : FuncData) : Prop where
  G : FnOk P w K mg base (L2N.CX P w) k f fd ps sp
  g : mg x = some (.ref f)
  kp : PySem.W.keepIn K (.ref f) = true
  b0 : ∃ ds, Vals [] ds ∧ Binds K fd ps ds
  b1 : ∃ ds, Vals [V.int d] ds ∧ Binds K fd ps ds
theorem DfD.calR {k : Nat} {x : Str} {st : Stmt} {ps : List Str} {sp : Sp} {d : Int} {f : Addr} {fd : FuncData} (D : DfD K mg x st ps d f fd) (G : FnOk P w K mg base (L2N.CX P w) k f fd ps sp) : CalRD P w K mg base k x ps sp d f fd := ⟨G, D.g, D.F.kp, D.b0, D.b1⟩
end
theorem er_callD {K : PySem.W.Frag} {L : Addr → Prop} {S0 : Hs} {Γ : List Cell} {Θ : List Tmp} {α : Type} {A : α → List Arg} {pre : α → Prop} {C : α → Addr} {E : XK} {d : Int} {t : TA} (h : VAX K Γ Θ t fun Γ1 as => ∃ x, as ++ [.dt (.int d)] = A x ∧ pre x ∧ XF E L S0 (C x)) : VEr K L S0 Γ Θ (L2.tCallSD (spR K A pre C) [V.int d] (fun _ => E) t) := fun σ τ S Qv E0 => h L S0 σ τ S _ E0 fun Γ1 S1 vs as E1 p ⟨x, ex, hp, hE⟩ => by
  refine ⟨S1.b, x, E1.sub, ?_, hp, fun S' g s => hE S' (E1.gr.trans0 g) s⟩
  rw [← ex]
  exact argsOk_app p (.cons (.int d) .nil)
end Ld
namespace Sh
open PySem PySem.Spec PyProof.Rows L2 Lx Ld
end Sh
set_option Elab.async false
set_option linter.all false
set_option maxRecDepth 100000
namespace Xa
open PySem PySem.Spec PyProof.Rows L2
def Tab (l : List (Addr × Sp)) (f : Addr) (sp : Sp) : Prop := (f, sp) ∈ l
def CalleeAll (X : Cx) (E : L2.St → XK) (l : List (Addr × Sp)) : Prop := ∀ f sp, Tab l f sp → Callee X E f sp
section
variable {X : Cx} {E : L2.St → XK} {l : List (Addr × Sp)} {f : Addr} {sp : Sp} {k : Nat} {fd : FuncData} {ps : List Str}
theorem cnil : CalleeAll X E [] := fun _ _ h => nomatch h
theorem ccons (h : Callee X E f sp) (r : CalleeAll X E l) : CalleeAll X E ((f, sp) :: l) := fun f' sp' hm => by
  rcases List.mem_cons.mp hm with e | hm
  · cases e
    exact h
  · exact r f' sp' hm
theorem cal0 (F : FnOk X.prog X.w X.K X.mg X.base CX0 k f fd ps sp) (hr : Room k X.A) (hk : PySem.W.keepIn X.K (.ref f) = true) (hb : Binds X.K fd ps []) : Callee X E f sp := ⟨CX0, k, fd, ps, F, hr, hk, hb, fun σ _ _ _ _ _ _ c => False.elim c⟩
theorem calW {W : WX} (F : FnOk X.prog X.w X.K X.mg X.base (L2N.CX X.prog X.w) k f fd ps sp) (hr : Room k X.A) (hk : PySem.W.keepIn X.K (.ref f) = true) (hb : Binds X.K fd ps []) (tk : L2N.Takes X W) : Callee X (fun σ => WE W σ) f sp := ⟨_, k, fd, ps, F, hr, hk, hb, fun σ => L2N.passAt tk σ⟩
end
end Xa
namespace Ld
open PySem PySem.Spec PyProof.Rows L2 Lx
section
variable {K : PySem.W.Frag} {Γ : List Cell} {Θ : List Tmp}
theorem ss_retD {te : Ends → TE} {R : DE} (h : ∀ D ss, VD K Γ (srcT ss) (te D) R.rt) : VSs K Γ (fun D σ H => tRet (te D) D σ H) R := fun ss L S0 σ τ S D E kn kr kb kc => ss_ret (h D) ss L S0 σ τ S D E kn kr kb kc
/-- f(..), f by its name, told as one of a table -/
theorem ve_callRef {T : Addr → Sp → Prop} {E : L2.St → XK} {f : Addr} {ta : TA} {Q : List Cell → Tmp → Prop} {α : Type} {A : α → List Arg} {pre : α → Prop} {post : α → Dat → Prop} (hT : T f (spG K A pre post))
    (h : VAX K Γ Θ ta fun Γ2 as => ∃ x, as = A x ∧ pre x ∧ ∀ d, post x d → Q Γ2 (.dt d)) :
    VE K Γ Θ (Xa.tCallAny T E (tC (.ref f)) ta) Q := by
  intro L S0 σ τ S Qv Ev k
  refine ⟨f, _, rfl, hT, ?_⟩
  exact h L S0 σ τ _ _ Ev fun Γ2 S2 vs as E2 p ⟨x, ex, hp, q⟩ => by
    subst ex
    exact ⟨S2.b, x, E2.sub, p, hp, fun v S' d g s hd hq => k Γ2 S' v _ ((E2.grow g s).push hd) (q d hq)⟩
theorem ss_tryRef {T : Addr → Sp → Prop} {α : Type} {A : α → List Arg} {pre : α → Prop} {C : α → Addr} {c : Value} {n : Nat} {f : Addr} {idx : Addr → Option Int} {args : TA} {R : DE} (hn : n < Γ.length) (hT : T f (spR K A pre C))
    (h : ∀ ss, VAX K Γ (srcT ss) args fun Γ1 as => ∃ x m, as = A x ∧ pre x ∧ PySem.W.exmOne K (.ref (C x)) c = some true ∧ idx (C x) = some m ∧ R.rt Γ1 (.tuple [.str "refused", .int m])) :
    VSs K Γ (fun D σ H => tRet (Xa.tCallAny T (fun σ' cls d H' => L2.wAs K c n (fun a cl d => tRet (tCall (spE idx a cl d) [] E0 (tCons (tVar n) tNil))) (fun _ _ _ _ => False) D cls d σ' H') (tC (.ref f)) args) D σ H) R := fun ss L S0 σ τ S D E kn kr kb kc => by
  refine ⟨f, _, rfl, hT, ?_⟩
  refine h ss L S0 σ τ _ _ E fun Γ1 S1 vs as E1 p ⟨x, m, ex, hp, hc, hn', hq⟩ => ?_
  subst ex
  refine ⟨S1.b, x, E1.sub, p, hp, fun S' g s => ⟨true, hc, fun _ a ha => ?_, fun z => nomatch z⟩⟩
  have hl : n < σ.length := by rw [E.len]; exact hn
  refine ⟨.ref a, List.getElem?_set_self hl, ?_⟩
  refine ⟨rfl, ha, rfl, C x, m, rfl, hn', S'.b, s, fun v S2 g2 s2 hd => ?_⟩
  exact kr Γ1 σ S2 v _ (E1.grow (g.trans0 g2) s2) hd hq
end
end Ld
namespace Sh
open PySem PySem.Spec PyProof.Rows L2 Lx Ld
end Sh
set_option Elab.async false
set_option linter.all false
set_option maxRecDepth 100000
/-! resources: changed in their slot; a line as a resource -/
namespace Ld
open PySem PySem.Spec PyProof.Rows L2 Lx
section
variable {K : PySem.W.Frag} {L : Addr → Prop} {S0 S : Hs} {Γ : List Cell} {Θ : List Tmp} {σ : L2.St} {τ : List V} {w : Wh}
/-- others stand, where only the places of F change -/
theorem keepO {w : Wh} {S S' : Hs} {F : Addr → Prop} {k k' : Sum Nat Nat} {b : Addr} {ds : HO} (g : Gr F S S') (hF : ∀ x, F x → w x = some k) (r : OwnO w k' S b ds) (n : k' ≠ k) : OwnO w k' S' b ds := by
  obtain ⟨nb, e, q⟩ := r
  have ne : ¬ F b := fun h => n (by rw [hF b h] at e; exact (Option.some.inj e).symm)
  exact ⟨g.own b nb (by rw [q]; exact fun z => nomatch z), e, g.h b _ ne q⟩
theorem keepW {w : Wh} {S S' : Hs} {F : Addr → Prop} {k k' : Sum Nat Nat} {b : Addr} {ds : List Dat} (g : Gr F S S') (hF : ∀ x, F x → w x = some k) (r : Own w k' S b ds) (n : k' ≠ k) : Own w k' S' b ds := by
  obtain ⟨nb, e, us, q, p⟩ := r
  have ne : ¬ F b := fun h => n (by rw [hF b h] at e; exact (Option.some.inj e).symm)
  exact ⟨g.own b nb (by rw [q]; exact fun z => nomatch z), e, us, g.h b _ ne q, dpa_mono g.b _ _ p⟩
theorem keepL {w : Wh} {S S' : Hs} {F : Addr → Prop} {k k' : Sum Nat Nat} {b : Addr} {R : Res} {N : Addr → Prop} (g : Gr F S S') (hF : ∀ x, F x → w x = some k) (r : OwnL w k' S b R N) (n : k' ≠ k) : OwnL w k' S' b R N := by
  obtain ⟨G, q, f⟩ := r
  have ne : ∀ x, G x → ¬ F x := fun x hx h => n (by
    have e := (f x hx).2.1
    rw [hF x h] at e; exact (Option.some.inj e).symm)
  refine ⟨G, R.frame q g.b fun x hx => ?_, fun x hx => ⟨g.own x (f x hx).1 (R.dom q hx), (f x hx).2⟩⟩
  cases e : S.h x with
  | none => exact absurd e (R.dom q hx)
  | some u => exact g.h x u (ne x hx) e
open Classical in
/-- the resource in slot i is changed -/
theorem Env.mutLi {R : Res} {i : Nat} (E : Env K L S0 Γ Θ σ τ S) (hi : Γ[i]? = some (.li R)) :
    ∃ a F, σ[i]? = some (some (.ref a)) ∧ R.holds S.b S.h a F ∧ (∀ x, F x → S.b x = none) ∧ ∀ S' R' F', R'.lent = R.lent → Gr F S S' → Same S'.b S'.h → R'.holds S'.b S'.h a F' → (∀ x, F' x → S'.b x = none ∧ (F x ∨ S.h x = none)) →
      Env K L S0 (Γ.set i (.li R')) Θ σ τ S' := by
  obtain ⟨w, h1, h2⟩ := id E.ok
  have hil := (List.getElem?_eq_some_iff.mp hi).1
  obtain ⟨a, ei, F, q, f⟩ := h1 i _ hi
  have hF : ∀ x, F x → w x = some (.inl i) := fun x hx => (f x hx).2.1
  refine ⟨a, F, ei, q, fun x hx => (f x hx).1, fun S' R' F' el g sub q' f' => ?_⟩
  let w' : Wh := fun b => if F' b then some (.inl i) else w b
  have re : ∀ {k : Sum Nat Nat} {x : Addr}, w x = some k → k ≠ .inl i → S.h x ≠ none → w' x = some k := fun {k x} e n d => by
    have nf : ¬ F' x := fun z => (f' x z).2.elim (fun y => n (by rw [hF x y] at e; exact (Option.some.inj e).symm)) d
    show (if F' x then some (Sum.inl i) else w x) = some k
    rw [if_neg nf]; exact e
  have kw : ∀ {k' : Sum Nat Nat} {b : Addr} {ds : List Dat}, Own w k' S b ds → k' ≠ .inl i → Own w' k' S' b ds := fun {k' b ds} r n => by
    have z := keepW g hF r n
    exact ⟨z.nb, re r.at_ n (by obtain ⟨_, u, _⟩ := r.is; rw [u]; exact fun z => nomatch z), z.is⟩
  have ko : ∀ {k' : Sum Nat Nat} {b : Addr} {ds : HO}, OwnO w k' S b ds → k' ≠ .inl i → OwnO w' k' S' b ds := fun {k' b ds} r n => by
    have z := keepO g hF r n
    exact ⟨z.nb, re r.at_ n (by rw [r.is]; exact fun z => nomatch z), z.is⟩
  have kl : ∀ {k' : Sum Nat Nat} {b : Addr} {R : Res} {N : Addr → Prop}, OwnL w k' S b R N → k' ≠ .inl i → OwnL w' k' S' b R N := fun {k' b R N} r n => by
    obtain ⟨G, q1, f1⟩ := id r
    have ne : ∀ x, G x → ¬ F x := fun x hx h => n (by
      have e := (f1 x hx).2.1
      rw [hF x h] at e; exact (Option.some.inj e).symm)
    refine ⟨G, R.frame q1 g.b fun x hx => ?_, fun x hx => ⟨g.own x (f1 x hx).1 (R.dom q1 hx), re (f1 x hx).2.1 n (R.dom q1 hx), (f1 x hx).2.2⟩⟩
    cases e : S.h x with
    | none => exact absurd e (R.dom q1 hx)
    | some u => exact g.h x u (ne x hx) e
  refine ⟨E.gr.trans g fun x hx => (f x hx).2.2.elim .inr fun z => .inl z.2, sub, by rw [List.length_set]; exact E.len, w', fun j c e => ?_, h2.imp fun k u t hk z => ?_⟩
  · by_cases hj : i = j
    · subst hj
      rw [List.getElem?_set_self hil] at e
      cases e
      refine ⟨a, ei, F', q', fun x hx => ⟨(f' x hx).1, if_pos hx, ?_⟩⟩
      rcases (f' x hx).2 with y | y
      · rw [el]; exact (f x y).2.2
      · exact .inl (E.fresh0 y)
    · rw [List.getElem?_set_ne hj] at e
      have nj : (Sum.inl j : Sum Nat Nat) ≠ .inl i := fun z => hj (Sum.inl.inj z).symm
      have z := h1 j c e
      cases c with
      | no => trivial
      | dt d => obtain ⟨v, e, r⟩ := z; exact ⟨v, e, dp_mono g.b _ _ r⟩
      | ow es => obtain ⟨b, e, r, n⟩ := z; exact ⟨b, e, kw r nj, n⟩
      | ln es => obtain ⟨b, e, r, n⟩ := z; exact ⟨b, e, kw r nj, n⟩
      | sc ns => obtain ⟨b, e, r⟩ := z; exact ⟨b, e, g.b.seq r⟩
      | ob pp => obtain ⟨b, e, r, n⟩ := z; exact ⟨b, e, ko r nj, n⟩
      | li R => obtain ⟨b, e, r⟩ := z; exact ⟨b, e, kl r nj⟩
  · have nj : (Sum.inr k : Sum Nat Nat) ≠ .inl i := fun z => nomatch z
    cases t with
    | dt d => exact dp_mono g.b _ _ z
    | fr es => obtain ⟨b, e, r, n⟩ := z; exact ⟨b, e, kw r nj, n⟩
    | br j => exact z
    | sc ns => obtain ⟨b, e, r⟩ := z; exact ⟨b, e, g.b.seq r⟩
    | ob pp => obtain ⟨b, e, r, n⟩ := z; exact ⟨b, e, ko r nj, n⟩
    | li R => obtain ⟨b, e, r⟩ := z; exact ⟨b, e, kl r nj⟩
/-- what the resource in slot i is -/
theorem Env.liAt {R : Res} {i : Nat} (E : Env K L S0 Γ Θ σ τ S) (hi : Γ[i]? = some (.li R)) : ∃ a F, σ[i]? = some (some (.ref a)) ∧ R.holds S.b S.h a F ∧ (∀ x, F x → S.b x = none) := by
  obtain ⟨a, F, h1, h2, h3, _⟩ := E.mutLi hi
  exact ⟨a, F, h1, h2, h3⟩
end
end Ld
set_option Elab.async false
set_option linter.all false
set_option maxRecDepth 100000
/-! a line: its fields, what stands on its shelves, what was done -/
namespace Ld
open PySem PySem.Spec PyProof.Rows L2 Lx Sh
inductive Role where
  | self | out | there | done | st | sh (i : Nat) | dt (j : Nat) | ds (j : Nat) | dh (j i : Nat)
structure Dn where
  name : Str
  num : Option Int
  sts : List (List Int)
  n : Nat
structure LnS where
  sh : List (Bool × Nat)
  st : List (List Int)
  out : List (Option Int)
  there : List Int
  done : List Dn
abbrev vO : Option Int → V
  | none => .non
  | some n => .int n
abbrev thD (ns : List Int) : HO := .dK (ns.map fun n => ((Sum.inl n : Key), V.bl true))
abbrev shD (sh : List (Bool × Nat)) : Dat := .tuple (sh.map sD)
def lf (sv : V) (b o t d : Addr) : List (Str × V) := [("_shelves", sv), ("_standing", .ref b), ("_out", .ref o), ("_there", .ref t), ("_done", .ref d)]
theorem lookup_eq {x : Str} {v : V} {r : List (Str × V)} : List.lookup x ((x, v) :: r) = some v := by
  rw [List.lookup_cons, beq_self_eq_true]
section
variable {sv : V} {b o t d : Addr}
theorem lf_sh : (lf sv b o t d).lookup ("_shelves" : Str) = some sv := lookup_eq
end
/-- a list of lists of whole numbers, each its own place -/
def NestAt (H : Hp) (r : Addr → Option Role) (top : Role) (inn : Nat → Role) (b : Addr) (sts : List (List Int)) : Prop :=
  r b = some top ∧ ∃ xs : List Addr, H b = some (.lst (xs.map V.ref)) ∧ xs.length = sts.length ∧ ∀ i x st, xs[i]? = some x → sts[i]? = some st → r x = some (inn i) ∧ ∃ ys : List Int, H x = some (.lst (ys.map V.int)) ∧ ys.Perm st
def DoneAt (H : Hp) (r : Addr → Option Role) (j : Nat) (p : Addr) (e : Dn) : Prop :=
  r p = some (.dt j) ∧ ∃ oo sb, oo.dict = none ∧ H p = some (.frz oo (.tup [.str e.name, vO e.num, .ref sb, .int e.n])) ∧ NestAt H r (.ds j) (.dh j) sb e.sts
structure LPt (C : Addr) (B H : Hp) (a : Addr) (ℓ : LnS) (r : Addr → Option Role) (dx : Addr) (sv : V) (b o t d : Addr) (ps : List Addr) : Prop where
  dom : ∀ x, r x ≠ none → H x ≠ none
  ra : r a = some .self
  ha : H a = some (.ins C dx (lf sv b o t d))
  sv : Dq B sv (shD ℓ.sh)
  st : NestAt H r .st .sh b ℓ.st
  ro : r o = some .out
  ho : H o = some (.lst (ℓ.out.map vO))
  rt : r t = some .there
  ht : H t = some (thD ℓ.there)
  rd : r d = some .done
  hd : H d = some (.lst (ps.map V.ref))
  pl : ps.length = ℓ.done.length
  pd : ∀ j p e, ps[j]? = some p → ℓ.done[j]? = some e → DoneAt H r j p e
def LAt (C : Addr) (B H : Hp) (a : Addr) (ℓ : LnS) (r : Addr → Option Role) : Prop := ∃ dx sv b o t d ps, LPt C B H a ℓ r dx sv b o t d ps
section
variable {C : Addr} {B B' H H' : Hp} {a : Addr} {ℓ : LnS} {r : Addr → Option Role}
theorem NestAt.frame {top : Role} {inn : Nat → Role} {b : Addr} {sts : List (List Int)} (h : NestAt H r top inn b sts) (f : ∀ x, r x ≠ none → H' x = H x) : NestAt H' r top inn b sts := by
  obtain ⟨h1, xs, h2, h3, h4⟩ := h
  refine ⟨h1, xs, (f b (by rw [h1]; exact fun z => nomatch z)).trans h2, h3, fun i x st e1 e2 => ?_⟩
  obtain ⟨k1, ys, k2, k3⟩ := h4 i x st e1 e2
  exact ⟨k1, ys, (f x (by rw [k1]; exact fun z => nomatch z)).trans k2, k3⟩
theorem LPt.frame {dx : Addr} {sv : V} {b o t d : Addr} {ps : List Addr} (h : LPt C B H a ℓ r dx sv b o t d ps) (s : Same B B') (f : ∀ x, r x ≠ none → H' x = H x) : LPt C B' H' a ℓ r dx sv b o t d ps := by
  have g : ∀ {x : Addr} {ρ : Role} {u : HO}, r x = some ρ → H x = some u → H' x = some u := fun {x ρ u} e q => (f x (by rw [e]; exact fun z => nomatch z)).trans q
  refine ⟨fun x hx => by rw [f x hx]; exact h.dom x hx, h.ra, g h.ra h.ha, dp_mono s _ _ h.sv, h.st.frame f, h.ro, g h.ro h.ho, h.rt, g h.rt h.ht, h.rd, g h.rd h.hd, h.pl, fun j p e e1 e2 => ?_⟩
  obtain ⟨k1, oo, sb, k0, k2, k3⟩ := h.pd j p e e1 e2
  exact ⟨k1, oo, sb, k0, g k1 k2, k3.frame f⟩
end
/-- a line; the one that is lent stands at a known place -/
def lineR (C : Addr) (l : Option Addr) (ℓ : LnS) : Res where
  lent := l.isSome
  holds := fun B H a F => (∀ b, l = some b → a = b) ∧ ∃ r, (∀ x, F x ↔ r x ≠ none) ∧ LAt C B H a ℓ r
  dom := fun {B H a F x} ⟨_, r, e, _, _, _, _, _, _, _, h⟩ hx => h.dom x ((e x).mp hx)
  frame := fun {B B' H H' a F} ⟨el, r, e, dx, sv, b, o, t, d, ps, h⟩ s f => ⟨el, r, e, dx, sv, b, o, t, d, ps, h.frame s fun x hx => f x ((e x).mpr hx)⟩
/-! ### what a method promises -/
end Ld
set_option Elab.async false
set_option linter.all false
set_option maxRecDepth 100000
/-! del xs[a:] -/
namespace L2
open PySem PySem.Spec PyProof.Rows
end L2
set_option Elab.async false
set_option linter.all false
set_option maxRecDepth 100000
/-! len(o), str(o), o == x by defs of the text -/
namespace L2
open PySem PySem.Spec PyProof.Rows
end L2
set_option Elab.async false
set_option linter.all false
set_option maxRecDepth 100000
/-! a line's fields read and changed -/
namespace Ld
open PySem PySem.Spec PyProof.Rows L2 Lx Sh
structure LnC (K : PySem.W.Frag) (C : Addr) : Prop where
  cl : Cls K C
  nsh : NoAttr K C "_shelves"
  nst : NoAttr K C "_standing"
  nout : NoAttr K C "_out"
  nth : NoAttr K C "_there"
  ndn : NoAttr K C "_done"
section
variable {K : PySem.W.Frag} {Γ : List Cell} {Θ : List Tmp} {C : Addr} {l : Option Addr} {ℓ : LnS} {i : Nat}
theorem ve_fldSh {Q : List Cell → Tmp → Prop} (T : LnC K C) (hi : Γ[i]? = some (.li (lineR C l ℓ))) (q : Q Γ (.dt (shD ℓ.sh))) : VE K Γ Θ (tFld K (tVar i) "_shelves") Q := fun L S0 σ τ S Qv E k => by
  obtain ⟨a, F, ea, ⟨_, r, er, dx, sv, b, o, t, d, ps, p⟩, _⟩ := E.liAt hi
  exact ⟨_, ea, a, C, dx, _, sv, rfl, p.ha, T.cl, T.nsh, lf_sh, k Γ S sv _ (E.push p.sv) q⟩
end
end Ld
set_option Elab.async false
set_option linter.all false
set_option maxRecDepth 100000
/-! methods: what stands, what they promise -/
namespace Ld
open PySem PySem.Spec PyProof.Rows L2 Lx Sh
structure DfM (K : PySem.W.Frag) (C : Addr) (m qual : Str) (st : Stmt) (ps : List Str) (f : Addr) (fd : FuncData) : Prop where
  F : Fun K m qual st f fd
  mt : Meth K C m f
  b : Binds K fd ps []
structure CalM (P : Program) (w : World) (K : PySem.W.Frag) (mg : Str → Option Value) (base : Heap) (k : Nat) (C : Addr) (m : Str) (ps : List Str) (sp : Sp) (f : Addr) (fd : FuncData) : Prop where
  G : FnOk P w K mg base CX0 k f fd ps sp
  mt : Meth K C m f
  b : Binds K fd ps []
structure CalMR (P : Program) (w : World) (K : PySem.W.Frag) (mg : Str → Option Value) (base : Heap) (k : Nat) (C : Addr) (m : Str) (ps : List Str) (sp : Sp) (f : Addr) (fd : FuncData) : Prop where
  G : FnOk P w K mg base (L2N.CX P w) k f fd ps sp
  mt : Meth K C m f
  b : Binds K fd ps []
section
variable {P : Program} {w : World} {K : PySem.W.Frag} {mg : Str → Option Value} {base : Heap} {k : Nat} {C : Addr} {m qual : Str} {st : Stmt} {ps : List Str} {sp : Sp} {f : Addr} {fd : FuncData}
theorem DfM.cal (D : DfM K C m qual st ps f fd) (G : FnOk P w K mg base CX0 k f fd ps sp) : CalM P w K mg base k C m ps sp f fd := ⟨G, D.mt, D.b⟩
theorem DfM.calR (D : DfM K C m qual st ps f fd) (G : FnOk P w K mg base (L2N.CX P w) k f fd ps sp) : CalMR P w K mg base k C m ps sp f fd := ⟨G, D.mt, D.b⟩
end
/-- .. exactly these -/
def NestX (H : Hp) (r : Addr → Option Role) (b : Addr) (sts : List (List Int)) : Prop :=
  r b = some .st ∧ ∃ xs : List Addr, H b = some (.lst (xs.map V.ref)) ∧ xs.length = sts.length ∧ ∀ i x st, xs[i]? = some x → sts[i]? = some st → r x = some (.sh i) ∧ H x = some (.lst (st.map V.int))
theorem NestX.at {H : Hp} {r : Addr → Option Role} {b : Addr} {sts : List (List Int)} (h : NestX H r b sts) : NestAt H r .st .sh b sts := by
  obtain ⟨h1, xs, h2, h3, h4⟩ := h
  exact ⟨h1, xs, h2, h3, fun i x st e1 e2 => ⟨(h4 i x st e1 e2).1, st, (h4 i x st e1 e2).2, .refl _⟩⟩
end Ld
namespace Ld
open PySem PySem.Spec PyProof.Rows L2 Lx Sh
end Ld
set_option Elab.async false
set_option linter.all false
set_option maxRecDepth 100000
/-! what a line does: mathematics -/
namespace Sh
open PySem PySem.Spec PyProof.Rows L2 Lx Ld
end Sh
namespace Sh
end Sh
namespace Sh
end Sh
namespace Ld
open PySem PySem.Spec PyProof.Rows L2 Lx
/-- a, (b, c) = e -/
theorem vg_nest {K : PySem.W.Frag} {Γ : List Cell} {pr : Bool} {i j l : Nat} {x y z : Dat} {Q : List Cell → Prop} (q : Q (((Γ.set i (.dt x)).set j (.dt y)).set l (.dt z))) : VG K pr Γ (gTup K 2 (gCons (gName i) (gCons (gTup K 2 (gCons (gName j) (gCons (gName l) gNil))) gNil))) (.tuple [x, .tuple [y, z]]) Q := fun L S0 Θ σ τ S v R nb E hd k => by
  obtain ⟨a, xs, e, h, p⟩ : ∃ a xs, v = .ref a ∧ SqT K S.h a xs ∧ DqAll S.b xs [x, .tuple [y, z]] := by
    cases pr with
    | false =>
      obtain ⟨a, o, xs, e, _, h, p⟩ := dp_tup (show Dq S.b v (.tuple [x, .tuple [y, z]]) from hd)
      exact ⟨a, xs, e, sqt_f (E.sub _ _ h), p⟩
    | true =>
      obtain ⟨a, xs, ds, e, e2, h, p⟩ := hd
      cases e2
      exact ⟨a, xs, e, .of (E.sub _ _ h), p⟩
  cases p with
  | cons p1 p =>
    cases p with
    | cons p2 p =>
      cases p
      refine ⟨a, _, e, h, rfl, _, _, rfl, _, _, rfl, ?_⟩
      exact vg_pair (pr := false) (Q := fun Γ' => Q Γ') q L S0 Θ _ τ S _ _ nb (E.setDt (nb i) p1) p2 fun Γ' σ' E' z => ⟨rfl, k Γ' σ' E' z⟩
end Ld
namespace Sh
open PySem PySem.Spec PyProof.Rows L2 Lx Ld
end Sh
namespace Sh
open PySem PySem.Spec PyProof.Rows L2 Lx Ld
end Sh
set_option Elab.async false
set_option linter.all false
set_option maxRecDepth 100000
/-! texts: numbers written, joined -/
namespace Ld
open PySem PySem.Spec PyProof.Rows L2 Lx Sh
def rJoin (K : PySem.W.Frag) : V → List V → Hp → VK → Prop := fun x xs H Q => ∃ a p, ∃ ys : List Str, x = .str a ∧ xs = [.ref p] ∧ (SqL K H p (ys.map V.str) ∨ SqT K H p (ys.map V.str)) ∧ (ys.map (·.length)).sum + ys.length * a.length ≤ 16777216 ∧ Q (.str (Txt.join a ys)) H
def rStrI : List V → Hp → VK → Prop := fun xs H Q => ∃ i : Int, xs = [.int i] ∧ i.natAbs.log2 < 1920 ∧ Q (.str (toString i)) H
def rStrS : List V → Hp → VK → Prop := fun xs H Q => ∃ a, xs = [.str a] ∧ Q (.str a) H
section
variable {K : PySem.W.Frag} {Γ : List Cell} {Θ : List Tmp}
theorem c1_strI {b : Int} {Q : List Cell → Tmp → Prop} (hb : b.natAbs < 2 ^ 1900) (q : Q Γ (.dt (.str (toString b)))) : C1V K rStrI Γ Θ (.dt (.int b)) Q := fun L S0 σ τ S vx Qv E k =>
  ⟨b, by rw [dp_int E.dt], by
    by_cases h0 : b.natAbs = 0
    · rw [h0]; decide
    · exact Nat.lt_of_lt_of_le ((Nat.log2_lt h0).mpr hb) (by decide), k Γ S _ _ (E.pop.push (.str _)) q⟩
theorem c1_strS {b : Str} {Q : List Cell → Tmp → Prop} (q : Q Γ (.dt (.str b))) : C1V K rStrS Γ Θ (.dt (.str b)) Q := fun L S0 σ τ S vx Qv E k =>
  ⟨b, by rw [dp_str E.dt], k Γ S _ _ (E.pop.push (.str _)) q⟩
theorem dpa_strs {H : Hp} : ∀ {ns : List Str} {vs : List V}, DqAll H vs (ns.map PyData.str) → vs = ns.map V.str
  | [], _, h => by cases h; rfl
  | n :: ns, _, h => by
    cases h with
    | cons h1 h2 => cases h1; rw [dpa_strs h2]; rfl
/-- sep.join(..) of a list just made -/
theorem ve_join {to te : TE} {Q : List Cell → Tmp → Prop} (h : VE K Γ Θ to fun Γ1 x => ∃ a, x = .dt (.str a) ∧ VE K Γ1 (.dt (.str a) :: Θ) te fun Γ2 y => ∃ ys : List Str, (y = .fr (ys.map .str) ∨ y = .dt (.list (ys.map .str))) ∧ (ys.map (·.length)).sum + ys.length * a.length ≤ 16777216 ∧ Q Γ2 (.dt (.str (Txt.join a ys)))) : VE K Γ Θ (tM1 (rJoin K) to te) Q := fun L S0 σ τ S Qv E k => h L S0 σ τ S _ E fun Γ1 S1 v x E1 ⟨a, ex, h1⟩ => by
  subst ex
  have ev := dp_str E1.dt
  refine ⟨⟨a, ev⟩, h1 L S0 σ _ S1 _ E1 fun Γ2 S2 u y E2 ⟨ys, ey, hz, q⟩ => ?_⟩
  have one : ∃ p, u = .ref p ∧ SqL K S2.h p (ys.map V.str) := by
    rcases ey with rfl | rfl
    · obtain ⟨w, p, e, o, _⟩ := E2.top
      obtain ⟨_, _, us, hu, pu⟩ := o
      have := dpa_strs pu
      subst this
      exact ⟨p, e, .of hu⟩
    · obtain ⟨p, xs, e, hx, px⟩ := dp_list E2.dt
      have := dpa_strs px
      subst this
      exact ⟨p, e, .of (E2.sub _ _ hx)⟩
  obtain ⟨p, eu, hs⟩ := one
  exact ⟨a, p, ys, ev, by rw [eu], .inl hs, hz, k Γ2 S2 _ _ (E2.pop.pop.push (.str _)) q⟩
end
end Ld
namespace Sh
open PySem PySem.Spec PyProof.Rows L2 Lx Ld
end Sh
set_option Elab.async false
set_option linter.all false
set_option maxRecDepth 100000
/-! a line is made, told, compared -/
namespace Ld
open PySem PySem.Spec PyProof.Rows L2 Lx Sh
section
variable {K : PySem.W.Frag} {Γ : List Cell} {Θ : List Tmp} {C : Addr} {l : Option Addr} {ℓ : LnS} {i : Nat}
theorem gr_same {S : Hs} {H' : Hp} (s : Same S.h H') : Gr L0 S ⟨S.b, H'⟩ := ⟨Same.refl _, fun _ _ _ e => s _ _ e, fun _ e _ => e, fun a n => by
  cases e : S.h a with
  | none => exact absurd e n
  | some u => show H' a ≠ none; rw [s _ _ e]; exact fun z => nomatch z⟩
end
end Ld
namespace Ld
open PySem PySem.Spec PyProof.Rows L2 Lx Sh
/-- a line that stands still, read as data -/
def frzR (C : Addr) (ℓ : LnS) (yss : List (List Int)) : Res where
  lent := false
  holds := fun B H a F => (∀ x, ¬ F x) ∧ ∃ dx sv b o t d, B a = some (.ins C dx (lf sv b o t d)) ∧ Dq B sv (shD ℓ.sh) ∧ Dq B (.ref b) (.list (yss.map fun s => .list (iL s))) ∧ Dq B (.ref o) (.list (oL ℓ.out))
  dom := fun {B H a F x} h hx => absurd hx (h.1 x)
  frame := fun {B B' H H' a F} ⟨n, dx, sv, b, o, t, d, h1, h2, h4, h5⟩ s _ => ⟨n, dx, sv, b, o, t, d, s _ _ h1, dp_mono s _ _ h2, dp_mono s _ _ h4, dp_mono s _ _ h5⟩
theorem dqa_ofOL {B : Hp} : ∀ out : List (Option Int), DqAll B (out.map vO) (oL out)
  | [] => .nil
  | none :: out => .cons .non (dqa_ofOL out)
  | some n :: out => .cons (.int n) (dqa_ofOL out)
theorem NestAt.lists {B H : Hp} {r : Addr → Option Role} {top : Role} {inn : Nat → Role} {b : Addr} {sts : List (List Int)} (h : NestAt H r top inn b sts) (e : ∀ x, r x ≠ none → B x = H x) : ∃ yss : List (List Int), yss.map asc = sts.map asc ∧ Dq B (.ref b) (.list (yss.map fun s => .list (iL s))) := by
  obtain ⟨h1, xs, h2, h3, h4⟩ := h
  have go : ∀ (ys : List Addr) (ts : List (List Int)), ys.length = ts.length → (∀ (i : Nat) x st, ys[i]? = some x → ts[i]? = some st → ∃ zs : List Int, B x = some (.lst (zs.map V.int)) ∧ zs.Perm st) →
      ∃ yss : List (List Int), yss.map asc = ts.map asc ∧ DqAll B (ys.map V.ref) (yss.map fun s => PyData.list (iL s)) := by
    intro ys
    induction ys with
    | nil => intro ts hl _; cases ts with | nil => exact ⟨[], rfl, .nil⟩ | cons _ _ => cases hl
    | cons y ys ih =>
      intro ts hl hh
      cases ts with
      | nil => cases hl
      | cons s ts =>
        obtain ⟨zs, k1, k2⟩ := hh 0 y s rfl rfl
        obtain ⟨yss, m1, m2⟩ := ih ts (by simpa using hl) fun i x st e1 e2 => hh (i + 1) x st e1 e2
        exact ⟨zs :: yss, by rw [List.map_cons, List.map_cons, asc_of_perm k2, m1], .cons (.lst k1 (dpa_of_ints zs)) m2⟩
  obtain ⟨yss, m1, m2⟩ := go xs sts h3 fun i x st e1 e2 => by
    obtain ⟨k1, zs, k2, k3⟩ := h4 i x st e1 e2
    exact ⟨zs, (e x (by rw [k1]; exact fun z => nomatch z)).trans k2, k3⟩
  exact ⟨yss, m1, .lst ((e b (by rw [h1]; exact fun z => nomatch z)).trans h2) m2⟩
section
variable {C : Addr} {B H : Hp} {a : Addr} {ℓ : LnS} {r : Addr → Option Role} {dx : Addr} {sv : V} {b o t d : Addr} {ps : List Addr}
/-- the line's places are frozen -/
def frzB (r : Addr → Option Role) (B H : Hp) : Hp := fun x => if (r x).isSome then H x else B x
theorem frzB_at {x : Addr} (h : r x ≠ none) : frzB r B H x = H x := by
  show (if (r x).isSome then H x else B x) = H x
  rw [if_pos (Option.isSome_iff_ne_none.mpr h)]
theorem frzB_no {x : Addr} (h : r x = none) : frzB r B H x = B x := by
  show (if (r x).isSome then H x else B x) = B x
  rw [h]; rfl
theorem frzB_b (nb : ∀ x, r x ≠ none → B x = none) : Same B (frzB r B H) := fun x u e => by
  by_cases h : r x = none
  · rw [frzB_no h]; exact e
  · rw [nb x h] at e; cases e
theorem LPt.frz (p : LPt C B H a ℓ r dx sv b o t d ps) (nb : ∀ x, r x ≠ none → B x = none) : ∃ yss : List (List Int), yss.map asc = ℓ.st.map asc ∧ (frzR C ℓ yss).holds (frzB r B H) H a (fun _ => False) := by
  have at_ : ∀ {x : Addr} {ρ : Role} {u : HO}, r x = some ρ → H x = some u → frzB r B H x = some u := fun {x ρ u} h e => (frzB_at (by rw [h]; exact fun z => nomatch z)).trans e
  obtain ⟨yss, h1, h2⟩ := p.st.lists (B := frzB r B H) fun x hx => frzB_at hx
  exact ⟨yss, h1, (fun _ z => z), dx, sv, b, o, t, d, at_ p.ra p.ha, dp_mono (frzB_b nb) _ _ p.sv, h2, .lst (at_ p.ro p.ho) (dqa_ofOL _)⟩
end
end Ld
set_option Elab.async false
set_option linter.all false
set_option maxRecDepth 100000
/-! lines compared -/
namespace Sh
open PySem PySem.Spec PyProof.Rows L2 Lx Ld
theorem wd_eq {a b : Bool} : wd a = wd b ↔ a = b := by
  constructor
  · intro h
    cases a <;> cases b <;> first | rfl | exact absurd h (by decide +kernel)
  · intro h; rw [h]
end Sh
namespace Ld
open PySem PySem.Spec PyProof.Rows L2 Lx Sh
/-- what isinstance and == ask of the class -/
structure LnI (K : PySem.W.Frag) (C : Addr) : Prop where
  ic : C8.InsC K C
  ks : PySem.W.kitOne K (.type "str") (.ref C) = some false
  nf : PySem.W.notFirst K C (.type "str") = true
end Ld
namespace Ld
open PySem PySem.Spec PyProof.Rows L2 Lx Sh
end Ld
set_option Elab.async false
set_option linter.all false
set_option maxRecDepth 100000
/-! methods that raise; a def that is handed a line second; a comprehension over what changes -/
namespace Ld
open PySem PySem.Spec PyProof.Rows L2 Lx Sh
/-! a def whose second thing is a line -/
section
variable {K : PySem.W.Frag} {Γ : List Cell} {Θ : List Tmp} {C : Addr} {l : Option Addr} {ℓ : LnS}
/-- try: return A if c else B -/
theorem ss_tryIfE {tt : TT} {X Y : Ends → TE} {R : DE} (b : Bool) (h : ∀ ss, VT K Γ (srcT ss) tt fun Γ1 c => c = b ∧ Γ1 = Γ) (q1 : b = true → VSs K Γ (fun D σ H => tRet (X D) D σ H) R) (q2 : b = false → VSs K Γ (fun D σ H => tRet (Y D) D σ H) R) :
    VSs K Γ (fun D σ H => tRet (tIf tt (X D) (Y D)) D σ H) R := fun ss L S0 σ τ S D E kn kr kb kc => by
  refine h ss L S0 σ τ S _ E fun Γ1 S1 c E1 ⟨e1, e2⟩ => ?_
  subst e1
  subst e2
  cases c with
  | true =>
    rw [if_pos rfl]
    exact q1 rfl ss L S0 σ τ S1 D E1 kn kr kb kc
  | false =>
    rw [if_neg Bool.false_ne_true]
    exact q2 rfl ss L S0 σ τ S1 D E1 kn kr kb kc
end
end Ld
set_option Elab.async false
set_option linter.all false
set_option maxRecDepth 100000
namespace Ld
open PySem PySem.Spec PyProof.Rows L2 Lx
section
variable {K : PySem.W.Frag} {mg : Str → Option Value}
theorem fun_of {x : Str} {st : Stmt} {f : Addr} {fd : FuncData} (F : FunD K x x (defArgs st) (defBody st) (defScope st) [] [] f fd) : Fun K x x st f fd := by
  obtain ⟨oc, od, dV, kV, doc, pm, an, cdv, ct, osl, e, lk, hcd, hd, _⟩ := F.ex
  rcases hd with ⟨_, hd⟩ | ⟨hd, _⟩
  · subst hd
    exact ⟨⟨oc, od, kV, doc, pm, an, cdv, ct, osl, e, lk, hcd⟩, F.kp⟩
  · exact absurd rfl hd
theorem Df.of {x : Str} {st : Stmt} {ps : List Str} {f : Addr} {fd : FuncData} (F : FunD K x x (defArgs st) (defBody st) (defScope st) [] [] f fd) (g : mg x = some (.ref f))
    (h : ∀ (kV doc pm : Value) (an : Option Addr) (cdv ct : Value) (us : List Value), us.length = ps.length → bindArgs (PySem.W.fnOf x x (defArgs st) (defBody st) (defScope st) .none kV doc pm an cdv ct) ⟨us, []⟩ = pure (ps.zip us)) : Df K mg x st ps f fd :=
  ⟨fun_of F, g, (fun_of F).binds h⟩
theorem law_sp {H : Hp} {a : Addr} {ns : List Int} (hl : ns.length ≤ 63) (hS : SqL K H a (ns.map V.int)) : spF K (fun ns : List Int => [.sc ns]) (fun ns => ns.length ≤ 63) (fun _ => .bool true) [.ref a] H (fun v _ => v = .bl true) fun _ _ _ => False :=
  ⟨H, ns, Same.refl _, .cons ⟨a, rfl, hS⟩ .nil, hl, fun v S' d _ _ hd e => by
    subst e
    exact dp_bool hd⟩
end
end Ld
set_option Elab.async false
set_option linter.all false
set_option maxRecDepth 100000
/-! a class with its methods, out of the head's facts -/
namespace Ld
open PySem PySem.Spec PyProof.Rows L2 Lx Sh
section
variable {K : PySem.W.Frag}
theorem fun_ofQ {x qual : Str} {st : Stmt} {f : Addr} {fd : FuncData} (F : FunD K x qual (defArgs st) (defBody st) (defScope st) [] [] f fd) : Fun K x qual st f fd := by
  obtain ⟨oc, od, dV, kV, doc, pm, an, cdv, ct, osl, e, lk, hcd, hd, _⟩ := F.ex
  rcases hd with ⟨_, hd⟩ | ⟨hd, _⟩
  · subst hd
    exact ⟨⟨oc, od, kV, doc, pm, an, cdv, ct, osl, e, lk, hcd⟩, F.kp⟩
  · exact absurd rfl hd
theorem DfM.of {C : Addr} {x qual : Str} {st : Stmt} {ps : List Str} {f : Addr} {fd : FuncData} (F : FunD K x qual (defArgs st) (defBody st) (defScope st) [] [] f fd) (m : Meth K C x f)
    (h : ∀ (kV doc pm : Value) (an : Option Addr) (cdv ct : Value) (us : List Value), us.length = ps.length → bindArgs (PySem.W.fnOf x qual (defArgs st) (defBody st) (defScope st) .none kV doc pm an cdv ct) ⟨us, []⟩ = pure (ps.zip us)) : DfM K C x qual st ps f fd :=
  ⟨fun_ofQ F, m, (fun_ofQ F).binds h⟩
theorem LnI.of {x : Str} (cl : Cls K (He.ga K x)) (c : He.insB x K = true) : LnI K (He.ga K x) := by
  obtain ⟨c1, c⟩ := He.ba c
  obtain ⟨c2, c⟩ := He.ba c
  obtain ⟨c3, c⟩ := He.ba c
  obtain ⟨c4, c⟩ := He.ba c
  obtain ⟨c5, c⟩ := He.ba c
  obtain ⟨c6, c7⟩ := He.ba c
  exact ⟨⟨cl, He.eqO_ok c1, He.eqO_ok c2, of_decide_eq_true c3, of_decide_eq_true c4, of_decide_eq_true c5⟩, of_decide_eq_true c6, c7⟩
end
end Ld
set_option Elab.async false
set_option linter.all false
set_option maxRecDepth 100000
/-! what is a row, a shelf, a line, places, counts: told of any thing -/
namespace Sh
open PySem PySem.Spec PyProof.Rows L2 Lx Ld
/-- a thing without dicts, as deep as is looked -/
def okD : Dat → Bool
  | .dict _ => false
  | .tuple r => decide (r.length ≤ 100) && r.all isK
  | .list r => decide (r.length ≤ 100) && r.all isK
  | _ => true
theorem okD_t {r : List Dat} (h : okD (.tuple r) = true) : r.length ≤ 100 ∧ ∀ d ∈ r, isK d = true := by
  have h : (decide (r.length ≤ 100) && r.all isK) = true := h
  rw [Bool.and_eq_true] at h
  exact ⟨of_decide_eq_true h.1, fun d hd => List.all_eq_true.mp h.2 d hd⟩
theorem okD_l {r : List Dat} (h : okD (.list r) = true) : r.length ≤ 100 ∧ ∀ d ∈ r, isK d = true := okD_t (r := r) h
def okDD : Dat → Bool
  | .tuple r => decide (r.length ≤ 100) && r.all okD
  | d => okD d
theorem okDD_t {r : List Dat} (h : okDD (.tuple r) = true) : r.length ≤ 100 ∧ ∀ d ∈ r, okD d = true := by
  have h : (decide (r.length ≤ 100) && r.all okD) = true := h
  rw [Bool.and_eq_true] at h
  exact ⟨of_decide_eq_true h.1, fun d hd => List.all_eq_true.mp h.2 d hd⟩
def intOf : Dat → Int
  | .int i => i
  | _ => 0
theorem isI_int {d : Dat} (h : isI d = true) : d = .int (intOf d) := by
  cases d <;> first | rfl | cases h
theorem ints_eq {r : List Dat} (h : r.all isI = true) : r = (r.map intOf).map .int := by
  rw [List.map_map]
  conv => lhs; rw [← List.map_id r]
  exact List.map_congr_left fun d hd => isI_int (List.all_eq_true.mp h d hd)
def noNo (r : List Dat) : List Dat := r.filter fun d => !isNo d
/-- unlike -/
def unl (ns : List Int) : Bool := decide (((firstMet (fun i => ns.getD i 0) ns.length).length : Int) = (ns.length : Int))
def isRowD : Dat → Bool
  | .tuple r => !decide ((24 : Int) < (r.length : Int)) && ((noNo r).all isI && unl ((noNo r).map intOf))
  | _ => false
def isWithinD (d : Dat) (lo hi : Int) : Bool := match d with
  | .int n => decide (lo ≤ n) && decide (n ≤ hi)
  | _ => false
def isWordD : Dat → Bool
  | .str s => [PyData.str "light", .str "heavy"].any fun d => eqF d (.str s)
  | _ => false
def isPlD (d : Dat) : Bool := isWithinD d 0 9
def isShelfD : Dat → Bool
  | .tuple [a, b] => isWordD a && isPlD b
  | _ => false
def isLineD : Dat → Bool
  | .tuple r => !decide ((8 : Int) < (r.length : Int)) && r.all isShelfD
  | _ => false
def arePlD (d : Dat) (n : Nat) : Bool := match d with
  | .tuple r => decide ((r.length : Int) = (n : Int)) && r.all isPlD
  | _ => false
def areCntD (d : Dat) (n : Nat) : Bool := match d with
  | .list r => decide ((r.length : Int) = (n : Int)) && (r.zipIdx.map fun p => isWithinD p.1 0 p.2).all id
  | _ => false
def isOnD : Dat → Bool
  | .str s => PyData.eqv (.str s) (.str "on")
  | _ => false
/-- what stands, and how many were put on -/
def letGo (N : List Int) (b : Nat) : List Dat → List Int → Nat → Bool
  | [], _, _ => true
  | d :: r, S, i => if isOnD d then (if i = N.length ∨ b < S.length then false else letGo N b r (S ++ [N.getD i 0]) (i + 1))
    else if isI d && decide (intOf d ∈ S) then letGo N b r (S.erase (intOf d)) i else false
def isLetD (N : List Int) (b : Nat) (d : Dat) : Bool := match d with
  | .tuple r => decide ((r.length : Int) = 2 * (N.length : Int)) && letGo N b r [] 0
  | _ => false
end Sh
set_option Elab.async false
set_option linter.all false
set_option maxRecDepth 100000
/-! C(..) when __init__ raises -/
namespace Xa
open PySem PySem.Spec PyProof.Rows L2
def tMakeS (C : Addr) (sp : Sp) (E : L2.St → XK) (t : TA) : TE := fun σ H Q => t σ H fun vs H1 => ∀ x dx, H1 x = none → H1 dx = none → dx ≠ x →
  sp (.ref x :: vs) (upd (upd H1 dx (.own x)) x (.ins C dx [])) (fun v H2 => v = .non ∧ Q (.ref x) H2) (E σ)
section
variable {X : Cx} {CX : CXT} {k : Nat} {f C : Addr} {fd : FuncData} {ps : List Str} {sp : Sp} {E : L2.St → XK} {x : Str} {p pos : Pos} {e : Expr} {es : List Expr} {t : TA}
theorem run_makeS {pins : List (Addr × Obj)} {σ : L2.St} {H : Hp} {s : Shared} {Q : VK} {us : List Value} {vs : List V} (M : Mk X.K C f) (F : FnOk X.prog X.w X.K X.mg X.base CX k f fd ps sp) (hr : Room (k + 1) X.A) (hb : Binds X.K fd ps [])
    (hx : PassesAt CX X σ (E σ)) (I : Inv X pins σ H s) (r : Vals vs us)
    (h : ∀ x dx, H x = none → H dx = none → dx ≠ x → sp (.ref x :: vs) (upd (upd H dx (.own x)) x (.ins C dx [])) (fun v H2 => v = .non ∧ Q (.ref x) H2) (E σ)) :
    wpAny (model X.prog X.w) X.A (call (.ref C) us) (EP X pins σ Q) X.xe s := by
  have hq := h (s.heap.objs.size + 1) s.heap.objs.size (I.hok.fresh (Nat.le_succ _)) (I.hok.fresh (Nat.le_refl _)) (Nat.ne_of_lt (Nat.lt_succ_self _))
  have I2 := Inv.made (C := C) I
  have r2 : Vals (V.ref (s.heap.objs.size + 1) :: vs) (Value.ref (s.heap.objs.size + 1) :: us) := .cons rfl r
  have hl : (Value.ref (s.heap.objs.size + 1) :: us ++ []).length = ps.length := by
    have e := r2.length
    rw [F.len _ _ _ _ hq] at e
    rw [List.append_nil]
    exact e.symm
  have hb2 := hb _ (Value.ref (s.heap.objs.size + 1) :: us) I2.kIn hl
  rw [List.append_nil] at hb2
  refine wpAny_call (make_map (f := f) I.kIn M.makes M.init (beq_iff_eq.mp M.fn) (codeAny_mono (F.run _ X.stack _ _ ⟨Value.ref (s.heap.objs.size + 1) :: us, []⟩ (Value.ref (s.heap.objs.size + 1) :: us) _ _ (E σ) (hr.make C us [])
    (I2.env0.make C us []) hb2 r2 hq) fun r s' hq' => ?_))
  cases r with
  | error e => exact hx pins _ _ e s' I2 hq'
  | ok fl =>
    cases fl with
    | ret u =>
      obtain ⟨v, H', I3, rv, ev, q3⟩ := I2.after hq'
      subst ev
      exact ⟨rv, ⟨V.ref (s.heap.objs.size + 1), H', I3, rfl, q3⟩⟩
    | next => exact False.elim hq'
    | brk => exact False.elim hq'
    | cont => exact False.elim hq'
theorem pe_makeS (M : Mk X.K C f) (F : FnOk X.prog X.w X.K X.mg X.base CX k f fd ps sp) (hr : Room (k + 1) X.A) (hg : Gl X x) (hm : X.mg x = some (.ref C)) (hb : Binds X.K fd ps []) (hx : ∀ σ, PassesAt CX X σ (E σ))
    (ha : PA X (e :: es) t) (hdb : (x == ("__debug__" : Str)) = false := by decide) (he : starEach (e :: es) X.env = (false, eval e X.env) :: starEach es X.env := by rfl) (hpl : (backTo pos (starEach es X.env)).any (·.1) = false := by rfl) :
    PE X (.Call (.Name x p) (e :: es) [] pos) (tMakeS C sp E t) := by
  refine ⟨fun pins s σ H Q I h => ?_⟩
  refine wpAny_Call_Name_kw (ld_glob I hg hm ?_ hdb)
  refine PySem.W.callWith_K (h₀ := X.base) I.ok.mod.kin M.kp (thn (ha.run pos pins s σ H _ I h) fun us s1 ⟨vs, H1, I1, r, q⟩ => ⟨I1.kIn, ?_⟩) he hpl
  exact run_makeS M F hr hb (hx σ) I1 r q
end
end Xa
namespace Ld
open PySem PySem.Spec PyProof.Rows L2 Lx Sh
def spInitR (K : PySem.W.Frag) (C : Addr) (pre : Dat → Prop) (X : Addr) : Sp := fun vs H _ E => ∃ (B H0 : Hp) (x dx : Addr) (v : V) (d : Dat), vs = [.ref x, v] ∧ Same B H0 ∧ H0 x = none ∧ H0 dx = none ∧ dx ≠ x ∧ H = upd (upd H0 dx (.own x)) x (.ins C dx []) ∧ Dq B v d ∧ pre d ∧
  ∀ S', Gr L0 ⟨B, H⟩ S' → Same S'.b S'.h → E (.ref X) none S'.h
theorem env_startN {K : PySem.W.Frag} {N : List Str} {u v : V} {d : Dat} {B H : Hp} (sub : Same B H) (h : Dq B v d) (hl : 2 ≤ N.length) : Env K L0 ⟨B, H⟩ (.no :: .dt d :: List.replicate (N.length - 2) Cell.no) [] (L2.start N [u, v]) [] ⟨B, H⟩ := by
  refine ⟨Gr.refl _ _, sub, ?_, fun _ => none, fun i c e => ?_, trivial⟩
  · unfold L2.start
    simp
  · match i, e with
    | 0, e => cases e; trivial
    | 1, e =>
      cases e
      exact ⟨v, rfl, h⟩
    | i + 2, e =>
      have e1 : (List.replicate (N.length - 2) Cell.no)[i]? = some c := e
      have e2 := List.mem_of_getElem? e1
      rw [List.mem_replicate] at e2
      rw [e2.2]
      trivial
section
variable {P : Program} {w : World} {K : PySem.W.Frag} {mg : Str → Option Value} {base : Heap}
theorem ok_IR {C X : Addr} {pre : Dat → Prop} {x qual : Str} {st : Stmt} {f : Addr} {fd : FuncData} {N ps : List Str} {k : Nat} (F : Fun K x qual st f fd) (Sc : FnScope N ps (defScope st)) (hl : ps.length = 2) (hN : 2 ≤ N.length)
    (hb : ∀ (cdv : Value) (A : Around) (outer : List PySem.Env) (s : Shared) (H : Hp) (E : XK), Room k (A.deeper (envOfC qual (defScope st) s.heap.objs.size f cdv)) →
      ∃ t, PSs (BxN P w K mg base N qual st f cdv A outer s H E) (defBody st) t ∧ ∀ d S0, pre d → XF E L0 S0 X → VSr K L0 S0 (.no :: .dt d :: List.replicate (N.length - 2) Cell.no) t) : FnOk P w K mg base (L2N.CX P w) (k + 1) f fd ps (spInitR K C pre X) := by
  have hlen : ∀ vs H Q E, spInitR K C pre X vs H Q E → vs.length = ps.length := fun vs H Q E h => by
    obtain ⟨_, _, _, _, _, _, rfl, _⟩ := h
    rw [hl]; rfl
  obtain ⟨oc, od, kV, doc, pm, an, cdv, ct, osl, rfl, lk, hcd⟩ := F.ex
  refine fn_of lk hcd Sc hlen fun A outer s H vs Q E hr h => ?_
  obtain ⟨t, ht, hv⟩ := hb cdv A outer s H E hr
  obtain ⟨B, H0, a, dx, v, d, rfl, sub, hx, hdx, ne, rfl, hd, hp, q⟩ := h
  have s0 : Same H0 (upd (upd H0 dx (.own a)) a (.ins C dx [])) := fun y u e => by
    rw [upd_ne (ne_of_none e hx), upd_ne (ne_of_none e hdx)]; exact e
  exact ⟨t, ht, hv d ⟨B, _⟩ hp q [] (L2.start N [.ref a, v]) [] ⟨B, _⟩ _ (env_startN (sub.trans s0) hd hN)⟩
end
section
variable {K : PySem.W.Frag} {Γ : List Cell} {Θ : List Tmp}
theorem ss_tryMake {C X : Addr} {pre : Dat → Prop} {c : Value} {n : Nat} {idx : Addr → Option Int} {args : TA} {R : DE} (hn : n < Γ.length)
    (h : ∀ ss, VAX K Γ (srcT ss) args fun Γ1 as => ∃ d m, as = [.dt d] ∧ pre d ∧ PySem.W.exmOne K (.ref X) c = some true ∧ idx X = some m ∧ R.rt Γ1 (.tuple [.str "refused", .int m])) :
    VSs K Γ (fun D σ H => tRet (Xa.tMakeS C (spInitR K C pre X) (fun σ' cls d H' => L2.wAs K c n (fun a cl d => tRet (tCall (spE idx a cl d) [] E0 (tCons (tVar n) tNil))) (fun _ _ _ _ => False) D cls d σ' H') args) D σ H) R := fun ss L S0 σ τ S D E kn kr kb kc => by
  refine h ss L S0 σ τ _ _ E fun Γ1 S1 vs as E1 p ⟨d, m, ex, hp, hc, hn', hq⟩ => ?_
  subst ex
  cases p with | cons p1 pa => cases pa with | nil =>
  intro x dx hx hdx ne
  have s0 : Same S1.h (upd (upd S1.h dx (.own x)) x (.ins C dx [])) := fun y u e => by
    rw [upd_ne (ne_of_none e hx), upd_ne (ne_of_none e hdx)]; exact e
  have g0 : Gr L0 S1 ⟨S1.b, upd (upd S1.h dx (.own x)) x (.ins C dx [])⟩ := gr_same s0
  refine ⟨S1.b, S1.h, x, dx, _, d, rfl, E1.sub, hx, hdx, ne, rfl, p1, hp, fun S' g s => ⟨true, hc, fun _ a ha => ?_, fun z => nomatch z⟩⟩
  have hl : n < σ.length := by rw [E.len]; exact hn
  refine ⟨.ref a, List.getElem?_set_self hl, ?_⟩
  refine ⟨rfl, ha, rfl, X, m, rfl, hn', S'.b, s, fun v S2 g2 s2 hd => ?_⟩
  exact kr Γ1 σ S2 v _ (E1.grow ((g0.trans0 g).trans0 g2) s2) hd hq
/-! a try's body, if by if -/
theorem ss_trySkip {tt : TT} {X : TS} {Y : Ends → TS} {R : DE} (h : ∀ ss, VT K Γ (srcT ss) tt fun Γ1 c => c = false ∧ Γ1 = Γ) (q : VSs K Γ (fun D σ H => Y D D σ H) R) :
    VSs K Γ (fun D σ H => tSeq (tIfS tt X tNext) (Y D) D σ H) R := fun ss L S0 σ τ S D E kn kr kb kc => by
  refine h ss L S0 σ τ S _ E fun Γ1 S1 c E1 ⟨e1, e2⟩ => ?_
  subst e1
  subst e2
  rw [if_neg Bool.false_ne_true]
  exact q ss L S0 σ τ S1 D E1 kn kr kb kc
theorem ss_tryTake {tt : TT} {X : Ends → TE} {Y : Ends → TS} {R : DE} (h : ∀ ss, VT K Γ (srcT ss) tt fun Γ1 c => c = true ∧ Γ1 = Γ) (q : VSs K Γ (fun D σ H => tRet (X D) D σ H) R) :
    VSs K Γ (fun D σ H => tSeq (tIfS tt (tRet (X D)) tNext) (Y D) D σ H) R := fun ss L S0 σ τ S D E kn kr kb kc => by
  refine h ss L S0 σ τ S _ E fun Γ1 S1 c E1 ⟨e1, e2⟩ => ?_
  subst e1
  subst e2
  rw [if_pos rfl]
  exact q ss L S0 σ τ S1 D E1 kn kr kb kc
/-- an index that is known -/
def Ixd (Γ : List Cell) (tx : TE) (j : Nat) : Prop := ∀ (L : Addr → Prop) (S0 : Hs) (σ : L2.St) (τ : List V) (Θ : List Tmp) (S : Hs) (Q : VK), Env K L S0 Γ Θ σ τ S → Q (.int j) S.h → tx σ S.h Q
theorem ixd_var {i j : Nat} (hi : Γ[i]? = some (.dt (.int j))) : Ixd (K := K) Γ (tVar i) j := fun L S0 σ τ Θ S Q Ev q => by
  obtain ⟨w, h1, h2⟩ := id Ev.ok
  obtain ⟨v, ev, dv⟩ := h1 i _ hi
  cases dv
  exact ⟨_, ev, q⟩
theorem ve_callTabX {fs : List Addr} {T : Addr → Sp → Prop} {E : L2.St → XK} {j : Nat} {f : Addr} {tx : TE} {ta : TA} {Q : List Cell → Tmp → Prop} {α : Type} {A : α → List Arg} {pre : α → Prop} {post : α → Dat → Prop} (hz : fs.length ≤ 64) (hi : Ixd (K := K) Γ tx j) (hf : fs[j]? = some f) (hT : T f (spG K A pre post))
    (h : VAX K Γ Θ ta fun Γ2 as => ∃ x, as = A x ∧ pre x ∧ ∀ d, post x d → Q Γ2 (.dt d)) :
    VE K Γ Θ (Xa.tCallAny T E (tOp (rIxL K) (tLst (tRefs fs)) tx) ta) Q := by
  intro L S0 σ τ S Qv Ev k
  refine tRefs_ok fs σ S.h _ ⟨by rw [List.length_map]; exact Sh.gl_le (by omega), fun l hl => ?_⟩
  have E1 : Env K L S0 Γ Θ σ τ ⟨S.b, upd S.h l (.lst (fs.map V.ref))⟩ := newRefs Ev hl
  refine hi L S0 σ τ Θ _ _ E1 ?_
  refine ⟨l, fs.map V.ref, (j : Int), .ref f, rfl, rfl, .inl (.of upd_same), Sh.atI_nat (by rw [List.getElem?_map, hf]; rfl), f, _, rfl, hT, ?_⟩
  exact h L S0 σ τ _ _ E1 fun Γ2 S2 vs as E2 p ⟨x, ex, hp, q⟩ => by
    subst ex
    exact ⟨S2.b, x, E2.sub, p, hp, fun v S' d g s hd hq => k Γ2 S' v _ ((E2.grow g s).push hd) (q d hq)⟩
theorem ss_tryTabX {fs : List Addr} {T : Addr → Sp → Prop} {α : Type} {A : α → List Arg} {pre : α → Prop} {C : α → Addr} {c : Value} {n j : Nat} {f : Addr} {idx : Addr → Option Int} {tx : TE} {args : TA} {R : DE} (hn : n < Γ.length) (hz : fs.length ≤ 64) (hi : Ixd (K := K) Γ tx j) (hf : fs[j]? = some f) (hT : T f (spR K A pre C))
    (h : ∀ ss, VAX K Γ (srcT ss) args fun Γ1 as => ∃ x m, as = A x ∧ pre x ∧ PySem.W.exmOne K (.ref (C x)) c = some true ∧ idx (C x) = some m ∧ R.rt Γ1 (.tuple [.str "refused", .int m])) :
    VSs K Γ (fun D σ H => tRet (Xa.tCallAny T (fun σ' cls d H' => L2.wAs K c n (fun a cl d => tRet (tCall (spE idx a cl d) [] E0 (tCons (tVar n) tNil))) (fun _ _ _ _ => False) D cls d σ' H') (tOp (rIxL K) (tLst (tRefs fs)) tx) args) D σ H) R := fun ss L S0 σ τ S D E kn kr kb kc => by
  refine tRefs_ok fs σ S.h _ ⟨by rw [List.length_map]; exact Sh.gl_le (by omega), fun l hl => ?_⟩
  have E1 := newRefs (xs := fs.map V.ref) E hl
  refine hi L S0 σ τ _ _ _ E1 ?_
  refine ⟨l, fs.map V.ref, (j : Int), .ref f, rfl, rfl, .inl (.of upd_same), Sh.atI_nat (by rw [List.getElem?_map, hf]; rfl), f, _, rfl, hT, ?_⟩
  refine h ss L S0 σ τ _ _ E1 fun Γ1 S1 vs as E1 p ⟨x, m, ex, hp, hc, hn', hq⟩ => ?_
  subst ex
  refine ⟨S1.b, x, E1.sub, p, hp, fun S' g s => ⟨true, hc, fun _ a ha => ?_, fun z => nomatch z⟩⟩
  have hl : n < σ.length := by rw [E.len]; exact hn
  refine ⟨.ref a, List.getElem?_set_self hl, ?_⟩
  refine ⟨rfl, ha, rfl, C x, m, rfl, hn', S'.b, s, fun v S2 g2 s2 hd => ?_⟩
  exact kr Γ1 σ S2 v _ (E1.grow (g.trans0 g2) s2) hd hq
end
theorem er_lc2 {K : PySem.W.Frag} {L : Addr → Prop} {S0 : Hs} {Γ : List Cell} {Θ : List Tmp} {wi wi1 : TI} {g g1 : TG} {tt tt1 : TT} {te : TE} {vs vs1 : List Nat} (h : VIr K L S0 Γ Θ wi) : VEr K L S0 Γ Θ (tLc2 wi g tt wi1 g1 tt1 te vs vs1) := fun σ τ S Qv E => h σ τ S _ E
theorem er_callD0 {K : PySem.W.Frag} {L : Addr → Prop} {S0 : Hs} {Γ : List Cell} {Θ : List Tmp} {α : Type} {A : α → List Arg} {pre : α → Prop} {C : α → Addr} {E : XK} {t : TA} (h : VAX K Γ Θ t fun Γ1 as => ∃ x, as = A x ∧ pre x ∧ XF E L S0 (C x)) : VEr K L S0 Γ Θ (L2.tCallSD (spR K A pre C) [] (fun _ => E) t) := fun σ τ S Qv E0 => h L S0 σ τ S _ E0 fun Γ1 S1 vs as E1 p ⟨x, ex, hp, hE⟩ => by
  refine ⟨S1.b, x, E1.sub, ?_, hp, fun S' g s => hE S' (E1.gr.trans0 g) s⟩
  rw [← ex]
  have := p
  simpa using p
end Ld
namespace Sh
open PySem PySem.Spec PyProof.Rows L2 Lx Ld
def BadRow (d : Dat) : Prop := okD d = true ∧ isRowD d = false
def BadShelf (d : Dat) : Prop := okD d = true ∧ isShelfD d = false
def BadLine (d : Dat) : Prop := okDD d = true ∧ isLineD d = false
def BadPl (n : Nat) (d : Dat) : Prop := isK d = true ∧ isWithinD d n 9 = false
def BadMany (d : Dat) : Prop := isK d = true ∧ isWithinD d 0 24 = false
def BadCnt (d : Dat) : Prop := okD d = true ∧ areCntD d 3 = false
def BadWord (d : Dat) : Prop := isK d = true ∧ isWordD d = false
def BadPls (d : Dat) : Prop := okD d = true ∧ arePlD d 3 = false
def LetSh (d : Dat) : Prop := okD d = true ∧ ∀ r, d = .tuple r → ∀ d ∈ r, SeqAt.shaped d = true
def BadLet (d : Dat) : Prop := LetSh d ∧ isLetD [3, 1, 2] 1 d = false
def BadMv (p : Dat × Dat) : Prop := isK p.1 = true ∧ isK p.2 = true ∧ (isWithinD p.1 0 2 && isWithinD p.2 0 2) = false
abbrev row3 : Dat := .tuple [.int 3, .int 1, .int 2]
abbrev rowM : Dat := .tuple [.int 1, .none]
abbrev row12 : Dat := .tuple ((List.range 12).map fun i => .int (i : Nat))
end Sh
set_option Elab.async false
set_option linter.all false
set_option maxRecDepth 100000
namespace Ld
open PySem PySem.Spec PyProof.Rows L2 Lx
theorem ixd_sub {K : PySem.W.Frag} {Γ : List Cell} {i k c j : Nat} (hi : Γ[i]? = some (.dt (.int k))) (h : k = j + c) : Ixd (K := K) Γ (tOp (rI0 fun i j => V.int (i - j)) (tVar i) (tC (.int (c : Int)))) j := fun L S0 σ τ Θ S Q Ev q => by
  obtain ⟨w, h1, h2⟩ := id Ev.ok
  obtain ⟨v, ev, dv⟩ := h1 i _ hi
  cases dv
  refine ⟨_, ev, (k : Int), (c : Int), rfl, rfl, ?_⟩
  show Q (V.int ((k : Int) - (c : Int))) S.h
  rw [show (k : Int) - (c : Int) = (j : Int) by omega]
  exact q
theorem allB {bs : List Dat} {chk : Dat → Bool} (h : bs.all chk = true) {i : Nat} {d : Dat} (hd : bs[i]? = some d) : chk d = true := List.all_eq_true.mp h d (List.mem_of_getElem? hd)
end Ld
namespace Sh
open PySem PySem.Spec PyProof.Rows L2 Lx Ld
abbrev rfd (n : Int) : Dat := .tuple [.str "refused", .int n]
abbrev onD : Dat := .str "on"
/-- what is asked, and told -/
inductive RefR : Nat → Dat → Dat → Dat → Dat → Prop
  | row {k : Nat} {d : Dat} : k < 19 → k ≠ 15 → BadRow d → RefR k d .none .none (rfd 0)
  | mark {k : Nat} : (k = 5 ∨ (10 ≤ k ∧ k ≤ 14) ∨ (16 ≤ k ∧ k ≤ 18)) → RefR k rowM .none .none (rfd 4)
  | shelf {k : Nat} {d : Dat} : (k = 6 ∨ k = 7) → BadShelf d → RefR k row3 d .none (rfd 1)
  | line8 {d : Dat} : BadLine d → RefR 8 row3 d .none (rfd 2)
  | line {k : Nat} {d : Dat} : 19 ≤ k → k ≤ 21 → BadLine d → RefR k d .none .none (rfd 2)
  | places9 {d : Dat} : BadPl 1 d → RefR 9 row3 d .none (rfd 3)
  | places {k : Nat} {d : Dat} : (11 ≤ k ∧ k ≤ 14 ∨ 16 ≤ k ∧ k ≤ 17) → BadPl 0 d → RefR k row3 d .none (rfd 3)
  | places15 {d : Dat} : BadPl 0 d → RefR 15 (.int 3) d .none (rfd 3)
  | many {d : Dat} : BadMany d → RefR 15 d .none .none (rfd 7)
  | counts {d : Dat} : BadCnt d → RefR 10 row3 d .none (rfd 5)
  | ahead : RefR 13 row12 (.int 9) .none (rfd 7)
  | rowOf : RefR 10 row3 (.list [.int 0, .int 1, .int 2]) .none (.tuple [.int 3, .int 2, .int 1])
  | letting {k : Nat} {d : Dat} : 16 ≤ k → k ≤ 17 → BadLet d → RefR k row3 (.int 1) d (rfd 6)
  | let1 : RefR 16 row3 (.int 1) (.tuple [onD, onD, .int 1, onD, .int 2, .int 3]) (.tuple [.int 1, .int 2, .int 3])
  | let2 : RefR 16 row3 (.int 2) (.tuple [onD, onD, onD, .int 1, .int 2, .int 3]) (.tuple [.int 1, .int 2, .int 3])
  | mv {a b : Dat} : BadMv (a, b) → RefR 18 row3 a b (rfd 8)
  | mv1 : RefR 18 row3 (.int 0) (.int 2) (.tuple [.int 1, .int 2, .int 3])
  | mv2 : RefR 18 row3 (.int 2) (.int 2) row3
  | wrow {k : Nat} {d : Dat} : (k = 22 ∨ k = 23) → BadRow d → RefR k d .none .none (rfd 0)
  | wmark {k : Nat} : (k = 22 ∨ k = 23) → RefR k rowM .none .none (rfd 4)
  | word {d : Dat} : BadWord d → RefR 22 row3 d .none (rfd 1)
  | pls {d : Dat} : BadPls d → RefR 22 row3 (.str "light") d (rfd 3)
  | pw : RefR 22 row3 (.str "heavy") (.tuple [.int 0, .int 9, .int 1]) (.tuple [.int 3, .int 2, .int 1])
  | need : RefR 23 row3 .none .none (.list [.int 1, .int 1, .int 0])
abbrev RefT := Nat × Dat × Dat × Dat × Dat
def refA (x : RefT) : List Ld.Arg := [.dt (.int x.1), .dt x.2.1, .dt x.2.2.1, .dt x.2.2.2.1]
def refP (x : RefT) : Prop := RefR x.1 x.2.1 x.2.2.1 x.2.2.2.1 x.2.2.2.2
def refG (lo hi : Nat) (x : RefT) : Prop := refP x ∧ lo ≤ x.1 ∧ x.1 < hi
def refV (x : RefT) : Dat := x.2.2.2.2
theorem refA_len (x : RefT) : (refA x).length = 4 := rfl
theorem ref_un {K : PySem.W.Frag} {vs : List V} {H : Hp} {Q : VK} {E : XK} (h : spF K refA refP refV vs H Q E) : (((((spF K refA (refG 0 6) refV vs H Q E ∨ spF K refA (refG 6 14) refV vs H Q E) ∨ spF K refA (refG 14 16) refV vs H Q E) ∨ spF K refA (refG 16 18) refV vs H Q E) ∨ spF K refA (refG 18 19) refV vs H Q E) ∨ spF K refA (refG 22 100) refV vs H Q E) ∨ spF K refA (refG 19 22) refV vs H Q E := by
  obtain ⟨B, x, s, a, p, q⟩ := h
  have hk : x.1 < 100 := by
    have p : RefR x.1 x.2.1 x.2.2.1 x.2.2.2.1 x.2.2.2.2 := p
    generalize x.1 = k at p ⊢
    generalize x.2.1 = a at p
    generalize x.2.2.1 = b at p
    generalize x.2.2.2.1 = c at p
    generalize x.2.2.2.2 = v at p
    cases p <;> omega
  by_cases h1 : x.1 < 6
  · exact .inl (.inl (.inl (.inl (.inl (.inl ⟨B, x, s, a, ⟨p, Nat.zero_le _, h1⟩, q⟩)))))
  by_cases h2 : x.1 < 14
  · exact .inl (.inl (.inl (.inl (.inl (.inr ⟨B, x, s, a, ⟨p, by omega, h2⟩, q⟩)))))
  by_cases h3 : x.1 < 16
  · exact .inl (.inl (.inl (.inl (.inr ⟨B, x, s, a, ⟨p, by omega, h3⟩, q⟩))))
  by_cases h4 : x.1 < 18
  · exact .inl (.inl (.inl (.inr ⟨B, x, s, a, ⟨p, by omega, h4⟩, q⟩)))
  by_cases h5 : x.1 < 19
  · exact .inl (.inl (.inr ⟨B, x, s, a, ⟨p, by omega, h5⟩, q⟩))
  by_cases h6 : x.1 < 22
  · exact .inr ⟨B, x, s, a, ⟨p, by omega, h6⟩, q⟩
  · exact .inl (.inr ⟨B, x, s, a, ⟨p, by omega, hk⟩, q⟩)
theorem dsc3 : dsc [3, 1, 2] = [3, 2, 1] := (eq_dsc (by decide) (by unfold OrdB; decide)).symm
theorem rowF3 : rowF (dsc [3, 1, 2]) [0, 1, 2] = [3, 2, 1] := by rw [dsc3]; decide +kernel
theorem dsc12 : dsc ((List.range 12).map (fun i : Nat => (i : Int))) = [11, 10, 9, 8, 7, 6, 5, 4, 3, 2, 1, 0] := (eq_dsc (by decide +kernel) (by unfold OrdB; decide)).symm
theorem many12 : 3000 < manyA ((List.range 12).map (fun i : Nat => (i : Int))) 9 := by
  unfold manyA cansA
  rw [dsc12]
  decide +kernel
theorem lp3 : tm false (lp ((tm false [3, 1, 2]).zip [0, 9, 1]) []) = [3, 2, 1] := by
  have a1 : asc ([] ++ [(-3 : Int)]) = [-3] := (eq_asc (by decide) (by decide)).symm
  have a2 : asc ([] ++ [(-1 : Int)]) = [-1] := (eq_asc (by decide) (by decide)).symm
  have a3 : asc ([(-1 : Int)] ++ [-2]) = [-2, -1] := (eq_asc (by decide) (by decide)).symm
  have a4 : asc [(-1 : Int)] = [-1] := (eq_asc (by decide) (by decide)).symm
  have e : lp [((-3 : Int), 0), (-1, 9), (-2, 1)] [] = [-3, -2, -1] := by
    rw [lp, a1]
    show [(-3 : Int)] ++ lp [(-1, 9), (-2, 1)] [] = _
    rw [lp, a2]
    show [(-3 : Int)] ++ ([] ++ lp [(-2, 1)] [-1]) = _
    rw [lp, a3]
    show [(-3 : Int)] ++ ([] ++ ([-2] ++ lp [] [-1])) = _
    rw [lp, a4]
    rfl
  rw [show (tm false [3, 1, 2]).zip [0, 9, 1] = [((-3 : Int), 0), (-1, 9), (-2, 1)] from by decide +kernel, e]
  decide +kernel
end Sh
set_option Elab.async false
set_option linter.all false
set_option maxRecDepth 100000
namespace Sh
open PySem PySem.Spec PyProof.Rows L2 Lx Ld
theorem an {a b : Bool} (h : (a && !b) = true) : a = true ∧ b = false := by cases a <;> cases b <;> first | (cases h; done) | exact ⟨rfl, rfl⟩ | cases h
def chRow (d : Dat) : Bool := okD d && !isRowD d
def chShelf (d : Dat) : Bool := okD d && !isShelfD d
def chLn1 (d : Dat) : Bool := okDD (.tuple [d]) && !isLineD (.tuple [d])
def chLine (d : Dat) : Bool := okDD d && !isLineD d
def chPl (n : Nat) (d : Dat) : Bool := isK d && !isWithinD d n 9
def chMany (d : Dat) : Bool := isK d && !isWithinD d 0 24
def chCnt (d : Dat) : Bool := okD d && !areCntD d 3
def chWord (d : Dat) : Bool := isK d && !isWordD d
def chPls (d : Dat) : Bool := okD d && !arePlD d 3
def shs (d : Dat) : Bool := match d with
  | .tuple r => r.all SeqAt.shaped
  | _ => true
def chLet (d : Dat) : Bool := (okD d && shs d) && !isLetD [3, 1, 2] 1 d
def chMv (d : Dat) : Bool := match d with
  | .tuple [a, b] => (isK a && isK b) && !(isWithinD a 0 2 && isWithinD b 0 2)
  | _ => false
theorem bRow {d : Dat} (h : chRow d = true) : BadRow d := an h
theorem bShelf {d : Dat} (h : chShelf d = true) : BadShelf d := an h
theorem bLn1 {d : Dat} (h : chLn1 d = true) : BadLine (.tuple [d]) := an h
theorem bLine {d : Dat} (h : chLine d = true) : BadLine d := an h
theorem bPl {n : Nat} {d : Dat} (h : chPl n d = true) : BadPl n d := an h
theorem bMany {d : Dat} (h : chMany d = true) : BadMany d := an h
theorem bCnt {d : Dat} (h : chCnt d = true) : BadCnt d := an h
theorem bWord {d : Dat} (h : chWord d = true) : BadWord d := an h
theorem bPls {d : Dat} (h : chPls d = true) : BadPls d := an h
theorem bLet {d : Dat} (h : chLet d = true) : BadLet d := by
  obtain ⟨h1, h2⟩ := an h
  rw [Bool.and_eq_true] at h1
  refine ⟨⟨h1.1, fun r hr d hd => ?_⟩, h2⟩
  subst hr
  exact List.all_eq_true.mp h1.2 d hd
theorem bMv {d : Dat} (h : chMv d = true) : ∃ a b, d = .tuple [a, b] ∧ BadMv (a, b) := by
  match d, h with
  | .tuple [a, b], h =>
    obtain ⟨h1, h2⟩ := an h
    rw [Bool.and_eq_true] at h1
    exact ⟨a, b, rfl, h1.1, h1.2, h2⟩
end Sh
namespace Sh
open PySem PySem.Spec PyProof.Rows L2 Lx Ld
def badCs : List Dat := [.none, .tuple [.int 0, .int 0, .int 0], .list [.int 0, .int 0], .list [.int 0, .int 0, .int 0, .int 0], .list [.int 1, .int 0, .int 0], .list [.int 0, .int 2, .int 0], .list [.int 0, .int 0, .int (-1)], .list [.int 0, .int 0, .int 3], .list [.int 0, .bool true, .int 0]]
end Sh
namespace Sh
open PySem PySem.Spec PyProof.Rows L2 Lx Ld
def badLs : List Dat := [.none, .tuple [], .list [onD, .int 3], .tuple [onD, .int 3, onD, .int 1, onD], .tuple [onD, onD, onD, .int 1, .int 2, .int 3], .tuple [onD, .int 3, .int 3, onD, .int 1, onD],
  .tuple [onD, .int 1, onD, .int 3, onD, .int 2], .tuple [.int 3, onD, onD, .int 1, onD, .int 2], .tuple [onD, .int 3, onD, .int 1, onD, .str "bad_one"],
  .tuple [onD, .int 3, onD, .bool true, onD, .int 2], .tuple [onD, .int 3, .str "bad_one", .int 1, onD, .int 2], .tuple [onD, .int 3, .str "", .int 1, onD, .int 2]]
end Sh
namespace Sh
open PySem PySem.Spec PyProof.Rows L2 Lx Ld
def badRs : List Dat := [.none, .int 5, .list [.int 1, .int 2], .tuple [.int 1, .int 1], .tuple [.int 1, .str "2"], .tuple [.int 1, .bool true], .tuple [.tuple [.int 1]], .tuple ((List.range 25).map fun i => .int (i : Nat)), .str "12"]
def badSs : List Dat := [.none, .tuple [], .tuple [.str "light"], .list [.str "light", .int 1], .tuple [.str "dark", .int 1], .tuple [.str "light", .int (-1)], .tuple [.str "light", .int 10], .tuple [.str "light", .bool true]]
def ks18 : List Nat := [0, 1, 2, 3, 4, 5, 6, 7, 8, 9, 10, 11, 12, 13, 14, 16, 17, 18]
end Sh
namespace Sh
open PySem PySem.Spec PyProof.Rows L2 Lx Ld
def chMk (d : Dat) : Bool := match d with
  | .int n => decide (n = 5) || (decide (10 ≤ n) && decide (n ≤ 14) || decide (16 ≤ n) && decide (n ≤ 18))
  | _ => false
theorem bMk {d : Dat} (h : chMk d = true) : ∃ k : Nat, d = .int k ∧ (k = 5 ∨ (10 ≤ k ∧ k ≤ 14) ∨ (16 ≤ k ∧ k ≤ 18)) := by
  match d, h with
  | .int n, h =>
    have h : (decide (n = 5) || (decide (10 ≤ n) && decide (n ≤ 14) || decide (16 ≤ n) && decide (n ≤ 18))) = true := h
    simp only [Bool.or_eq_true, Bool.and_eq_true, decide_eq_true_eq] at h
    refine ⟨n.toNat, congrArg PyData.int (by omega), by omega⟩
end Sh
set_option Elab.async false
set_option linter.all false
set_option maxRecDepth 100000
set_option autoImplicit false
set_option maxHeartbeats 8000000
namespace Sh
open PySem PySem.Spec PyProof.Rows L2 Lx Ld
local macro_rules | `(tactic| walk_at "n") => `(tactic| first
  | exact nb_nil
  | exact nb_srcT
  | exact nb_app nb_srcT nb_nil
  | (refine nb_dt ?_; walk_at "n")
  | (refine nb_fr ?_; walk_at "n")
  | (refine nb_sc ?_; walk_at "n")
  | (refine nb_arg ?_; walk_at "n")
  | (refine nb_br (by decide) ?_; walk_at "n")
  | (refine nb_app nb_srcT ?_; walk_at "n"))
local macro_rules | `(tactic| fail "walk VE0") => `(tactic| first
  | ((with_reducible apply ve_var); exact rfl)
  | ((with_reducible apply ve_own); exact rfl; exact rfl)
  | ((with_reducible apply ve_scr); exact rfl)
  | ((with_reducible apply ve_ob); exact rfl)
  | (with_reducible refine ve_int ?_)
  | (with_reducible refine ve_bl ?_)
  | (with_reducible refine ve_non ?_)
  | (with_reducible refine ve_str ?_))
local macro_rules | `(tactic| fail "walk VE1") => `(tactic| first
  | (with_reducible refine ve_op ?_)
  | (with_reducible refine ve_isi ?_)
  | (with_reducible refine ve_c1 ?_)
  | (with_reducible refine ve_c2 ?_)
  | (with_reducible refine ve_callLF ?_)
  | (with_reducible refine ve_callL ?_)
  | (with_reducible refine ve_callNL ?_)
  | (with_reducible refine ve_callV ⟨_, isl_ow rfl⟩ ?_))
local macro_rules | `(tactic| fail "walk VE2") => `(tactic| first
  | (with_reducible refine ve_callOrF ?_)
  | (with_reducible refine ve_callF ?_)
  | (with_reducible refine ve_callFd ?_)
  | (with_reducible refine ve_callG ?_)
  | (with_reducible refine ve_callW ?_)
  | (with_reducible refine ve_tup ?_)
  | (with_reducible refine ve_tidxI ?_)
  | (with_reducible refine ve_popAt ⟨_, isl_ow rfl⟩ ?_))
local macro_rules | `(tactic| fail "walk VE3") => `(tactic| first
  | (with_reducible refine ve_pop0 ⟨_, isl_ow rfl⟩ ?_)
  | (with_reducible refine ve_append ⟨_, isl_ow rfl⟩ (vx_of ?_))
  | (with_reducible refine ve_append ⟨_, isl_ln rfl⟩ (vx_of ?_))
  | (with_reducible refine ve_insert ⟨_, isl_ow rfl⟩ (vx_of ?_))
  | (with_reducible refine ve_extend ⟨_, isl_ow rfl⟩ (vx_of ?_))
  | (with_reducible refine ve_indexI ?_)
  | (with_reducible refine ve_lcount ?_)
  | (with_reducible refine ve_remove ⟨_, isl_ln rfl⟩ ?_))
local macro_rules | `(tactic| fail "walk VE4") => `(tactic| first
  | (with_reducible refine ve_remove ⟨_, isl_ow rfl⟩ ?_)
  | (with_reducible refine ve_ifS ?_)
  | (with_reducible refine ve_ifE ?_)
  | (with_reducible refine ve_lst ?_)
  | (with_reducible refine ve_chain ?_)
  | ((with_reducible apply ve_fldSh); assumption; exact rfl)
  | (with_reducible refine ve_split ?_)
  | (with_reducible refine ve_rmp ?_))
local macro_rules | `(tactic| fail "walk VE5") => `(tactic| first
  | (with_reducible refine ve_join ?_)
  | (with_reducible refine ve_dnew ?_)
  | (with_reducible refine ve_dictZip ?_)
  | (with_reducible refine ve_dget ⟨_, rfl⟩ ?_)
  | (with_reducible refine ve_notV ?_)
  | (with_reducible refine ve_notTp ?_)
  | (with_reducible refine ve_andV ?_)
  | (with_reducible refine ve_orV ?_))
local macro_rules | `(tactic| fail "walk VE6") => `(tactic| first
  | (with_reducible refine ve_maxD ?_)
  | (with_reducible refine ve_un rfl ?_)
  | (with_reducible refine ve_lenSet ?_)
  | (with_reducible refine ve_revL ?_)
  | (with_reducible refine ve_slL ?_)
  | (with_reducible refine ve_slT ?_)
  | (with_reducible refine ve_slS ?_)
  | (with_reducible refine ve_lstRg1 ?_))
local macro_rules | `(tactic| fail "walk VE7") => `(tactic| first
  | (with_reducible refine ve_lstRg2 ?_)
  | (with_reducible refine ve_tidxO ?_))
local macro_rules | `(tactic| fail "walk VE") => `(tactic| first | fail "walk VE0" | fail "walk VE1" | fail "walk VE2" | fail "walk VE3" | fail "walk VE4" | fail "walk VE5" | fail "walk VE6" | fail "walk VE7")
local macro_rules | `(tactic| fail "walk VSs0") => `(tactic| first
  | (with_reducible refine ss_seq ?_)
  | (with_reducible refine ss_set fun ss => ?_)
  | (with_reducible refine ss_parT fun ss => ?_)
  | (with_reducible refine ss_setL fun ss => vx_of ?_)
  | (with_reducible refine ss_swap fun ss => ?_)
  | (with_reducible refine ss_asg4 (by decide) fun ss => ?_)
  | (with_reducible refine ss_asgG fun ss => ?_)
  | (with_reducible refine ss_if fun ss => ?_))
local macro_rules | `(tactic| fail "walk VSs1") => `(tactic| first
  | (with_reducible refine ss_ret fun ss => vd_of ?_)
  | (with_reducible refine ss_retN ?_)
  | (with_reducible refine ss_drop fun ss => ?_)
  | (with_reducible refine ss_par fun ss => ?_)
  | (with_reducible refine ss_par3 fun ss => ?_)
  | (with_reducible refine ss_next ?_)
  | (with_reducible refine ss_cont ?_)
  | (with_reducible refine ss_dput fun ss => ?_))
local macro_rules | `(tactic| fail "walk VSs2") => `(tactic| first
  | (with_reducible refine ss_augI ⟨_, rfl⟩ fun ss => ?_)
  | (with_reducible refine ss_augI0 ⟨_, rfl⟩ fun ss => ?_))
local macro_rules | `(tactic| fail "walk VSs") => `(tactic| first | fail "walk VSs0" | fail "walk VSs1" | fail "walk VSs2")
local macro_rules | `(tactic| fail "walk VAX") => `(tactic| first
  | (with_reducible refine vax_cons (vx_of ?_))
  | (with_reducible refine vax_star ?_)
  | (with_reducible refine vax_nil ?_))
local macro_rules | `(tactic| fail "walk VX") => `(tactic| first
  | (with_reducible refine vx_of ?_))
local macro_rules | `(tactic| fail "walk VT") => `(tactic| first
  | (with_reducible refine vt_B ?_)
  | (with_reducible refine vt_test ?_)
  | (with_reducible refine vt_and ?_)
  | (with_reducible refine vt_or ?_)
  | (with_reducible refine vt_not ?_)
  | (with_reducible refine vt_yes ?_)
  | (with_reducible refine vt_truL ?_)
  | (with_reducible refine vt_truTp ?_))
local macro_rules | `(tactic| fail "walk VD") => `(tactic| first
  | (with_reducible refine vd_of ?_))
local macro_rules | `(tactic| fail "walk R2V0") => `(tactic| first
  | (with_reducible refine r2_inS ?_)
  | (with_reducible refine r2_notInS ?_)
  | (with_reducible refine r2_ii ?_)
  | (with_reducible refine r2_ib ?_)
  | (with_reducible refine r2_eqI ?_)
  | (with_reducible refine r2_neI ?_)
  | (with_reducible refine r2_ic (by first | (show (_ : Int) < _; omega) | (unfold L2.CMul; omega) | (unfold L2.CDiv; omega) | (unfold L2.CPow; omega)) ?_)
  | (with_reducible refine r2_isB ?_))
local macro_rules | `(tactic| fail "walk R2V1") => `(tactic| first
  | (with_reducible refine r2_notB ?_)
  | (with_reducible refine r2_isN rd_dt ?_)
  | (with_reducible refine r2_notN rd_dt ?_)
  | (with_reducible refine r2_eqW ?_)
  | (with_reducible refine r2_eqWW ?_)
  | (with_reducible refine r2_eqB ?_)
  | (with_reducible refine r2_neB ?_))
local macro_rules | `(tactic| fail "walk R2V") => `(tactic| first | fail "walk R2V0" | fail "walk R2V1")
local macro_rules | `(tactic| fail "walk C1V0") => `(tactic| first
  | (with_reducible refine c1_strS ?_)
  | (with_reducible refine c1_strI (by omega) ?_)
  | (with_reducible refine c1_len (sq_l rd_dt) ?_)
  | (with_reducible refine c1_len (sq_l rd_fr) ?_)
  | (with_reducible refine c1_len sq_t ?_)
  | (with_reducible refine c1_len (sq_l (rd_ow rfl)) ?_)
  | (with_reducible refine c1_len (sq_l (rd_ln rfl)) ?_)
  | (with_reducible refine c1_tupL (rd_ow rfl) ?_))
local macro_rules | `(tactic| fail "walk C1V1") => `(tactic| first
  | (with_reducible refine c1_listL (rd_ow rfl) ?_)
  | (with_reducible refine c1_lenS ?_)
  | (with_reducible refine c1_intB ?_)
  | (with_reducible refine c1_intI ?_)
  | (with_reducible refine c1_tupT ?_)
  | (with_reducible refine c1_tupL rd_dt ?_)
  | (with_reducible refine c1_tupL rd_fr ?_)
  | (with_reducible refine c1_listT ?_))
local macro_rules | `(tactic| fail "walk C1V2") => `(tactic| first
  | (with_reducible refine c1_listL rd_dt ?_)
  | (with_reducible refine c1_listL rd_fr ?_))
local macro_rules | `(tactic| fail "walk C1V") => `(tactic| first | fail "walk C1V0" | fail "walk C1V1" | fail "walk C1V2")
local macro_rules | `(tactic| fail "walk VI0") => `(tactic| first
  | (with_reducible refine vi_str ?_)
  | (with_reducible refine vi_list ?_)
  | (with_reducible refine vi_tup ?_)
  | (with_reducible refine vi_rng1 ?_)
  | (with_reducible refine vi_rng2 ?_)
  | (with_reducible refine vi_enum ?_)
  | (with_reducible refine vi_enumT ?_)
  | (with_reducible refine vi_zip ?_))
local macro_rules | `(tactic| fail "walk VI1") => `(tactic| first
  | (with_reducible refine vi_zipM ?_)
  | (with_reducible refine vi_zipT2 ?_)
  | (with_reducible refine vi_zipLT ?_))
local macro_rules | `(tactic| fail "walk VI") => `(tactic| first | fail "walk VI0" | fail "walk VI1")
local macro_rules | `(tactic| fail "walk VG") => `(tactic| first
  | (with_reducible refine vg_name ?_)
  | (with_reducible refine vg_pair ?_)
  | (with_reducible refine vg_three ?_)
  | (with_reducible refine vg_nest ?_))
local macro_rules | `(tactic| fail "walk AsB") => `(tactic| first
  | (with_reducible refine asb ?_))
local macro_rules | `(tactic| fail "walk C2V") => `(tactic| first
  | (with_reducible refine c2_max ?_)
  | (with_reducible refine c2_min ?_))
local macro_rules | `(tactic| fail "walk VO") => `(tactic| first
  | (with_reducible refine vo_none ?_)
  | (with_reducible refine vo_some ?_))
local macro_rules | `(tactic| fail "walk Fz") => `(tactic| first
  | (with_reducible refine fz_dt ?_)
  | (with_reducible refine fz_fr ?_)
  | ((with_reducible apply fz_br); exact rfl))
local macro_rules | `(tactic| fail "walk Az") => `(tactic| first
  | (with_reducible refine az_dt ?_)
  | (with_reducible refine az_fr ?_)
  | (with_reducible refine az_sc ?_)
  | ((with_reducible apply az_br); exact rfl))
local macro_rules | `(tactic| fail "walk Sto") => `(tactic| first
  | (with_reducible refine sto_dt ?_)
  | (with_reducible refine sto_ob ?_)
  | (with_reducible refine sto_fr ?_)
  | ((with_reducible apply sto_br); exact rfl))
local macro_rules | `(tactic| fail "walk VSt") => `(tactic| first
  | (with_reducible refine st_seqT ?_)
  | (with_reducible refine st_ret fun ss => ?_)
  | (with_reducible refine st_if fun ss => ?_)
  | (with_reducible refine st_of ?_))
local macro_rules | `(tactic| fail "walk gen0") => `(tactic| first
  | (with_reducible refine fl_fr ?_)
  | ((with_reducible apply fl_br); exact rfl)
  | (refine ⟨⟨_, rd_dt⟩, ?_⟩)
  | (refine ⟨⟨_, rd_ow rfl⟩, ?_⟩)
  | (refine ⟨_, _, rfl, kb_ss, ?_⟩)
  | (refine ⟨_, _, rfl, kb_bb, ?_⟩)
  | (with_reducible refine b2 (fun hb => ?_) (fun hb => ?_))
  | (refine ⟨_, _, rfl, kb_tt, ?_⟩))
local macro_rules | `(tactic| fail "walk gen1") => `(tactic| first
  | (refine ⟨_, _, rfl, kb_ii, ?_⟩)
  | (refine ⟨_, _, rfl, kb_ib, ?_⟩)
  | (refine ⟨_, _, rfl, kb_ll, ?_⟩)
  | (refine ⟨_, (rfl : dts _ = some _), gl_le (by simp), ?_⟩)
  | (refine ⟨_, (rfl : Tmp.dt (.int _) = Tmp.dt (.int _)), ?_⟩)
  | (refine ⟨_, (rfl : Tmp.dt (.tuple _) = Tmp.dt (.tuple _)), ?_⟩)
  | (refine ⟨_, (rfl : PyData.list _ = PyData.list _), ?_⟩)
  | (refine ⟨_, (rfl : PyData.tuple _ = PyData.tuple _), ?_⟩))
local macro_rules | `(tactic| fail "walk gen2") => `(tactic| first
  | (refine ⟨_, rd_fr, ?_⟩)
  | (refine ⟨_, rd_dt, ?_⟩)
  | (refine ⟨_, rd_ow rfl, ?_⟩)
  | (refine ⟨⟨_, rfl⟩, ?_⟩)
  | (refine ⟨⟨_, isl_ow rfl⟩, ?_⟩)
  | (refine ⟨⟨_, isl_ln rfl⟩, ?_⟩)
  | (refine ⟨(by intro k z; cases z), _, _, rfl, rfl, ?_⟩)
  | (dsimp only [DE.wn]))
local macro_rules | `(tactic| fail "walk gen3") => `(tactic| first
  | (exact absurd (by assumption) Bool.false_ne_true)
  | (exact absurd (by assumption) Bool.false_ne_true.symm))
local macro_rules | `(tactic| fail "walk gen") => `(tactic| first | fail "walk gen0" | fail "walk gen1" | fail "walk gen2" | fail "walk gen3")
local macro_rules | `(tactic| fail "walk small") => `(tactic| first | (guard_target =~ VI ..; fail "walk VI") | (guard_target =~ VG ..; fail "walk VG") | (guard_target =~ AsB ..; fail "walk AsB") | (guard_target =~ C2V ..; fail "walk C2V") | (guard_target =~ VO ..; fail "walk VO") | (guard_target =~ Fz ..; fail "walk Fz") | (guard_target =~ Az ..; fail "walk Az") | (guard_target =~ Sto ..; fail "walk Sto") | (guard_target =~ VSt ..; fail "walk VSt"))
local macro_rules | `(tactic| fail "walk") => `(tactic| first | (guard_target =~ VE ..; fail "walk VE") | (guard_target =~ VSs ..; fail "walk VSs") | (guard_target =~ VAX ..; fail "walk VAX") | (guard_target =~ VX ..; fail "walk VX") | (guard_target =~ VT ..; fail "walk VT") | (guard_target =~ VD ..; fail "walk VD") | (guard_target =~ R2V ..; fail "walk R2V") | (guard_target =~ C1V ..; fail "walk C1V") | fail "walk small" | fail "walk gen" | fail "no step")
local macro_rules | `(tactic| walk_at "v") => `(tactic| fail "walk")
local macro_rules | `(tactic| walk_at "s") => `(tactic| (try dsimp only [DE.wn, putC, Cell.put, List.getElem?_cons_zero, List.getElem?_cons_succ, cxOf, cells0, List.map, Arg.cell, Arg.tmp, List.length, List.replicate, List.append, List.cons_append, List.nil_append, List.set, Nat.reduceAdd, Nat.reduceSub, List.reduceReplicate, clr, List.set_cons_zero, List.set_cons_succ]))
local macro_rules | `(tactic| walk_at "w") => `(tactic| (repeat' fail "walk"))
section
variable {P : Program} {w : World} {K : PySem.W.Frag} {mg : Str → Option Value} {base : Heap}
theorem ok__law_which {f : Addr} {fd : FuncData} (D : Df K mg "_law_which" s__law_which ["_law_e"] f fd) {C_NoRow : Addr} (g_NoRow : mg "NoRow" = some (.ref C_NoRow)) {C_NoShelf : Addr} (g_NoShelf : mg "NoShelf" = some (.ref C_NoShelf)) {C_NoLine : Addr} (g_NoLine : mg "NoLine" = some (.ref C_NoLine)) {C_NoPlaces : Addr} (g_NoPlaces : mg "NoPlaces" = some (.ref C_NoPlaces)) {C_Marked : Addr} (g_Marked : mg "Marked" = some (.ref C_Marked)) {C_NoCounts : Addr} (g_NoCounts : mg "NoCounts" = some (.ref C_NoCounts)) {C_NoLetting : Addr} (g_NoLetting : mg "NoLetting" = some (.ref C_NoLetting)) {C_TooMany : Addr} (g_TooMany : mg "TooMany" = some (.ref C_TooMany)) {C_NoMove : Addr} (g_NoMove : mg "NoMove" = some (.ref C_NoMove)) {C_NoText : Addr} (g_NoText : mg "NoText" = some (.ref C_NoText)) {C_NoNumber : Addr} (g_NoNumber : mg "NoNumber" = some (.ref C_NoNumber)) {C_Nothing : Addr} (g_Nothing : mg "Nothing" = some (.ref C_Nothing)) (m_isinstance : mg "isinstance" = none) (m_ValueError : mg "ValueError" = none) {idx : Addr → Option Int} (hK : ∀ X n, idx X = some n → KitF K X n [C_NoRow, C_NoShelf, C_NoLine, C_NoPlaces, C_Marked, C_NoCounts, C_NoLetting, C_TooMany, C_NoMove, C_NoText, C_NoNumber, C_Nothing]) : Xa.FnE P w K mg base 1 f fd ["_law_e"] (spE idx) := by
  obtain ⟨oc, od, kV, doc, pm, an, cdv, ct, osl, rfl, lk, hcd⟩ := D.F.ex
  refine Xa.fn_ofE lk hcd sc__law_which (fun a c d vs H Q E h => by obtain ⟨rfl, _⟩ := h; rfl) fun A outer s H vs Q E p cls d hot hz hr h => ?_
  obtain ⟨rfl, hn, rfl, X, n, rfl, hi, B, sub, q⟩ := h
  have kf := hK X n hi
  obtain ⟨hh, vs0, hv0, hc0⟩ := hot
  have ci : CallR (L2H.cxH CX0 P w K mg base ["_law_e", "_law_own"] "_law_which" (defScope s__law_which) f cdv A outer s H E p) (.builtin "isinstance") (rIsE K X p.1) := Xa.call_isX (a := p.1) (oe := p.2) (List.mem_singleton.mpr rfl) kf.e hz.zc ⟨vs0, hv0⟩
  refine ⟨_, (pss_cons (ps_set (i := 1) sc__law_which.nd rfl (Or.inl rfl) (pe_lst (pa_cons (pe_callB ci (by rfl) m_isinstance (by decide +kernel) (pa_cons (pv 0) (pa_cons (pe_glob (v := .ref C_NoRow) (by rfl) g_NoRow rfl) pa_nil))) (pa_cons (pe_callB ci (by rfl) m_isinstance (by decide +kernel) (pa_cons (pv 0) (pa_cons (pe_glob (v := .ref C_NoShelf) (by rfl) g_NoShelf rfl) pa_nil))) (pa_cons (pe_callB ci (by rfl) m_isinstance (by decide +kernel) (pa_cons (pv 0) (pa_cons (pe_glob (v := .ref C_NoLine) (by rfl) g_NoLine rfl) pa_nil))) (pa_cons (pe_callB ci (by rfl) m_isinstance (by decide +kernel) (pa_cons (pv 0) (pa_cons (pe_glob (v := .ref C_NoPlaces) (by rfl) g_NoPlaces rfl) pa_nil))) pa_nil))))))
      (pss_cons (ps_expr (pe_bm PySem.F.plainAttrs_list PySem.F.slot_list_extend PySem.F.type_list_extend mt_extend (pv 1) (pa_cons (pe_lst (pa_cons (pe_callB ci (by rfl) m_isinstance (by decide +kernel) (pa_cons (pv 0) (pa_cons (pe_glob (v := .ref C_Marked) (by rfl) g_Marked rfl) pa_nil))) (pa_cons (pe_callB ci (by rfl) m_isinstance (by decide +kernel) (pa_cons (pv 0) (pa_cons (pe_glob (v := .ref C_NoCounts) (by rfl) g_NoCounts rfl) pa_nil))) (pa_cons (pe_callB ci (by rfl) m_isinstance (by decide +kernel) (pa_cons (pv 0) (pa_cons (pe_glob (v := .ref C_NoLetting) (by rfl) g_NoLetting rfl) pa_nil))) (pa_cons (pe_callB ci (by rfl) m_isinstance (by decide +kernel) (pa_cons (pv 0) (pa_cons (pe_glob (v := .ref C_TooMany) (by rfl) g_TooMany rfl) pa_nil))) pa_nil))))) pa_nil)))
      (pss_cons (ps_expr (pe_bm PySem.F.plainAttrs_list PySem.F.slot_list_extend PySem.F.type_list_extend mt_extend (pv 1) (pa_cons (pe_lst (pa_cons (pe_callB ci (by rfl) m_isinstance (by decide +kernel) (pa_cons (pv 0) (pa_cons (pe_glob (v := .ref C_NoMove) (by rfl) g_NoMove rfl) pa_nil))) (pa_cons (pe_callB ci (by rfl) m_isinstance (by decide +kernel) (pa_cons (pv 0) (pa_cons (pe_glob (v := .ref C_NoText) (by rfl) g_NoText rfl) pa_nil))) (pa_cons (pe_callB ci (by rfl) m_isinstance (by decide +kernel) (pa_cons (pv 0) (pa_cons (pe_glob (v := .ref C_NoNumber) (by rfl) g_NoNumber rfl) pa_nil))) (pa_cons (pe_callB ci (by rfl) m_isinstance (by decide +kernel) (pa_cons (pv 0) (pa_cons (pe_glob (v := .ref C_Nothing) (by rfl) g_Nothing rfl) pa_nil))) pa_nil))))) pa_nil)))
      (pss_cons (ps_if (PW.pt (pw_or (pt_cmpR op_ne (pe_bm PySem.F.plainAttrs_list PySem.F.slot_list_count PySem.F.type_list_count Xa.mt_lcountV (pv 1) (pa_cons pe_bl pa_nil)) pe_int (nomark _)) (pw_or1 (pt_not (pt_val (pe_callB ci (by rfl) m_isinstance (by decide +kernel) (pa_cons (pv 0) (pa_cons (pe_bltn (v := .ty "ValueError") (by rfl) m_ValueError (by decide +kernel) rfl) pa_nil)))))))) (pss_one (ps_ret (pe_tupF (pa_cons pe_str (pa_cons (pe_un un_neg pe_int) pa_nil))))) pss_nil)
      (pss_one (ps_ret (pe_tupF (pa_cons pe_str (pa_cons (pe_bm PySem.F.plainAttrs_list PySem.F.slot_list_index PySem.F.type_list_index mt_index (pv 1) (pa_cons pe_bl pa_nil)) pa_nil))))))))), ?_⟩
  have sz : ∀ {n : Nat}, n ≤ 12 → n ≤ sizeLine := fun h => Sh.gl_le (by omega)
  refine is_rd rfl (kf.o 0 _ rfl) (is_rd rfl (kf.o 1 _ rfl) (is_rd rfl (kf.o 2 _ rfl) (is_rd rfl (kf.o 3 _ rfl) ⟨sz (by simp), fun l hl => ?_⟩)))
  refine ⟨_, rfl, .inl ⟨rfl, _, .of upd_same⟩, is_rd rfl (kf.o 4 _ rfl) (is_rd rfl (kf.o 5 _ rfl) (is_rd rfl (kf.o 6 _ rfl) (is_rd rfl (kf.o 7 _ rfl) ⟨sz (by simp), fun l2 hl2 => ?_⟩)))⟩
  have n12 : l ≠ l2 := fun e => by rw [← e, upd_same] at hl2; cases hl2
  refine ⟨l, l2, _, _, rfl, rfl, by rw [upd_ne n12, upd_same], upd_same, sz (by simp), ?_⟩
  refine ⟨_, rfl, .inl ⟨rfl, _, .of upd_same⟩, is_rd rfl (kf.o 8 _ rfl) (is_rd rfl (kf.o 9 _ rfl) (is_rd rfl (kf.o 10 _ rfl) (is_rd rfl (kf.o 11 _ rfl) ⟨sz (by simp), fun l3 hl3 => ?_⟩)))⟩
  have n13 : l ≠ l3 := fun e => by rw [← e, upd_same] at hl3; cases hl3
  refine ⟨l, l3, _, _, rfl, rfl, by rw [upd_ne n13, upd_same], upd_same, sz (by simp), ?_⟩
  have hn0 := kf.n0
  have hn1 := kf.n1
  have hcs : n = 0 ∨ n = 1 ∨ n = 2 ∨ n = 3 ∨ n = 4 ∨ n = 5 ∨ n = 6 ∨ n = 7 ∨ n = 8 ∨ n = 9 ∨ n = 10 ∨ n = 11 := by omega
  refine ⟨_, rfl, .inl ⟨rfl, _, .of upd_same⟩, l, _, _, rfl, rfl, .of upd_same, rfl, rfl, ?_⟩
  refine ⟨rfl, _, rfl, ?_⟩
  have fin : ∀ {j : Nat} {bs : List V} {H1 : Hp}, n = (j : Int) → j < 12 → H1 l = some (.lst bs) → bs.all flatV = true → bs[j]? = some (.bl true) → (bs.take j).all (fun z => !eqV z (.bl true)) = true → (∀ a o, H a = some o → H1 a = some o) →
      tRet (tTupF (tCons (tC (V.str "refused")) (tCons (tBM K "list" (rIndex K) (tVar 1) (tCons (tC (V.bl true)) tNil)) tNil))) { nx := fun _ H' => Q .non H', rt := Q } (List.set (L2.start ["_law_e", "_law_own"] [V.ref p.fst]) 1 (some (V.ref l))) H1 := fun {j bs H1} e hj h1 h2 h3 h4 hk => by
    refine ⟨_, rfl, .inl ⟨rfl, _, .of h1⟩, l, bs, .bl true, j, .bl true, rfl, rfl, .of h1, rfl, h2, h3, rfl, idx_pre h4, ?_⟩
    refine ⟨sz (by simp), ?_⟩
    intro p2 o2 hd2 hp2
    have hB2 : B p2 = none := by
      cases e2 : B p2 with
      | none => rfl
      | some u => rw [hk p2 u (sub p2 u e2)] at hp2; cases hp2
    have keepB : ∀ a o, H a = some o → upd H1 p2 (.frz o2 (.tup [.str "refused", .int (j : Int)])) a = some o := fun a o ea => by
      rw [upd_ne (ne_of_none (hk a o ea) hp2)]
      exact hk a o ea
    refine q (.ref p2) ⟨upd B p2 (.frz o2 (.tup [.str "refused", .int (j : Int)])), upd H1 p2 (.frz o2 (.tup [.str "refused", .int (j : Int)]))⟩ ⟨fun a o ea => ?_, fun a o _ ea => keepB a o ea, fun a ea na => ?_, fun a na => ?_⟩ (fun a o ea => ?_) ?_
    · show upd B p2 _ a = some o
      rw [upd_ne (ne_of_none ea hB2)]
      exact ea
    · show upd B p2 _ a = none
      by_cases e3 : a = p2
      · subst e3
        cases e4 : H a with
        | none => exact absurd e4 na
        | some u => rw [hk a u e4] at hp2; cases hp2
      · rw [upd_ne e3]
        exact ea
    · cases e4 : H a with
      | none => exact absurd e4 na
      | some u =>
        show upd H1 p2 _ a ≠ none
        rw [keepB a u e4]
        exact fun z => nomatch z
    · have ea : upd B p2 (.frz o2 (.tup [.str "refused", .int (j : Int)])) a = some o := ea
      show upd H1 p2 _ a = some o
      by_cases e3 : a = p2
      · subst e3
        rw [upd_same] at ea ⊢
        exact ea
      · rw [upd_ne e3] at ea
        exact keepB a o (sub a o ea)
    · rw [e]
      exact .tup hd2 upd_same (.cons (.str _) (.cons (.int _) .nil))
  have h2n : H l2 = none := by rw [upd_ne n12.symm] at hl2; exact hl2
  have h3n : H l3 = none := by
    rw [upd_ne n13.symm] at hl3
    by_cases e3 : l3 = l2
    · rw [e3, upd_same] at hl3; cases hl3
    · rw [upd_ne e3, upd_ne n13.symm] at hl3; exact hl3
  have kp : ∀ (x1 x2 x3 x4 x5 : HO) a o, H a = some o → upd (upd (upd (upd (upd H l x1) l2 x2) l x3) l3 x4) l x5 a = some o := fun x1 x2 x3 x4 x5 a o ea => by
    rw [upd_ne (ne_of_none ea hl), upd_ne (ne_of_none ea h3n), upd_ne (ne_of_none ea hl), upd_ne (ne_of_none ea h2n), upd_ne (ne_of_none ea hl)]
    exact ea
  rcases hcs with rfl | rfl | rfl | rfl | rfl | rfl | rfl | rfl | rfl | rfl | rfl | rfl
  · refine ite_f (by decide) (is_rdV rfl kf.v ⟨true, rfl, ite_f rfl ?_⟩)
    exact fin (j := 0) rfl (by decide) upd_same rfl rfl rfl (kp _ _ _ _ _)
  · refine ite_f (by decide) (is_rdV rfl kf.v ⟨true, rfl, ite_f rfl ?_⟩)
    exact fin (j := 1) rfl (by decide) upd_same rfl rfl rfl (kp _ _ _ _ _)
  · refine ite_f (by decide) (is_rdV rfl kf.v ⟨true, rfl, ite_f rfl ?_⟩)
    exact fin (j := 2) rfl (by decide) upd_same rfl rfl rfl (kp _ _ _ _ _)
  · refine ite_f (by decide) (is_rdV rfl kf.v ⟨true, rfl, ite_f rfl ?_⟩)
    exact fin (j := 3) rfl (by decide) upd_same rfl rfl rfl (kp _ _ _ _ _)
  · refine ite_f (by decide) (is_rdV rfl kf.v ⟨true, rfl, ite_f rfl ?_⟩)
    exact fin (j := 4) rfl (by decide) upd_same rfl rfl rfl (kp _ _ _ _ _)
  · refine ite_f (by decide) (is_rdV rfl kf.v ⟨true, rfl, ite_f rfl ?_⟩)
    exact fin (j := 5) rfl (by decide) upd_same rfl rfl rfl (kp _ _ _ _ _)
  · refine ite_f (by decide) (is_rdV rfl kf.v ⟨true, rfl, ite_f rfl ?_⟩)
    exact fin (j := 6) rfl (by decide) upd_same rfl rfl rfl (kp _ _ _ _ _)
  · refine ite_f (by decide) (is_rdV rfl kf.v ⟨true, rfl, ite_f rfl ?_⟩)
    exact fin (j := 7) rfl (by decide) upd_same rfl rfl rfl (kp _ _ _ _ _)
  · refine ite_f (by decide) (is_rdV rfl kf.v ⟨true, rfl, ite_f rfl ?_⟩)
    exact fin (j := 8) rfl (by decide) upd_same rfl rfl rfl (kp _ _ _ _ _)
  · refine ite_f (by decide) (is_rdV rfl kf.v ⟨true, rfl, ite_f rfl ?_⟩)
    exact fin (j := 9) rfl (by decide) upd_same rfl rfl rfl (kp _ _ _ _ _)
  · refine ite_f (by decide) (is_rdV rfl kf.v ⟨true, rfl, ite_f rfl ?_⟩)
    exact fin (j := 10) rfl (by decide) upd_same rfl rfl rfl (kp _ _ _ _ _)
  · refine ite_f (by decide) (is_rdV rfl kf.v ⟨true, rfl, ite_f rfl ?_⟩)
    exact fin (j := 11) rfl (by decide) upd_same rfl rfl rfl (kp _ _ _ _ _)
theorem ok_is_whole {f : Addr} {fd : FuncData} (D : Df K mg "is_whole" s_is_whole ["thing"] f fd) (m_bool : mg "bool" = none) (m_int : mg "int" = none) (m_isinstance : mg "isinstance" = none) : Cal P w K mg base 1 "is_whole" ["thing"] (spF K (fun d : Int => [.dt (.int d)]) (fun _ => True) fun _ => .bool true) f fd := by
  refine D.cal (ok_G D.F sc_is_whole (fun _ => rfl) (by decide) fun cdv A outer s H E hr => ⟨_, (pss_one (ps_ret (pe_and (pe_callB call_isi (by rfl) m_isinstance (by decide +kernel) (pa_cons (pv 0) (pa_cons (pe_bltn (v := .ty "int") (by rfl) m_int (by decide +kernel) rfl) pa_nil))) (pe_one (pe_not (pe_callB call_isi (by rfl) m_isinstance (by decide +kernel) (pa_cons (pv 0) (pa_cons (pe_bltn (v := .ty "bool") (by rfl) m_bool (by decide +kernel) rfl) pa_nil)))))))), fun x hp => ?_⟩)
  walk_at "s"
  walk_at "w"
  rfl
theorem ok_is_wholeO {f : Addr} {fd : FuncData} (D : Df K mg "is_whole" s_is_whole ["thing"] f fd) (m_bool : mg "bool" = none) (m_int : mg "int" = none) (m_isinstance : mg "isinstance" = none) : Cal P w K mg base 1 "is_whole" ["thing"] (spF K (fun d : Dat => [.dt d]) (fun d => isK d = true) fun d => .bool (isI d)) f fd := by
  refine D.cal (ok_G D.F sc_is_whole (fun _ => rfl) (by decide) fun cdv A outer s H E hr => ⟨_, (pss_one (ps_ret (pe_and (pe_callB call_isi (by rfl) m_isinstance (by decide +kernel) (pa_cons (pv 0) (pa_cons (pe_bltn (v := .ty "int") (by rfl) m_int (by decide +kernel) rfl) pa_nil))) (pe_one (pe_not (pe_callB call_isi (by rfl) m_isinstance (by decide +kernel) (pa_cons (pv 0) (pa_cons (pe_bltn (v := .ty "bool") (by rfl) m_bool (by decide +kernel) rfl) pa_nil)))))))), fun x hp => ?_⟩)
  cases x with
  | dict => cases hp
  | none =>
    walk_at "s"
    walk_at "w"
    rfl
  | bool b =>
    walk_at "s"
    walk_at "w"
    rfl
  | int b =>
    walk_at "s"
    walk_at "w"
    rfl
  | str b =>
    walk_at "s"
    walk_at "w"
    rfl
  | list b =>
    walk_at "s"
    walk_at "w"
    rfl
  | tuple b =>
    walk_at "s"
    walk_at "w"
    rfl
theorem ok_is_whole_within {f : Addr} {fd : FuncData} (D : Df K mg "is_whole_within" s_is_whole_within ["thing", "least", "most"] f fd) {f_is_whole : Addr} {d_is_whole : FuncData} (C_is_whole : Cal P w K mg base 1 "is_whole" ["thing"] (spF K (fun d : Int => [.dt (.int d)]) (fun _ => True) fun _ => .bool true) f_is_whole d_is_whole) : Cal P w K mg base 2 "is_whole_within" ["thing", "least", "most"] (spF K (fun p : Int × Int × Int => [.dt (.int p.1), .dt (.int p.2.1), .dt (.int p.2.2)]) (fun _ => True) fun p => .bool (decide (p.2.1 ≤ p.1) && decide (p.1 ≤ p.2.2))) f fd := by
  refine D.cal (ok_G D.F sc_is_whole_within (fun _ => rfl) (by decide) fun cdv A outer s H E hr => ⟨_, (pss_one (ps_ret (pe_and (pe_call C_is_whole.G (hr.mono (by decide)) (by rfl) C_is_whole.g C_is_whole.kp C_is_whole.b .nil pass0 (pa_cons (pv 0) pa_nil)) (pe_one (pe_chain op_le op_le (pv 1) (pv 0) (pv 2)))))), fun x hp => ?_⟩)
  walk_at "s"
  walk_at "w"
  refine ⟨_, rfl, trivial, ?_⟩
  walk_at "w"
  · rename_i h
    rw [h]
    rfl
  · rename_i h
    rw [h]
    rfl
theorem ok_is_whole_withinO {f : Addr} {fd : FuncData} (D : Df K mg "is_whole_within" s_is_whole_within ["thing", "least", "most"] f fd) {f_is_wholeO : Addr} {d_is_wholeO : FuncData} (C_is_wholeO : Cal P w K mg base 1 "is_whole" ["thing"] (spF K (fun d : Dat => [.dt d]) (fun d => isK d = true) fun d => .bool (isI d)) f_is_wholeO d_is_wholeO) : Cal P w K mg base 2 "is_whole_within" ["thing", "least", "most"] (spF K (fun p : Dat × Int × Int => [.dt p.1, .dt (.int p.2.1), .dt (.int p.2.2)]) (fun p => isK p.1 = true) fun p => .bool (isWithinD p.1 p.2.1 p.2.2)) f fd := by
  refine D.cal (ok_G D.F sc_is_whole_within (fun _ => rfl) (by decide) fun cdv A outer s H E hr => ⟨_, (pss_one (ps_ret (pe_and (pe_call C_is_wholeO.G (hr.mono (by decide)) (by rfl) C_is_wholeO.g C_is_wholeO.kp C_is_wholeO.b .nil pass0 (pa_cons (pv 0) pa_nil)) (pe_one (pe_chain op_le op_le (pv 1) (pv 0) (pv 2)))))), fun x hp => ?_⟩)
  obtain ⟨d, lo, hi⟩ := x
  dsimp only at hp ⊢
  walk_at "s"
  walk_at "w"
  refine ⟨d, rfl, hp, ?_⟩
  cases d with
  | dict => cases hp
  | int n =>
    walk_at "w"
    · rename_i h
      show PyData.bool _ = PyData.bool _
      rw [isWithinD, h]
      rfl
    · rename_i h
      show PyData.bool _ = PyData.bool _
      rw [isWithinD, h]
      rfl
  | none =>
    walk_at "w"
    rfl
  | bool b =>
    walk_at "w"
    rfl
  | str b =>
    walk_at "w"
    rfl
  | list b =>
    walk_at "w"
    rfl
  | tuple b =>
    walk_at "w"
    rfl
theorem ok__numbers_of {f : Addr} {fd : FuncData} (D : Df K mg "_numbers_of" s__numbers_of ["things"] f fd) : Cal P w K mg base 1 "_numbers_of" ["things"] (spF K (fun r : List (Option Int) => [.dt (.tuple (oL r))]) (fun r => r.length ≤ 100) fun r => .list (iL (nums r))) f fd := by
  refine D.cal (ok_G D.F sc__numbers_of (fun _ => rfl) (by decide) fun cdv A outer s H E hr => ⟨_, (pss_one (ps_ret (pe_lc (own := [("thing", 1)]) rfl sc__numbers_of.nd (pi_tup (pv 0)) (blkOk_by (own := [("thing", 1)]) (N := ["things", "thing"]) (sc := (defScope s__numbers_of)) (by decide +kernel)) (fun _ _ _ _ _ => (pg_name (i := 1) sc__numbers_of.nd rfl (by first | exact Or.inl rfl | exact Or.inr rfl))) (fun _ _ _ _ _ => (pts_one (pt_cmpR oi_notN (pv 1) pe_non (nomark _)))) (fun _ _ _ _ _ => (pv 1))))), fun x hp => ?_⟩)
  walk_at "s"
  walk_at "w"
  apply ve_lcT (vs := [1]) oD x _ _ (by walk_at "n")
  walk_at "w"
  refine ⟨rfl, by simp, gl_lt (by omega), fun a ha => ⟨_, tg_name (by decide), fun acc srcs => ?_⟩, ?_⟩
  · walk_at "s"
    walk_at "w"
    refine ⟨rfl, fun _ => ?_, fun _ => rfl⟩
    walk_at "w"
    exact ⟨rfl, rfl⟩
  · walk_at "w"
    show PyData.list _ = _
    rw [nums_eq]
theorem ok_numbersO {f : Addr} {fd : FuncData} (D : Df K mg "_numbers_of" s__numbers_of ["things"] f fd) : Cal P w K mg base 1 "_numbers_of" ["things"] (spF K (fun r : List Dat => [.dt (.tuple r)]) (fun r => r.length ≤ 100) fun r => .list (r.filter fun d => !isNo d)) f fd := by
  refine D.cal (ok_G D.F sc__numbers_of (fun _ => rfl) (by decide) fun cdv A outer s H E hr => ⟨_, (pss_one (ps_ret (pe_lc (own := [("thing", 1)]) rfl sc__numbers_of.nd (pi_tup (pv 0)) (blkOk_by (own := [("thing", 1)]) (N := ["things", "thing"]) (sc := (defScope s__numbers_of)) (by decide +kernel)) (fun _ _ _ _ _ => (pg_name (i := 1) sc__numbers_of.nd rfl (by first | exact Or.inl rfl | exact Or.inr rfl))) (fun _ _ _ _ _ => (pts_one (pt_cmpR oi_notN (pv 1) pe_non (nomark _)))) (fun _ _ _ _ _ => (pv 1))))), fun x hp => ?_⟩)
  walk_at "s"
  walk_at "w"
  apply ve_lcT (vs := [1]) id x _ _ (by walk_at "n")
  walk_at "w"
  refine ⟨(List.map_id _).symm, by simp, gl_lt (by omega), fun a ha => ⟨_, tg_name (by decide), fun acc srcs => ?_⟩, ?_⟩
  · walk_at "s"
    walk_at "w"
    refine ⟨rfl, fun _ => ?_, fun _ => rfl⟩
    walk_at "w"
    exact ⟨rfl, rfl⟩
  · walk_at "w"
    rw [List.map_id]
    rfl
theorem ok_is_row {f : Addr} {fd : FuncData} (D : Df K mg "is_row" s_is_row ["thing"] f fd) {f__numbers_of : Addr} {d__numbers_of : FuncData} (C__numbers_of : Cal P w K mg base 1 "_numbers_of" ["things"] (spF K (fun r : List (Option Int) => [.dt (.tuple (oL r))]) (fun r => r.length ≤ 100) fun r => .list (iL (nums r))) f__numbers_of d__numbers_of) {f_is_whole : Addr} {d_is_whole : FuncData} (C_is_whole : Cal P w K mg base 1 "is_whole" ["thing"] (spF K (fun d : Int => [.dt (.int d)]) (fun _ => True) fun _ => .bool true) f_is_whole d_is_whole) (m_all : mg "all" = none) (m_isinstance : mg "isinstance" = none) (m_len : mg "len" = none) (m_set : mg "set" = none) (m_tuple : mg "tuple" = none) (c_MOST_THINGS : GlobI K mg "MOST_THINGS" 24) : Cal P w K mg base 2 "is_row" ["thing"] (spF K (fun r : List (Option Int) => [.dt (.tuple (oL r))]) RowOk fun _ => .bool true) f fd := by
  refine D.cal (ok_G D.F sc_is_row (fun _ => rfl) (by decide) fun cdv A outer s H E hr => ⟨_, (pss_cons (ps_if (PW.pt (pw_or (pt_not (pt_val (pe_callB call_isi (by rfl) m_isinstance (by decide +kernel) (pa_cons (pv 0) (pa_cons (pe_bltn (v := .ty "tuple") (by rfl) m_tuple (by decide +kernel) rfl) pa_nil))))) (pw_or1 (pt_cmpR op_gt (pe_callB cl_len (by rfl) m_len PySem.boot_len (pa_cons (pv 0) pa_nil)) (pe_glob (v := .int (24)) (by rfl) c_MOST_THINGS.u.choose_spec ⟨_, rfl⟩) (nomark _))))) (pss_one (ps_ret pe_bl)) pss_nil)
      (pss_cons (ps_set (i := 1) sc_is_row.nd rfl (Or.inl rfl) (pe_call C__numbers_of.G (hr.mono (by decide)) (by rfl) C__numbers_of.g C__numbers_of.kp C__numbers_of.b .nil pass0 (pa_cons (pv 0) pa_nil)))
      (pss_cons (ps_if (pt_not (pt_val (pe_callB (cr_all rfl) (by rfl) m_all (by decide +kernel) (pa_cons (pe_lc (own := [("number", 2)]) rfl sc_is_row.nd (pi_list (pv 1)) (blkOk_by (own := [("number", 2)]) (N := ["thing", "numbers", "number"]) (sc := (defScope s_is_row)) (by decide +kernel)) (fun _ _ _ _ _ => (pg_name (i := 2) sc_is_row.nd rfl (by first | exact Or.inl rfl | exact Or.inr rfl))) (fun _ _ _ _ _ => pts_nil) (fun _ _ _ _ _ => (pe_call C_is_whole.G (hr.mono (by decide)) (by rfl) C_is_whole.g C_is_whole.kp C_is_whole.b .nil pass0 (pa_cons (pv 2) pa_nil)))) pa_nil)))) (pss_one (ps_ret pe_bl)) pss_nil)
      (pss_one (ps_ret (pe_cmpR (op_eqD hr.units) (RZ.pe_lenSetI (by rfl) m_len (by rfl) m_set (pv 1)) (pe_callB cl_len (by rfl) m_len PySem.boot_len (pa_cons (pv 1) pa_nil)) (nomark _))))))), fun x hp => ?_⟩)
  have l1 := nums_len x
  have l2 := hp.1
  walk_at "s"
  walk_at "w"
  · exact absurd (by assumption) (by simp; omega)
  refine ⟨_, rfl, by omega, ?_⟩
  walk_at "w"
  apply ve_lcT (vs := [2]) PyData.int (nums x) _ _ (by walk_at "n")
  walk_at "w"
  refine ⟨rfl, by simp, gl_lt (by omega), fun a ha => ⟨_, tg_name (by decide), fun acc srcs => ?_⟩, ?_⟩
  · walk_at "s"
    walk_at "w"
    refine ⟨rfl, fun _ => ?_, fun _ => rfl⟩
    walk_at "w"
    refine ⟨_, rfl, trivial, ?_⟩
    walk_at "w"
    exact ⟨rfl, rfl⟩
  walk_at "w"
  refine c1_allF ((nums x).map fun _ => true) (by rw [fil_true, List.map_map] <;> rfl) ?_
  rw [show ((nums x).map fun _ => true).all id = true by simp]
  walk_at "w"
  refine ⟨hp.2, by omega, ?_⟩
  walk_at "w"
  show PyData.bool _ = _
  rw [List.length_map]
  simp [PyData.eqv]
theorem ok_is_rowO {f : Addr} {fd : FuncData} (D : Df K mg "is_row" s_is_row ["thing"] f fd) {f_is_wholeO : Addr} {d_is_wholeO : FuncData} (C_is_wholeO : Cal P w K mg base 1 "is_whole" ["thing"] (spF K (fun d : Dat => [.dt d]) (fun d => isK d = true) fun d => .bool (isI d)) f_is_wholeO d_is_wholeO) {f_numbersO : Addr} {d_numbersO : FuncData} (C_numbersO : Cal P w K mg base 1 "_numbers_of" ["things"] (spF K (fun r : List Dat => [.dt (.tuple r)]) (fun r => r.length ≤ 100) fun r => .list (r.filter fun d => !isNo d)) f_numbersO d_numbersO) (m_all : mg "all" = none) (m_isinstance : mg "isinstance" = none) (m_len : mg "len" = none) (m_set : mg "set" = none) (m_tuple : mg "tuple" = none) (c_MOST_THINGS : GlobI K mg "MOST_THINGS" 24) : Cal P w K mg base 2 "is_row" ["thing"] (spF K (fun d : Dat => [.dt d]) (fun d => okD d = true) fun d => .bool (isRowD d)) f fd := by
  refine D.cal (ok_G D.F sc_is_row (fun _ => rfl) (by decide) fun cdv A outer s H E hr => ⟨_, (pss_cons (ps_if (PW.pt (pw_or (pt_not (pt_val (pe_callB call_isi (by rfl) m_isinstance (by decide +kernel) (pa_cons (pv 0) (pa_cons (pe_bltn (v := .ty "tuple") (by rfl) m_tuple (by decide +kernel) rfl) pa_nil))))) (pw_or1 (pt_cmpR op_gt (pe_callB cl_len (by rfl) m_len PySem.boot_len (pa_cons (pv 0) pa_nil)) (pe_glob (v := .int (24)) (by rfl) c_MOST_THINGS.u.choose_spec ⟨_, rfl⟩) (nomark _))))) (pss_one (ps_ret pe_bl)) pss_nil)
      (pss_cons (ps_set (i := 1) sc_is_row.nd rfl (Or.inl rfl) (pe_call C_numbersO.G (hr.mono (by decide)) (by rfl) C_numbersO.g C_numbersO.kp C_numbersO.b .nil pass0 (pa_cons (pv 0) pa_nil)))
      (pss_cons (ps_if (pt_not (pt_val (pe_callB (cr_all rfl) (by rfl) m_all (by decide +kernel) (pa_cons (pe_lc (own := [("number", 2)]) rfl sc_is_row.nd (pi_list (pv 1)) (blkOk_by (own := [("number", 2)]) (N := ["thing", "numbers", "number"]) (sc := (defScope s_is_row)) (by decide +kernel)) (fun _ _ _ _ _ => (pg_name (i := 2) sc_is_row.nd rfl (by first | exact Or.inl rfl | exact Or.inr rfl))) (fun _ _ _ _ _ => pts_nil) (fun _ _ _ _ _ => (pe_call C_is_wholeO.G (hr.mono (by decide)) (by rfl) C_is_wholeO.g C_is_wholeO.kp C_is_wholeO.b .nil pass0 (pa_cons (pv 2) pa_nil)))) pa_nil)))) (pss_one (ps_ret pe_bl)) pss_nil)
      (pss_one (ps_ret (pe_cmpR (op_eqD hr.units) (RZ.pe_lenSetG (by rfl) m_len (by rfl) m_set (pv 1)) (pe_callB cl_len (by rfl) m_len PySem.boot_len (pa_cons (pv 1) pa_nil)) (nomark _))))))), fun x hp => ?_⟩)
  cases x with
  | dict => cases hp
  | none =>
    walk_at "s"
    walk_at "w"
    rfl
  | bool b =>
    walk_at "s"
    walk_at "w"
    rfl
  | int b =>
    walk_at "s"
    walk_at "w"
    rfl
  | str b =>
    walk_at "s"
    walk_at "w"
    rfl
  | list b =>
    walk_at "s"
    walk_at "w"
    rfl
  | tuple r =>
    obtain ⟨h1, h2⟩ := okD_t hp
    walk_at "s"
    walk_at "w"
    · have h : decide ((24 : Int) < (r.length : Int)) = true := by assumption
      show PyData.bool false = PyData.bool (!_ && _)
      rw [h]
      rfl
    · have h : decide ((24 : Int) < (r.length : Int)) = false := by assumption
      refine ⟨r, rfl, h1, ?_⟩
      have hl : (noNo r).length ≤ 100 := Nat.le_trans (List.length_filter_le _ _) h1
      show VSs K [.dt (.tuple r), .dt (.list (noNo r)), .no] _ _
      walk_at "w"
      apply ve_lcT (vs := [2]) id (noNo r) (fun _ => true) (fun d => PyData.bool (isI d)) (by walk_at "n")
      walk_at "w"
      refine ⟨(List.map_id _).symm, by simp, gl_lt (by omega), fun a ha => ⟨_, tg_name (by decide), fun acc srcs => ?_⟩, ?_⟩
      · have hk : isK a = true := h2 a (List.mem_filter.mp ha).1
        walk_at "s"
        walk_at "w"
        refine ⟨rfl, fun _ => ?_, fun _ => rfl⟩
        walk_at "w"
        refine ⟨a, rfl, hk, ?_⟩
        walk_at "w"
        exact ⟨rfl, rfl⟩
      walk_at "w"
      refine c1_allF ((noNo r).map isI) (by rw [fil_true, List.map_map] <;> rfl) ?_
      rw [show ((noNo r).map isI).all id = (noNo r).all isI by rw [List.all_map]; rfl]
      cases hall : (noNo r).all isI with
      | false =>
        walk_at "w"
        show PyData.bool false = PyData.bool (!_ && (_ && _))
        rw [hall, Bool.false_and, Bool.and_false]
      | true =>
        walk_at "w"
        refine ve_lenSetG ?_
        walk_at "w"
        refine ⟨(noNo r).map intOf, (by rw [← ints_eq hall]; exact rd_dt), by rw [List.length_map]; omega, ?_⟩
        walk_at "w"
        show PyData.bool _ = PyData.bool (!_ && (_ && _))
        rw [h, hall, unl, List.length_map]
        rfl
theorem ok_is_wordO {f : Addr} {fd : FuncData} (D : Df K mg "_is_word" s__is_word ["thing"] f fd) (m_isinstance : mg "isinstance" = none) (m_str : mg "str" = none) (c_HEAVY : GlobS K mg "HEAVY" "heavy") (c_LIGHT : GlobS K mg "LIGHT" "light") : Cal P w K mg base 1 "_is_word" ["thing"] (spF K (fun d : Dat => [.dt d]) (fun d => isK d = true) fun d => .bool (isWordD d)) f fd := by
  refine D.cal (ok_G D.F sc__is_word (fun _ => rfl) (by decide) fun cdv A outer s H E hr => ⟨_, (pss_one (ps_ret (pe_and (pe_callB call_isi (by rfl) m_isinstance (by decide +kernel) (pa_cons (pv 0) (pa_cons (pe_bltn (v := .ty "str") (by rfl) m_str (by decide +kernel) rfl) pa_nil))) (pe_one (pe_cmpR op_in_seq (pv 0) (pe_tupF (pa_cons (pe_glob (v := .str "light") (by rfl) c_LIGHT.u.choose_spec ⟨_, rfl⟩) (pa_cons (pe_glob (v := .str "heavy") (by rfl) c_HEAVY.u.choose_spec ⟨_, rfl⟩) pa_nil))) (by rfl)))))), fun x hp => ?_⟩)
  cases x with
  | dict => cases hp
  | none =>
    walk_at "s"
    walk_at "w"
    rfl
  | bool b =>
    walk_at "s"
    walk_at "w"
    rfl
  | int b =>
    walk_at "s"
    walk_at "w"
    rfl
  | list b =>
    walk_at "s"
    walk_at "w"
    rfl
  | tuple b =>
    walk_at "s"
    walk_at "w"
    rfl
  | str s =>
    walk_at "s"
    walk_at "w"
    refine r2_in rd_dt sq_t rfl rfl ?_
    walk_at "w"
    rfl
theorem ok__is_word {f : Addr} {fd : FuncData} (D : Df K mg "_is_word" s__is_word ["thing"] f fd) (m_isinstance : mg "isinstance" = none) (m_str : mg "str" = none) (c_HEAVY : GlobS K mg "HEAVY" "heavy") (c_LIGHT : GlobS K mg "LIGHT" "light") : Cal P w K mg base 1 "_is_word" ["thing"] (spF K (fun l : Bool => [.dt (.str (wd l))]) (fun _ => True) fun _ => .bool true) f fd := by
  refine D.cal (ok_G D.F sc__is_word (fun _ => rfl) (by decide) fun cdv A outer s H E hr => ⟨_, (pss_one (ps_ret (pe_and (pe_callB call_isi (by rfl) m_isinstance (by decide +kernel) (pa_cons (pv 0) (pa_cons (pe_bltn (v := .ty "str") (by rfl) m_str (by decide +kernel) rfl) pa_nil))) (pe_one (pe_cmpR op_in_seq (pv 0) (pe_tupF (pa_cons (pe_glob (v := .str "light") (by rfl) c_LIGHT.u.choose_spec ⟨_, rfl⟩) (pa_cons (pe_glob (v := .str "heavy") (by rfl) c_HEAVY.u.choose_spec ⟨_, rfl⟩) pa_nil))) (by rfl)))))), fun x hp => ?_⟩)
  walk_at "s"
  walk_at "w"
  refine r2_in rd_dt sq_t rfl rfl ?_
  walk_at "w"
  show PyData.bool _ = _
  congr 1
  cases x <;> decide +kernel
theorem ok_is_placesO {f : Addr} {fd : FuncData} (D : Df K mg "_is_places" s__is_places ["thing"] f fd) {f_is_whole_withinO : Addr} {d_is_whole_withinO : FuncData} (C_is_whole_withinO : Cal P w K mg base 2 "is_whole_within" ["thing", "least", "most"] (spF K (fun p : Dat × Int × Int => [.dt p.1, .dt (.int p.2.1), .dt (.int p.2.2)]) (fun p => isK p.1 = true) fun p => .bool (isWithinD p.1 p.2.1 p.2.2)) f_is_whole_withinO d_is_whole_withinO) (c_MOST_PLACES : GlobI K mg "MOST_PLACES" 9) : Cal P w K mg base 3 "_is_places" ["thing"] (spF K (fun d : Dat => [.dt d]) (fun d => isK d = true) fun d => .bool (isPlD d)) f fd := by
  refine D.cal (ok_G D.F sc__is_places (fun _ => rfl) (by decide) fun cdv A outer s H E hr => ⟨_, (pss_one (ps_ret (pe_call C_is_whole_withinO.G (hr.mono (by decide)) (by rfl) C_is_whole_withinO.g C_is_whole_withinO.kp C_is_whole_withinO.b .nil pass0 (pa_cons (pv 0) (pa_cons pe_int (pa_cons (pe_glob (v := .int (9)) (by rfl) c_MOST_PLACES.u.choose_spec ⟨_, rfl⟩) pa_nil)))))), fun x hp => ?_⟩)
  walk_at "s"
  walk_at "w"
  refine ⟨(x, 0, 9), rfl, hp, ?_⟩
  walk_at "w"
  rfl
theorem ok__is_places {f : Addr} {fd : FuncData} (D : Df K mg "_is_places" s__is_places ["thing"] f fd) {f_is_whole_within : Addr} {d_is_whole_within : FuncData} (C_is_whole_within : Cal P w K mg base 2 "is_whole_within" ["thing", "least", "most"] (spF K (fun p : Int × Int × Int => [.dt (.int p.1), .dt (.int p.2.1), .dt (.int p.2.2)]) (fun _ => True) fun p => .bool (decide (p.2.1 ≤ p.1) && decide (p.1 ≤ p.2.2))) f_is_whole_within d_is_whole_within) (c_MOST_PLACES : GlobI K mg "MOST_PLACES" 9) : Cal P w K mg base 3 "_is_places" ["thing"] (spF K (fun n : Nat => [.dt (.int n)]) (fun n => n ≤ 9) fun _ => .bool true) f fd := by
  refine D.cal (ok_G D.F sc__is_places (fun _ => rfl) (by decide) fun cdv A outer s H E hr => ⟨_, (pss_one (ps_ret (pe_call C_is_whole_within.G (hr.mono (by decide)) (by rfl) C_is_whole_within.g C_is_whole_within.kp C_is_whole_within.b .nil pass0 (pa_cons (pv 0) (pa_cons pe_int (pa_cons (pe_glob (v := .int (9)) (by rfl) c_MOST_PLACES.u.choose_spec ⟨_, rfl⟩) pa_nil)))))), fun x hp => ?_⟩)
  walk_at "s"
  walk_at "w"
  refine ⟨(_, _, _), rfl, trivial, ?_⟩
  walk_at "w"
  show PyData.bool _ = _
  have h1 : (0 : Int) ≤ (x : Int) := by omega
  have h2 : (x : Int) ≤ 9 := by omega
  simp [h2]
theorem ok_is_shelfO {f : Addr} {fd : FuncData} (D : Df K mg "is_shelf" s_is_shelf ["thing"] f fd) {f_is_placesO : Addr} {d_is_placesO : FuncData} (C_is_placesO : Cal P w K mg base 3 "_is_places" ["thing"] (spF K (fun d : Dat => [.dt d]) (fun d => isK d = true) fun d => .bool (isPlD d)) f_is_placesO d_is_placesO) {f_is_wordO : Addr} {d_is_wordO : FuncData} (C_is_wordO : Cal P w K mg base 1 "_is_word" ["thing"] (spF K (fun d : Dat => [.dt d]) (fun d => isK d = true) fun d => .bool (isWordD d)) f_is_wordO d_is_wordO) (m_isinstance : mg "isinstance" = none) (m_len : mg "len" = none) (m_tuple : mg "tuple" = none) : Cal P w K mg base 4 "is_shelf" ["thing"] (spF K (fun d : Dat => [.dt d]) (fun d => okD d = true) fun d => .bool (isShelfD d)) f fd := by
  refine D.cal (ok_G D.F sc_is_shelf (fun _ => rfl) (by decide) fun cdv A outer s H E hr => ⟨_, (pss_cons (ps_if (PW.pt (pw_or (pt_not (pt_val (pe_callB call_isi (by rfl) m_isinstance (by decide +kernel) (pa_cons (pv 0) (pa_cons (pe_bltn (v := .ty "tuple") (by rfl) m_tuple (by decide +kernel) rfl) pa_nil))))) (pw_or1 (pt_cmpR (op_neD hr.units) (pe_callB cl_len (by rfl) m_len PySem.boot_len (pa_cons (pv 0) pa_nil)) pe_int (nomark _))))) (pss_one (ps_ret pe_bl)) pss_nil)
      (pss_one (ps_ret (pe_and (pe_call C_is_wordO.G (hr.mono (by decide)) (by rfl) C_is_wordO.g C_is_wordO.kp C_is_wordO.b .nil pass0 (pa_cons (pe_ix ix_tup (pv 0) pe_int (fun _ _ => rfl)) pa_nil)) (pe_one (pe_call C_is_placesO.G (hr.mono (by decide)) (by rfl) C_is_placesO.g C_is_placesO.kp C_is_placesO.b .nil pass0 (pa_cons (pe_ix ix_tup (pv 0) pe_int (fun _ _ => rfl)) pa_nil))))))), fun x hp => ?_⟩)
  cases x with
  | dict => cases hp
  | none =>
    walk_at "s"
    walk_at "w"
    rfl
  | bool b =>
    walk_at "s"
    walk_at "w"
    rfl
  | int b =>
    walk_at "s"
    walk_at "w"
    rfl
  | str b =>
    walk_at "s"
    walk_at "w"
    rfl
  | list b =>
    walk_at "s"
    walk_at "w"
    rfl
  | tuple r =>
    obtain ⟨h1, h2⟩ := okD_t hp
    rcases r with _ | ⟨a, _ | ⟨b, _ | ⟨c, t⟩⟩⟩
    · walk_at "s"
      walk_at "w"
      rfl
    · walk_at "s"
      walk_at "w"
      rfl
    · walk_at "s"
      walk_at "w"
      refine r2_ixT (d := a) rfl ?_
      walk_at "w"
      refine ⟨a, rfl, h2 a (by simp), ?_⟩
      cases hw : isWordD a with
      | false =>
        walk_at "w"
        show PyData.bool _ = PyData.bool (isWordD a && _)
        rw [hw]
        rfl
      | true =>
        walk_at "w"
        refine r2_ixT (d := b) rfl ?_
        walk_at "w"
        refine ⟨b, rfl, h2 b (by simp), ?_⟩
        walk_at "w"
        show PyData.bool _ = PyData.bool (isWordD a && _)
        rw [hw]
        rfl
    · walk_at "s"
      walk_at "w"
      all_goals first | rfl | exact absurd (by assumption) (by simp; omega)
theorem ok_is_lineO {f : Addr} {fd : FuncData} (D : Df K mg "is_line" s_is_line ["thing"] f fd) {f_is_shelfO : Addr} {d_is_shelfO : FuncData} (C_is_shelfO : Cal P w K mg base 4 "is_shelf" ["thing"] (spF K (fun d : Dat => [.dt d]) (fun d => okD d = true) fun d => .bool (isShelfD d)) f_is_shelfO d_is_shelfO) (m_all : mg "all" = none) (m_isinstance : mg "isinstance" = none) (m_len : mg "len" = none) (m_tuple : mg "tuple" = none) (c_MOST_SHELVES : GlobI K mg "MOST_SHELVES" 8) : Cal P w K mg base 5 "is_line" ["thing"] (spF K (fun d : Dat => [.dt d]) (fun d => okDD d = true) fun d => .bool (isLineD d)) f fd := by
  refine D.cal (ok_G D.F sc_is_line (fun _ => rfl) (by decide) fun cdv A outer s H E hr => ⟨_, (pss_cons (ps_if (PW.pt (pw_or (pt_not (pt_val (pe_callB call_isi (by rfl) m_isinstance (by decide +kernel) (pa_cons (pv 0) (pa_cons (pe_bltn (v := .ty "tuple") (by rfl) m_tuple (by decide +kernel) rfl) pa_nil))))) (pw_or1 (pt_cmpR op_gt (pe_callB cl_len (by rfl) m_len PySem.boot_len (pa_cons (pv 0) pa_nil)) (pe_glob (v := .int (8)) (by rfl) c_MOST_SHELVES.u.choose_spec ⟨_, rfl⟩) (nomark _))))) (pss_one (ps_ret pe_bl)) pss_nil)
      (pss_one (ps_ret (pe_callB (cr_all rfl) (by rfl) m_all (by decide +kernel) (pa_cons (pe_lc (own := [("shelf", 1)]) rfl sc_is_line.nd (pi_tup (pv 0)) (blkOk_by (own := [("shelf", 1)]) (N := ["thing", "shelf"]) (sc := (defScope s_is_line)) (by decide +kernel)) (fun _ _ _ _ _ => (pg_name (i := 1) sc_is_line.nd rfl (by first | exact Or.inl rfl | exact Or.inr rfl))) (fun _ _ _ _ _ => pts_nil) (fun _ _ _ _ _ => (pe_call C_is_shelfO.G (hr.mono (by decide)) (by rfl) C_is_shelfO.g C_is_shelfO.kp C_is_shelfO.b .nil pass0 (pa_cons (pv 1) pa_nil)))) pa_nil))))), fun x hp => ?_⟩)
  cases x with
  | dict => cases hp
  | none =>
    walk_at "s"
    walk_at "w"
    rfl
  | bool b =>
    walk_at "s"
    walk_at "w"
    rfl
  | int b =>
    walk_at "s"
    walk_at "w"
    rfl
  | str b =>
    walk_at "s"
    walk_at "w"
    rfl
  | list b =>
    walk_at "s"
    walk_at "w"
    rfl
  | tuple r =>
    obtain ⟨h1, h2⟩ := okDD_t hp
    walk_at "s"
    walk_at "w"
    · have h : decide ((8 : Int) < (r.length : Int)) = true := by assumption
      show PyData.bool false = PyData.bool (!_ && _)
      rw [h]
      rfl
    · have h : decide ((8 : Int) < (r.length : Int)) = false := by assumption
      apply ve_lcT (vs := [1]) id r (fun _ => true) (fun d => PyData.bool (isShelfD d)) (by walk_at "n")
      walk_at "w"
      refine ⟨(List.map_id _).symm, by simp, gl_lt (by omega), fun a ha => ⟨_, tg_name (by decide), fun acc srcs => ?_⟩, ?_⟩
      · walk_at "s"
        walk_at "w"
        refine ⟨rfl, fun _ => ?_, fun _ => rfl⟩
        walk_at "w"
        refine ⟨a, rfl, h2 a ha, ?_⟩
        walk_at "w"
        exact ⟨rfl, rfl⟩
      walk_at "w"
      refine c1_allF (r.map isShelfD) (by rw [fil_true, List.map_map] <;> rfl) ?_
      rw [show (r.map isShelfD).all id = r.all isShelfD by rw [List.all_map]; rfl]
      walk_at "w"
      show PyData.bool _ = PyData.bool (!_ && _)
      rw [h]
      rfl
theorem ok_are_placesO {f : Addr} {fd : FuncData} (D : Df K mg "_are_places" s__are_places ["thing", "many"] f fd) {f_is_placesO : Addr} {d_is_placesO : FuncData} (C_is_placesO : Cal P w K mg base 3 "_is_places" ["thing"] (spF K (fun d : Dat => [.dt d]) (fun d => isK d = true) fun d => .bool (isPlD d)) f_is_placesO d_is_placesO) (m_all : mg "all" = none) (m_isinstance : mg "isinstance" = none) (m_len : mg "len" = none) (m_tuple : mg "tuple" = none) : Cal P w K mg base 4 "_are_places" ["thing", "many"] (spF K (fun p : Dat × Nat => [.dt p.1, .dt (.int p.2)]) (fun p => okD p.1 = true) fun p => .bool (arePlD p.1 p.2)) f fd := by
  refine D.cal (ok_G D.F sc__are_places (fun _ => rfl) (by decide) fun cdv A outer s H E hr => ⟨_, (pss_cons (ps_if (PW.pt (pw_or (pt_not (pt_val (pe_callB call_isi (by rfl) m_isinstance (by decide +kernel) (pa_cons (pv 0) (pa_cons (pe_bltn (v := .ty "tuple") (by rfl) m_tuple (by decide +kernel) rfl) pa_nil))))) (pw_or1 (pt_cmpR (op_neD hr.units) (pe_callB cl_len (by rfl) m_len PySem.boot_len (pa_cons (pv 0) pa_nil)) (pv 1) (nomark _))))) (pss_one (ps_ret pe_bl)) pss_nil)
      (pss_one (ps_ret (pe_callB (cr_all rfl) (by rfl) m_all (by decide +kernel) (pa_cons (pe_lc (own := [("places", 2)]) rfl sc__are_places.nd (pi_tup (pv 0)) (blkOk_by (own := [("places", 2)]) (N := ["thing", "many", "places"]) (sc := (defScope s__are_places)) (by decide +kernel)) (fun _ _ _ _ _ => (pg_name (i := 2) sc__are_places.nd rfl (by first | exact Or.inl rfl | exact Or.inr rfl))) (fun _ _ _ _ _ => pts_nil) (fun _ _ _ _ _ => (pe_call C_is_placesO.G (hr.mono (by decide)) (by rfl) C_is_placesO.g C_is_placesO.kp C_is_placesO.b .nil pass0 (pa_cons (pv 2) pa_nil)))) pa_nil))))), fun x hp => ?_⟩)
  obtain ⟨d, n⟩ := x
  dsimp only at hp ⊢
  cases d with
  | dict => cases hp
  | none =>
    walk_at "s"
    walk_at "w"
    rfl
  | bool b =>
    walk_at "s"
    walk_at "w"
    rfl
  | int b =>
    walk_at "s"
    walk_at "w"
    rfl
  | str b =>
    walk_at "s"
    walk_at "w"
    rfl
  | list b =>
    walk_at "s"
    walk_at "w"
    rfl
  | tuple r =>
    obtain ⟨h1, h2⟩ := okD_t hp
    walk_at "s"
    walk_at "w"
    · have h : (!decide ((r.length : Int) = (n : Int))) = true := by assumption
      show PyData.bool false = PyData.bool (_ && _)
      rw [show decide ((r.length : Int) = (n : Int)) = false by simpa using h]
      rfl
    · have h : (!decide ((r.length : Int) = (n : Int))) = false := by assumption
      apply ve_lcT (vs := [2]) id r (fun _ => true) (fun d => PyData.bool (isPlD d)) (by walk_at "n")
      walk_at "w"
      refine ⟨(List.map_id _).symm, by simp, gl_lt (by omega), fun a ha => ⟨_, tg_name (by decide), fun acc srcs => ?_⟩, ?_⟩
      · walk_at "s"
        walk_at "w"
        refine ⟨rfl, fun _ => ?_, fun _ => rfl⟩
        walk_at "w"
        refine ⟨a, rfl, h2 a ha, ?_⟩
        walk_at "w"
        exact ⟨rfl, rfl⟩
      walk_at "w"
      refine c1_allF (r.map isPlD) (by rw [fil_true, List.map_map] <;> rfl) ?_
      rw [show (r.map isPlD).all id = r.all isPlD by rw [List.all_map]; rfl]
      walk_at "w"
      show PyData.bool _ = PyData.bool (_ && _)
      rw [show decide ((r.length : Int) = (n : Int)) = true by simpa using h]
      rfl
theorem ok__are_places {f : Addr} {fd : FuncData} (D : Df K mg "_are_places" s__are_places ["thing", "many"] f fd) {f__is_places : Addr} {d__is_places : FuncData} (C__is_places : Cal P w K mg base 3 "_is_places" ["thing"] (spF K (fun n : Nat => [.dt (.int n)]) (fun n => n ≤ 9) fun _ => .bool true) f__is_places d__is_places) (m_all : mg "all" = none) (m_isinstance : mg "isinstance" = none) (m_len : mg "len" = none) (m_tuple : mg "tuple" = none) : Cal P w K mg base 4 "_are_places" ["thing", "many"] (spF K (fun p : List Nat × Nat => [.dt (.tuple (iL (p.1.map Int.ofNat))), .dt (.int p.2)]) (fun p => p.1.length = p.2 ∧ p.2 ≤ 100 ∧ ∀ m ∈ p.1, m ≤ 9) fun _ => .bool true) f fd := by
  refine D.cal (ok_G D.F sc__are_places (fun _ => rfl) (by decide) fun cdv A outer s H E hr => ⟨_, (pss_cons (ps_if (PW.pt (pw_or (pt_not (pt_val (pe_callB call_isi (by rfl) m_isinstance (by decide +kernel) (pa_cons (pv 0) (pa_cons (pe_bltn (v := .ty "tuple") (by rfl) m_tuple (by decide +kernel) rfl) pa_nil))))) (pw_or1 (pt_cmpR (op_neD hr.units) (pe_callB cl_len (by rfl) m_len PySem.boot_len (pa_cons (pv 0) pa_nil)) (pv 1) (nomark _))))) (pss_one (ps_ret pe_bl)) pss_nil)
      (pss_one (ps_ret (pe_callB (cr_all rfl) (by rfl) m_all (by decide +kernel) (pa_cons (pe_lc (own := [("places", 2)]) rfl sc__are_places.nd (pi_tup (pv 0)) (blkOk_by (own := [("places", 2)]) (N := ["thing", "many", "places"]) (sc := (defScope s__are_places)) (by decide +kernel)) (fun _ _ _ _ _ => (pg_name (i := 2) sc__are_places.nd rfl (by first | exact Or.inl rfl | exact Or.inr rfl))) (fun _ _ _ _ _ => pts_nil) (fun _ _ _ _ _ => (pe_call C__is_places.G (hr.mono (by decide)) (by rfl) C__is_places.g C__is_places.kp C__is_places.b .nil pass0 (pa_cons (pv 2) pa_nil)))) pa_nil))))), fun x hp => ?_⟩)
  obtain ⟨rs, n⟩ := x
  obtain ⟨hl, hn, hm⟩ := hp
  dsimp only at hl hn hm
  walk_at "s"
  walk_at "w"
  · exact absurd (by assumption) (by simp [hl])
  apply ve_lcT (vs := [2]) (fun m : Nat => PyData.int m) rs _ _ (by walk_at "n")
  walk_at "w"
  refine ⟨by rw [iL, List.map_map]; rfl, by simp, gl_lt (by omega), fun a ha => ⟨_, tg_name (by decide), fun acc srcs => ?_⟩, ?_⟩
  · walk_at "s"
    walk_at "w"
    refine ⟨rfl, fun _ => ?_, fun _ => rfl⟩
    walk_at "w"
    refine ⟨a, rfl, hm a ha, ?_⟩
    walk_at "w"
    exact ⟨rfl, rfl⟩
  walk_at "w"
  refine c1_allF (rs.map fun _ => true) (by rw [fil_true, List.map_map] <;> rfl) ?_
  rw [show (rs.map fun _ => true).all id = true by simp]
  walk_at "w"
theorem ok_are_countsO {f : Addr} {fd : FuncData} (D : Df K mg "_are_counts" s__are_counts ["thing", "many"] f fd) {f_is_whole_withinO : Addr} {d_is_whole_withinO : FuncData} (C_is_whole_withinO : Cal P w K mg base 2 "is_whole_within" ["thing", "least", "most"] (spF K (fun p : Dat × Int × Int => [.dt p.1, .dt (.int p.2.1), .dt (.int p.2.2)]) (fun p => isK p.1 = true) fun p => .bool (isWithinD p.1 p.2.1 p.2.2)) f_is_whole_withinO d_is_whole_withinO) (m_all : mg "all" = none) (m_enumerate : mg "enumerate" = none) (m_isinstance : mg "isinstance" = none) (m_len : mg "len" = none) (m_list : mg "list" = none) : Cal P w K mg base 3 "_are_counts" ["thing", "many"] (spF K (fun p : Dat × Nat => [.dt p.1, .dt (.int p.2)]) (fun p => okD p.1 = true) fun p => .bool (areCntD p.1 p.2)) f fd := by
  refine D.cal (ok_G D.F sc__are_counts (fun _ => rfl) (by decide) fun cdv A outer s H E hr => ⟨_, (pss_cons (ps_if (PW.pt (pw_or (pt_not (pt_val (pe_callB call_isi (by rfl) m_isinstance (by decide +kernel) (pa_cons (pv 0) (pa_cons (pe_bltn (v := .ty "list") (by rfl) m_list (by decide +kernel) rfl) pa_nil))))) (pw_or1 (pt_cmpR (op_neD hr.units) (pe_callB cl_len (by rfl) m_len PySem.boot_len (pa_cons (pv 0) pa_nil)) (pv 1) (nomark _))))) (pss_one (ps_ret pe_bl)) pss_nil)
      (pss_one (ps_ret (pe_callB (cr_all rfl) (by rfl) m_all (by decide +kernel) (pa_cons (pe_lc (own := [("rank", 2), ("count", 3)]) rfl sc__are_counts.nd (pi_enum (by rfl) m_enumerate (pa_cons (pv 0) pa_nil)) (blkOk_by (own := [("rank", 2), ("count", 3)]) (N := ["thing", "many", "rank", "count"]) (sc := (defScope s__are_counts)) (by decide +kernel)) (fun _ _ _ _ _ => (pg_tupK (K := K) (n := 2) rfl rfl (pgs_cons (pg_name (i := 2) sc__are_counts.nd rfl (by first | exact Or.inl rfl | exact Or.inr rfl)) (pgs_cons (pg_name (i := 3) sc__are_counts.nd rfl (by first | exact Or.inl rfl | exact Or.inr rfl)) pgs_nil)))) (fun _ _ _ _ _ => pts_nil) (fun _ _ _ _ _ => (pe_call C_is_whole_withinO.G (hr.mono (by decide)) (by rfl) C_is_whole_withinO.g C_is_whole_withinO.kp C_is_whole_withinO.b .nil pass0 (pa_cons (pv 3) (pa_cons pe_int (pa_cons (pv 2) pa_nil)))))) pa_nil))))), fun x hp => ?_⟩)
  obtain ⟨d, n⟩ := x
  dsimp only at hp ⊢
  cases d with
  | dict => cases hp
  | none =>
    walk_at "s"
    walk_at "w"
    rfl
  | bool b =>
    walk_at "s"
    walk_at "w"
    rfl
  | int b =>
    walk_at "s"
    walk_at "w"
    rfl
  | str b =>
    walk_at "s"
    walk_at "w"
    rfl
  | tuple b =>
    walk_at "s"
    walk_at "w"
    rfl
  | list r =>
    obtain ⟨h1, h2⟩ := okD_l hp
    walk_at "s"
    walk_at "w"
    · have h : (!decide ((r.length : Int) = (n : Int))) = true := by assumption
      show PyData.bool false = PyData.bool (_ && _)
      rw [show decide ((r.length : Int) = (n : Int)) = false by simpa using h]
      rfl
    · have h : (!decide ((r.length : Int) = (n : Int))) = false := by assumption
      apply ve_lcT (vs := [2, 3]) (fun p : Dat × Nat => PyData.tuple [.int p.2, p.1]) r.zipIdx (fun _ => true) (fun p => PyData.bool (isWithinD p.1 0 p.2)) (by walk_at "n")
      walk_at "w"
      refine ⟨rfl, by simp, gl_lt (by simp; omega), fun a ha => ⟨_, tg_pair (by decide) (by decide), fun acc srcs => ?_⟩, ?_⟩
      · walk_at "s"
        walk_at "w"
        refine ⟨rfl, fun _ => ?_, fun _ => rfl⟩
        walk_at "w"
        refine ⟨(a.1, 0, a.2), rfl, h2 a.1 (List.fst_mem_of_mem_zipIdx ha), ?_⟩
        walk_at "w"
        exact ⟨rfl, rfl⟩
      walk_at "w"
      refine c1_allF (r.zipIdx.map fun p => isWithinD p.1 0 p.2) (by rw [fil_true, List.map_map] <;> rfl) ?_
      walk_at "w"
      show PyData.bool _ = PyData.bool (_ && _)
      rw [show decide ((r.length : Int) = (n : Int)) = true by simpa using h]
      rfl
theorem ok__are_counts {f : Addr} {fd : FuncData} (D : Df K mg "_are_counts" s__are_counts ["thing", "many"] f fd) {f_is_whole_within : Addr} {d_is_whole_within : FuncData} (C_is_whole_within : Cal P w K mg base 2 "is_whole_within" ["thing", "least", "most"] (spF K (fun p : Int × Int × Int => [.dt (.int p.1), .dt (.int p.2.1), .dt (.int p.2.2)]) (fun _ => True) fun p => .bool (decide (p.2.1 ≤ p.1) && decide (p.1 ≤ p.2.2))) f_is_whole_within d_is_whole_within) (m_all : mg "all" = none) (m_enumerate : mg "enumerate" = none) (m_isinstance : mg "isinstance" = none) (m_len : mg "len" = none) (m_list : mg "list" = none) : Cal P w K mg base 3 "_are_counts" ["thing", "many"] (spF K (fun p : List Int × Nat => [.dt (.list (iL p.1)), .dt (.int p.2)]) (fun p => CntOk p.1 p.2 ∧ p.2 ≤ 100) fun _ => .bool true) f fd := by
  refine D.cal (ok_G D.F sc__are_counts (fun _ => rfl) (by decide) fun cdv A outer s H E hr => ⟨_, (pss_cons (ps_if (PW.pt (pw_or (pt_not (pt_val (pe_callB call_isi (by rfl) m_isinstance (by decide +kernel) (pa_cons (pv 0) (pa_cons (pe_bltn (v := .ty "list") (by rfl) m_list (by decide +kernel) rfl) pa_nil))))) (pw_or1 (pt_cmpR (op_neD hr.units) (pe_callB cl_len (by rfl) m_len PySem.boot_len (pa_cons (pv 0) pa_nil)) (pv 1) (nomark _))))) (pss_one (ps_ret pe_bl)) pss_nil)
      (pss_one (ps_ret (pe_callB (cr_all rfl) (by rfl) m_all (by decide +kernel) (pa_cons (pe_lc (own := [("rank", 2), ("count", 3)]) rfl sc__are_counts.nd (pi_enum (by rfl) m_enumerate (pa_cons (pv 0) pa_nil)) (blkOk_by (own := [("rank", 2), ("count", 3)]) (N := ["thing", "many", "rank", "count"]) (sc := (defScope s__are_counts)) (by decide +kernel)) (fun _ _ _ _ _ => (pg_tupK (K := K) (n := 2) rfl rfl (pgs_cons (pg_name (i := 2) sc__are_counts.nd rfl (by first | exact Or.inl rfl | exact Or.inr rfl)) (pgs_cons (pg_name (i := 3) sc__are_counts.nd rfl (by first | exact Or.inl rfl | exact Or.inr rfl)) pgs_nil)))) (fun _ _ _ _ _ => pts_nil) (fun _ _ _ _ _ => (pe_call C_is_whole_within.G (hr.mono (by decide)) (by rfl) C_is_whole_within.g C_is_whole_within.kp C_is_whole_within.b .nil pass0 (pa_cons (pv 3) (pa_cons pe_int (pa_cons (pv 2) pa_nil)))))) pa_nil))))), fun x hp => ?_⟩)
  obtain ⟨cs, n⟩ := x
  obtain ⟨⟨hl, hc⟩, hn⟩ := hp
  dsimp only at hl hc hn
  walk_at "s"
  walk_at "w"
  · exact absurd (by assumption) (by simp [hl])
  apply ve_lcT (vs := [2, 3]) (fun p : Int × Nat => PyData.tuple [.int p.2, .int p.1]) cs.zipIdx _ _ (by walk_at "n")
  walk_at "w"
  refine ⟨enum_iL cs, by simp, gl_lt (by simp; omega), fun a ha => ⟨_, tg_pair (by decide) (by decide), fun acc srcs => ?_⟩, ?_⟩
  · walk_at "s"
    walk_at "w"
    refine ⟨rfl, fun _ => ?_, fun _ => rfl⟩
    walk_at "w"
    refine ⟨(_, _, _), rfl, trivial, ?_⟩
    walk_at "w"
    exact ⟨rfl, rfl⟩
  walk_at "w"
  refine c1_allF (cs.zipIdx.map fun p => (decide (0 ≤ p.1) && decide (p.1 ≤ (p.2 : Int)))) (by rw [fil_true, List.map_map] <;> rfl) ?_
  walk_at "w"
  show PyData.bool _ = _
  congr 1
  rw [List.all_eq_true]
  intro b hb
  obtain ⟨q, hq, rfl⟩ := List.mem_map.mp hb
  have := hc q.2 q.1 (List.mem_zipIdx_iff_getElem?.mp hq)
  simp [this.1, this.2]
theorem ok_is_onO {f : Addr} {fd : FuncData} (D : Df K mg "_is_on" s__is_on ["step"] f fd) (m_isinstance : mg "isinstance" = none) (m_str : mg "str" = none) (c_ON : GlobS K mg "ON" "on") : Cal P w K mg base 1 "_is_on" ["step"] (spF K (fun d : Dat => [.dt d]) (fun d => isK d = true ∧ SeqAt.shaped d = true) fun d => .bool (isOnD d)) f fd := by
  refine D.cal (ok_G D.F sc__is_on (fun _ => rfl) (by decide) fun cdv A outer s H E hr => ⟨_, (pss_one (ps_ret (pe_and (pe_callB call_isi (by rfl) m_isinstance (by decide +kernel) (pa_cons (pv 0) (pa_cons (pe_bltn (v := .ty "str") (by rfl) m_str (by decide +kernel) rfl) pa_nil))) (pe_one (pe_cmpR (op_eqD hr.units) (pv 0) (pe_glob (v := .str "on") (by rfl) c_ON.u.choose_spec ⟨_, rfl⟩) (nomark _)))))), fun x hp => ?_⟩)
  obtain ⟨hk, hs⟩ := hp
  cases x with
  | dict => cases hk
  | none =>
    walk_at "s"
    walk_at "w"
    rfl
  | bool b =>
    walk_at "s"
    walk_at "w"
    rfl
  | int b =>
    walk_at "s"
    walk_at "w"
    rfl
  | list b =>
    walk_at "s"
    walk_at "w"
    rfl
  | tuple b =>
    walk_at "s"
    walk_at "w"
    rfl
  | str s =>
    walk_at "s"
    walk_at "w"
    refine r2_eqD rd_dt rd_dt hs (by decide +kernel) ?_
    walk_at "w"
    rfl
theorem ok_is_lettingO {f : Addr} {fd : FuncData} (D : Df K mg "_is_letting" s__is_letting ["row", "places", "letting"] f fd) {f_is_onO : Addr} {d_is_onO : FuncData} (C_is_onO : Cal P w K mg base 1 "_is_on" ["step"] (spF K (fun d : Dat => [.dt d]) (fun d => isK d = true ∧ SeqAt.shaped d = true) fun d => .bool (isOnD d)) f_is_onO d_is_onO) {f_is_wholeO : Addr} {d_is_wholeO : FuncData} (C_is_wholeO : Cal P w K mg base 1 "is_whole" ["thing"] (spF K (fun d : Dat => [.dt d]) (fun d => isK d = true) fun d => .bool (isI d)) f_is_wholeO d_is_wholeO) (m_isinstance : mg "isinstance" = none) (m_len : mg "len" = none) (m_tuple : mg "tuple" = none) : Cal P w K mg base 2 "_is_letting" ["row", "places", "letting"] (spF K (fun p : List Int × Nat × Dat => [.dt (.tuple (iL p.1)), .dt (.int p.2.1), .dt p.2.2]) (fun p => p.1.length ≤ 24 ∧ okD p.2.2 = true ∧ ∀ r, p.2.2 = .tuple r → ∀ d ∈ r, SeqAt.shaped d = true) fun p => .bool (isLetD p.1 p.2.1 p.2.2)) f fd := by
  refine D.cal (ok_G D.F sc__is_letting (fun _ => rfl) (by decide) fun cdv A outer s H E hr => ⟨_, (pss_cons (ps_if (PW.pt (pw_or (pt_not (pt_val (pe_callB call_isi (by rfl) m_isinstance (by decide +kernel) (pa_cons (pv 2) (pa_cons (pe_bltn (v := .ty "tuple") (by rfl) m_tuple (by decide +kernel) rfl) pa_nil))))) (pw_or1 (pt_cmpR (op_neD hr.units) (pe_callB cl_len (by rfl) m_len PySem.boot_len (pa_cons (pv 2) pa_nil)) (pe_op op_mul pe_int (pe_callB cl_len (by rfl) m_len PySem.boot_len (pa_cons (pv 0) pa_nil))) (nomark _))))) (pss_one (ps_ret pe_bl)) pss_nil)
      (pss_cons (ps_set (i := 3) sc__is_letting.nd rfl (Or.inl rfl) (pe_lst pa_nil))
      (pss_cons (ps_set (i := 4) sc__is_letting.nd rfl (Or.inl rfl) pe_int)
      (pss_cons (ps_for PassesOwn.never rfl (pi_tup (pv 2)) (pg_name (i := 5) sc__is_letting.nd rfl (by first | exact Or.inl rfl | exact Or.inr rfl)) (pss_one (ps_if (pt_val (pe_call C_is_onO.G (hr.mono (by decide)) (by rfl) C_is_onO.g C_is_onO.kp C_is_onO.b .nil pass0 (pa_cons (pv 5) pa_nil))) (pss_cons (ps_if (PW.pt (pw_or (pt_cmpR (op_eqD hr.units) (pv 4) (pe_callB cl_len (by rfl) m_len PySem.boot_len (pa_cons (pv 0) pa_nil)) (nomark _)) (pw_or1 (pt_cmpR op_gt (pe_callB cl_len (by rfl) m_len PySem.boot_len (pa_cons (pv 3) pa_nil)) (pv 1) (nomark _))))) (pss_one (ps_ret pe_bl)) pss_nil)
      (pss_cons (ps_expr (pe_bm PySem.F.plainAttrs_list PySem.F.slot_list_append PySem.F.type_list_append mt_append (pv 3) (pa_cons (pe_ix ix_tup (pv 0) (pv 4) (fun _ _ => rfl)) pa_nil)))
      (pss_one (ps_aug (i := 4) sc__is_letting.nd rfl (Or.inl rfl) pe_int iop_add)))) (pss_one (ps_if (PW.pt (pw_and (pt_val (pe_call C_is_wholeO.G (hr.mono (by decide)) (by rfl) C_is_wholeO.g C_is_wholeO.kp C_is_wholeO.b .nil pass0 (pa_cons (pv 5) pa_nil))) (pw_and1 (pt_cmpR op_in_seq (pv 5) (pv 3) (by rfl))))) (pss_one (ps_expr (pe_bm PySem.F.plainAttrs_list PySem.F.slot_list_remove PySem.F.type_list_remove mt_remove (pv 3) (pa_cons (pv 5) pa_nil)))) (pss_one (ps_ret pe_bl)))))))
      (pss_one (ps_ret pe_bl)))))), fun x hp => ?_⟩)
  obtain ⟨N, b, d⟩ := x
  obtain ⟨h1, h2, h3⟩ := hp
  dsimp only at h1 h2 h3 ⊢
  cases d with
  | dict => cases h2
  | none =>
    walk_at "s"
    walk_at "w"
    rfl
  | bool b =>
    walk_at "s"
    walk_at "w"
    rfl
  | int b =>
    walk_at "s"
    walk_at "w"
    rfl
  | str b =>
    walk_at "s"
    walk_at "w"
    rfl
  | list b =>
    walk_at "s"
    walk_at "w"
    rfl
  | tuple r =>
    obtain ⟨g1, g2⟩ := okD_t h2
    have h3 := h3 r rfl
    walk_at "s"
    walk_at "w"
    · have h : (!decide ((r.length : Int) = 2 * ((iL N).length : Int))) = true := by assumption
      show PyData.bool false = PyData.bool (_ && _)
      rw [show decide ((r.length : Int) = 2 * (N.length : Int)) = false by simpa using h]
      rfl
    · have h : (!decide ((r.length : Int) = 2 * ((iL N).length : Int))) = false := by assumption
      have e0 : isLetD N b (.tuple r) = letGo N b r [] 0 := by
        show (_ && _) = _
        rw [show decide ((r.length : Int) = 2 * (N.length : Int)) = true by simpa using h]
        rfl
      rw [e0]
      walk_at "s"
      refine ss_for (fun k Γ => ∃ (T : List Int) (i : Nat) (c : Cell), letGo N b r [] 0 = letGo N b (r.drop k) T i ∧ T.length ≤ i ∧ i ≤ N.length ∧ Γ = [.dt (.tuple (iL N)), .dt (.int b), .dt (.tuple r), .ow (iL T), .dt (.int i), c]) fun ss => ?_
      walk_at "w"
      refine ⟨⟨[], 0, .no, rfl, by simp, by simp, rfl⟩, fun k d Γ2 hd ⟨T, i, c, er, hT, hi, ec⟩ => ?_, fun Γ2 ⟨T, i, c, er, hT, hi, ec⟩ => ?_⟩
      · subst ec
        have hk := List.getElem?_eq_some_iff.mp hd
        have hdr : r.drop k = d :: r.drop (k + 1) := by rw [List.drop_eq_getElem_cons hk.choose, hk.choose_spec]
        rw [hdr] at er
        have hm := List.mem_of_getElem? hd
        have hK := g2 d hm
        walk_at "w"
        refine ⟨d, rfl, ⟨hK, h3 d hm⟩, ?_⟩
        cases ho : isOnD d with
        | true =>
          have er : letGo N b r [] 0 = if i = N.length ∨ b < T.length then false else letGo N b (r.drop (k + 1)) (T ++ [N.getD i 0]) (i + 1) := by rw [er, letGo, if_pos ho]
          walk_at "w"
          · have h5 := of_decide_eq_true ‹decide ((i : Int) = ((iL N).length : Int)) = true›
            rw [er, if_pos (.inl (by rw [List.length_map] at h5; omega))]
          · have h5 := of_decide_eq_true ‹decide ((b : Int) < ((iL T).length : Int)) = true›
            rw [er, if_pos (.inr (by rw [List.length_map] at h5; omega))]
          · have h5 := of_decide_eq_false ‹decide ((i : Int) = ((iL N).length : Int)) = false›
            have h6 := of_decide_eq_false ‹decide ((b : Int) < ((iL T).length : Int)) = false›
            rw [List.length_map] at h5 h6
            rw [if_neg (by omega)] at er
            have hN : N[i]? = some (N.getD i 0) := by rw [List.getD_eq_getElem?_getD, List.getElem?_eq_getElem (by omega)]; rfl
            walk_at "s"
            walk_at "w"
            refine r2_ixT (d := .int (N.getD i 0)) (atI_nat (by rw [List.getElem?_map, hN]; rfl)) ?_
            walk_at "w"
            refine ⟨_, _, rfl, isl_ow rfl, gl_lt (by rw [List.length_map]; omega), ?_⟩
            rw [iL_one]
            walk_at "s"
            refine ss_augI0 ⟨_, rfl⟩ fun ss => ?_
            walk_at "w"
            refine ⟨_, _, rfl, rfl, ?_⟩
            walk_at "s"
            exact ⟨_, i + 1, _, er, by simp; omega, by omega, rfl⟩
        | false =>
          have er : letGo N b r [] 0 = if (isI d && decide (intOf d ∈ T)) = true then letGo N b (r.drop (k + 1)) (T.erase (intOf d)) i else false := by rw [er, letGo, if_neg (by rw [ho]; exact Bool.false_ne_true)]
          walk_at "w"
          refine ⟨d, rfl, hK, ?_⟩
          cases hw : isI d with
          | false =>
            walk_at "w"
            rw [er, hw, Bool.false_and, if_neg Bool.false_ne_true]
          | true =>
            rw [hw, Bool.true_and] at er
            obtain ⟨n, rfl⟩ : ∃ n, d = .int n := ⟨_, isI_int hw⟩
            walk_at "w"
            show R2V K _ _ _ (.dt (.int n)) _ _
            refine r2_in rd_dt (sq_l (rd_ow rfl)) rfl (iL_fl _) ?_
            rw [any_in]
            by_cases hin : n ∈ T
            · rw [decide_eq_true hin]
              rw [show intOf (.int n) = n from rfl, if_pos (decide_eq_true hin)] at er
              walk_at "w"
              refine ⟨T, n, rfl, isl_ow rfl, hin, ?_⟩
              walk_at "s"
              exact ⟨_, i, _, er, Nat.le_trans (List.length_erase_le ..) hT, hi, rfl⟩
            · rw [decide_eq_false hin]
              rw [show intOf (.int n) = n from rfl, decide_eq_false hin, if_neg Bool.false_ne_true] at er
              walk_at "w"
              rw [er]
      · subst ec
        walk_at "w"
        rw [er, List.drop_of_length_le (Nat.le_refl _)]
        rfl
theorem ok_check_row {f : Addr} {fd : FuncData} (D : Df K mg "check_row" s_check_row ["row"] f fd) {f_is_row : Addr} {d_is_row : FuncData} (C_is_row : Cal P w K mg base 2 "is_row" ["thing"] (spF K (fun r : List (Option Int) => [.dt (.tuple (oL r))]) RowOk fun _ => .bool true) f_is_row d_is_row) : Cal P w K mg base 3 "check_row" ["row"] (spF K (fun r : List (Option Int) => [.dt (.tuple (oL r))]) RowOk fun _ => .none) f fd := by
  refine D.cal (ok_G D.F sc_check_row (fun _ => rfl) (by decide) fun cdv A outer s H E hr => ⟨_, (pss_one (ps_if (pt_not (pt_val (pe_call C_is_row.G (hr.mono (by decide)) (by rfl) C_is_row.g C_is_row.kp C_is_row.b .nil pass0 (pa_cons (pv 0) pa_nil)))) (pss_one ps_never) pss_nil)), fun x hp => ?_⟩)
  walk_at "s"
  walk_at "w"
  refine ⟨_, rfl, hp, ?_⟩
  walk_at "w"
theorem ok_check_unmarked {f : Addr} {fd : FuncData} (D : Df K mg "check_unmarked" s_check_unmarked ["row"] f fd) {f_check_row : Addr} {d_check_row : FuncData} (C_check_row : Cal P w K mg base 3 "check_row" ["row"] (spF K (fun r : List (Option Int) => [.dt (.tuple (oL r))]) RowOk fun _ => .none) f_check_row d_check_row) : Cal P w K mg base 4 "check_unmarked" ["row"] (spF K (fun r : List Int => [.dt (.tuple (iL r))]) (fun r => r.length ≤ 24 ∧ r.Nodup) fun _ => .none) f fd := by
  refine D.cal (ok_G D.F sc_check_unmarked (fun _ => rfl) (by decide) fun cdv A outer s H E hr => ⟨_, (pss_cons (ps_expr (pe_call C_check_row.G (hr.mono (by decide)) (by rfl) C_check_row.g C_check_row.kp C_check_row.b .nil pass0 (pa_cons (pv 0) pa_nil)))
      (pss_one (ps_if (pt_cmpR op_in_seq pe_non (pv 0) (by rfl)) (pss_one ps_never) pss_nil))), fun x hp => ?_⟩)
  walk_at "s"
  walk_at "w"
  refine ⟨x.map some, by rw [oL_some], ⟨by simpa using hp.1, by rw [nums_some]; exact hp.2⟩, ?_⟩
  walk_at "w"
  refine r2_in rd_dt sq_t rfl (by simp [flD]) ?_
  walk_at "w"
  · exact absurd (by assumption) (by simp [eqF])
theorem ok_check_places {f : Addr} {fd : FuncData} (D : DfD K mg "check_places" s_check_places ["places", "least"] (0) f fd) {f_is_whole_within : Addr} {d_is_whole_within : FuncData} (C_is_whole_within : Cal P w K mg base 2 "is_whole_within" ["thing", "least", "most"] (spF K (fun p : Int × Int × Int => [.dt (.int p.1), .dt (.int p.2.1), .dt (.int p.2.2)]) (fun _ => True) fun p => .bool (decide (p.2.1 ≤ p.1) && decide (p.1 ≤ p.2.2))) f_is_whole_within d_is_whole_within) (c_MOST_PLACES : GlobI K mg "MOST_PLACES" 9) : CalD P w K mg base 3 "check_places" ["places", "least"] (spF K (fun p : Nat × Nat => [.dt (.int p.1), .dt (.int p.2)]) (fun p => p.2 ≤ p.1 ∧ p.1 ≤ 9) fun _ => .none) (0) f fd := by
  refine D.cal (ok_Gd D.F sc_check_places (fun _ => rfl) (by decide) fun cdv A outer s H E hr => ⟨_, (pss_one (ps_if (pt_not (pt_val (pe_call C_is_whole_within.G (hr.mono (by decide)) (by rfl) C_is_whole_within.g C_is_whole_within.kp C_is_whole_within.b .nil pass0 (pa_cons (pv 0) (pa_cons (pv 1) (pa_cons (pe_glob (v := .int (9)) (by rfl) c_MOST_PLACES.u.choose_spec ⟨_, rfl⟩) pa_nil)))))) (pss_one ps_never) pss_nil)), fun x hp => ?_⟩)
  walk_at "s"
  walk_at "w"
  refine ⟨(x.1, x.2, 9), rfl, trivial, ?_⟩
  walk_at "w"
  · have h1 : decide ((x.2 : Int) ≤ (x.1 : Int)) = true := decide_eq_true (by have := hp.1; omega)
    have h2 : decide ((x.1 : Int) ≤ 9) = true := decide_eq_true (by have := hp.2; omega)
    simp [h1, h2] at *
    exfalso
    omega
theorem ok_row_of {f : Addr} {fd : FuncData} (D : Df K mg "row_of" s_row_of ["numbers", "counts"] f fd) {f__are_counts : Addr} {d__are_counts : FuncData} (C__are_counts : Cal P w K mg base 3 "_are_counts" ["thing", "many"] (spF K (fun p : List Int × Nat => [.dt (.list (iL p.1)), .dt (.int p.2)]) (fun p => CntOk p.1 p.2 ∧ p.2 ≤ 100) fun _ => .bool true) f__are_counts d__are_counts) {f_check_unmarked : Addr} {d_check_unmarked : FuncData} (C_check_unmarked : Cal P w K mg base 4 "check_unmarked" ["row"] (spF K (fun r : List Int => [.dt (.tuple (iL r))]) (fun r => r.length ≤ 24 ∧ r.Nodup) fun _ => .none) f_check_unmarked d_check_unmarked) (m_len : mg "len" = none) (m_sorted : mg "sorted" = none) (m_tuple : mg "tuple" = none) (m_zip : mg "zip" = none) : Cal P w K mg base 5 "row_of" ["numbers", "counts"] (spF K (fun p : List Int × List Int => [.dt (.tuple (iL p.1)), .dt (.list (iL p.2))]) (fun p => p.1.length ≤ 24 ∧ p.1.Nodup ∧ CntOk p.2 p.1.length) fun p => .tuple (iL (rowF (dsc p.1) p.2))) f fd := by
  refine D.cal (ok_G D.F sc_row_of (fun _ => rfl) (by decide) fun cdv A outer s H E hr => ⟨_, (pss_cons (ps_expr (pe_call C_check_unmarked.G (hr.mono (by decide)) (by rfl) C_check_unmarked.g C_check_unmarked.kp C_check_unmarked.b .nil pass0 (pa_cons (pv 0) pa_nil)))
      (pss_cons (ps_if (pt_not (pt_val (pe_call C__are_counts.G (hr.mono (by decide)) (by rfl) C__are_counts.g C__are_counts.kp C__are_counts.b .nil pass0 (pa_cons (pv 1) (pa_cons (pe_callB cl_len (by rfl) m_len PySem.boot_len (pa_cons (pv 0) pa_nil)) pa_nil))))) (pss_one ps_never) pss_nil)
      (pss_cons (ps_set (i := 2) sc_row_of.nd rfl (Or.inl rfl) (pe_lst pa_nil))
      (pss_cons (ps_for PassesOwn.never rfl (pi_zip (by rfl) m_zip (pa_cons (pe_callBK (cr_sortedRevT (b := true)) (by rfl) m_sorted (by decide +kernel) (pa_cons (pv 0) pa_nil) (pk_cons pe_bl pk_nil)) (pa_cons (pv 1) pa_nil))) (pg_tup (n := 2) rfl (pgs_cons (pg_name (i := 3) sc_row_of.nd rfl (by first | exact Or.inl rfl | exact Or.inr rfl)) (pgs_cons (pg_name (i := 4) sc_row_of.nd rfl (by first | exact Or.inl rfl | exact Or.inr rfl)) pgs_nil))) (pss_one (ps_expr (pe_bm PySem.F.plainAttrs_list PySem.F.slot_list_insert PySem.F.type_list_insert cm_insert (pv 2) (pa_cons (pv 4) (pa_cons (pv 3) pa_nil))))))
      (pss_one (ps_ret (pe_callTy cl_tupleF (by rfl) m_tuple (by decide +kernel) (pa_cons (pv 2) pa_nil)))))))), fun x hp => ?_⟩)
  obtain ⟨ns, cs⟩ := x
  obtain ⟨hl, hn, hc⟩ := hp
  dsimp only at hl hn hc
  have hd := (dsc_perm ns).length_eq
  have hc1 := hc.1
  walk_at "s"
  walk_at "w"
  refine ⟨ns, rfl, ⟨hl, hn⟩, ?_⟩
  walk_at "w"
  refine ⟨(cs, ns.length), by simp, ⟨hc, by simpa using (by omega : ns.length ≤ 100)⟩, ?_⟩
  walk_at "w"
  refine ss_for (fun i Γ => ∃ a b, Γ = [.dt (.tuple (iL ns)), .dt (.list (iL cs)), .ow (iL (rowF ((dsc ns).take i) (cs.take i))), a, b]) fun ss => ?_
  walk_at "w"
  refine ve_sortedTB ?_
  walk_at "w"
  refine fun ns' p1 p2 => ?_
  rw [eq_dsc p1 p2]
  walk_at "w"
  refine ⟨_, _, rfl, rfl, ⟨_, _, rfl⟩, fun i d Γ2 hi ⟨a, b, ec⟩ => ?_, fun Γ2 ⟨a, b, ec⟩ => ?_⟩
  · subst ec
    rw [zip_iL, List.getElem?_map] at hi
    obtain ⟨q, hq, rfl⟩ := Option.map_eq_some_iff.mp hi
    rw [List.zip_eq_zipWith, List.getElem?_zipWith_eq_some] at hq
    obtain ⟨u, v, h1, h2, rfl⟩ := hq
    rw [rowF_snoc h1 h2]
    have h3 := hc.2 i v h2
    have h4 := (List.getElem?_eq_some_iff.mp h2).1
    walk_at "w"
    walk_at "s"
    walk_at "w"
    refine ⟨_, _, _, rfl, rfl, isl_ow rfl, gl_lt (by rw [List.length_map, rowF_len, List.length_take]; omega), h3.1, by omega, ?_⟩
    walk_at "s"
    refine ⟨_, _, congrArg (fun z => [_, _, Cell.ow z, _, _]) ?_⟩
    simp only [insF, iL, List.map_append, List.map_take, List.map_drop, List.map_cons, List.map_nil]
  · subst ec
    walk_at "w"
    walk_at "s"
    walk_at "w"
    show PyData.tuple _ = _
    rw [zipD_len, List.length_map, List.length_map, List.take_of_length_le (by omega), List.take_of_length_le (by omega)]
theorem ok_let_on {f : Addr} {fd : FuncData} (D : Df K mg "let_on" s_let_on ["standing", "word", "most"] f fd) (m_len : mg "len" = none) (m_max : mg "max" = none) (m_min : mg "min" = none) (c_LIGHT : GlobS K mg "LIGHT" "light") : Cal P w K mg base 1 "let_on" ["standing", "word", "most"] (spV K (fun p : Bool × Nat => [.dt (.str (wd p.1)), .dt (.int p.2)]) (fun p zs => ∃ T : List Int, zs = iL T ∧ T.length ≤ 100) fun p zs zs1 d => ∃ T G U : List Int, zs = iL T ∧ zs1 = iL U ∧ d = .list (iL G) ∧ tm p.1 G = (asc (tm p.1 T)).take (T.length - p.2) ∧ (tm p.1 U).Perm ((asc (tm p.1 T)).drop (T.length - p.2))) f fd := by
  refine D.cal (ok_V D.F sc_let_on (fun _ => rfl) (by decide) fun cdv A outer s H E hr => ⟨_, (pss_cons (ps_set (i := 3) sc_let_on.nd rfl (Or.inl rfl) (pe_lst pa_nil))
      (pss_cons (ps_while PassesOwn.never (pt_cmpR op_gt (pe_callB cl_len (by rfl) m_len PySem.boot_len (pa_cons (pv 0) pa_nil)) (pv 2) (nomark _)) (pss_cons (ps_set (i := 4) sc_let_on.nd rfl (Or.inl rfl) (pe_ifExp (pt_cmpR (op_eqD hr.units) (pv 1) (pe_glob (v := .str "light") (by rfl) c_LIGHT.u.choose_spec ⟨_, rfl⟩) (nomark _)) (pe_callB (cr_min rfl) (by rfl) m_min (by decide +kernel) (pa_cons (pv 0) pa_nil)) (pe_callB (cr_max rfl) (by rfl) m_max (by decide +kernel) (pa_cons (pv 0) pa_nil))))
      (pss_cons (ps_expr (pe_bm PySem.F.plainAttrs_list PySem.F.slot_list_remove PySem.F.type_list_remove mt_remove (pv 0) (pa_cons (pv 4) pa_nil)))
      (pss_one (ps_expr (pe_bm PySem.F.plainAttrs_list PySem.F.slot_list_append PySem.F.type_list_append mt_append (pv 3) (pa_cons (pv 4) pa_nil)))))))
      (pss_one (ps_ret (pv 3))))), fun x zs hp => ?_⟩)
  obtain ⟨l, n⟩ := x
  obtain ⟨T, rfl, hT⟩ := hp
  dsimp only
  walk_at "s"
  walk_at "w"
  walk_at "s"
  refine ss_while (fun m Γ => ∃ (G U : List Int) (c : Cell), Γ = [.ln (iL U), .dt (.str (wd l)), .dt (.int n), .ow (iL G), c] ∧ (G ++ U).Perm T ∧ (tm l G).Pairwise (· ≤ ·) ∧ (∀ g ∈ G, ∀ u ∈ U, sg l * g ≤ sg l * u) ∧ (n ≤ U.length ∨ G = []) ∧ m = U.length) T.length ⟨[], T, _, rfl, .refl _, .nil, by simp, .inr rfl, rfl⟩ fun m Γ1 ⟨G, U, c, eΓ, h1, h2, h3, h4, h5⟩ ss => ?_
  subst eΓ
  have hl := h1.length_eq
  rw [List.length_append] at hl
  walk_at "w"
  · have hlt := of_decide_eq_true ‹decide ((n : Int) < ((iL U).length : Int)) = true›
    rw [List.length_map] at hlt
    refine c1_min (rd_ln rfl) (by omega) fun one o1 o2 => ?_
    have o3 : ∀ y ∈ U, sg l * one ≤ sg l * y := fun y hy => by
      have := o2 y hy
      rw [‹l = true›]
      show 1 * one ≤ 1 * y
      omega
    walk_at "w"
    walk_at "s"
    walk_at "w"
    refine ⟨U, one, rfl, isl_ln rfl, o1, ?_⟩
    walk_at "s"
    walk_at "w"
    refine ⟨_, _, rfl, isl_ow rfl, gl_lt (by rw [List.length_map]; omega), ?_⟩
    walk_at "s"
    obtain ⟨s1, s2, s3, s4⟩ := let_step h1 h2 h3 o1 o3
    refine ⟨U.length - 1, by omega, G ++ [one], U.erase one, .dt (.int one), ?_, s1, s2, s3, .inl (by omega), by omega⟩
    simp only [iL, List.map_append, List.map_cons, List.map_nil]
  · have hlt := of_decide_eq_true ‹decide ((n : Int) < ((iL U).length : Int)) = true›
    rw [List.length_map] at hlt
    refine c1_max (rd_ln rfl) (by omega) fun one o1 o2 => ?_
    have o3 : ∀ y ∈ U, sg l * one ≤ sg l * y := fun y hy => by
      have := o2 y hy
      rw [‹l = false›]
      show -1 * one ≤ -1 * y
      omega
    walk_at "w"
    walk_at "s"
    walk_at "w"
    refine ⟨U, one, rfl, isl_ln rfl, o1, ?_⟩
    walk_at "s"
    walk_at "w"
    refine ⟨_, _, rfl, isl_ow rfl, gl_lt (by rw [List.length_map]; omega), ?_⟩
    walk_at "s"
    obtain ⟨s1, s2, s3, s4⟩ := let_step h1 h2 h3 o1 o3
    refine ⟨U.length - 1, by omega, G ++ [one], U.erase one, .dt (.int one), ?_, s1, s2, s3, .inl (by omega), by omega⟩
    simp only [iL, List.map_append, List.map_cons, List.map_nil]
  have hge := of_decide_eq_false ‹decide ((n : Int) < ((iL U).length : Int)) = false›
  rw [List.length_map] at hge
  obtain ⟨f1, f2⟩ := let_fin h1 h2 h3 (by omega) h4
  exact ⟨_, rfl, T, G, U, rfl, rfl, rfl, f1, f2⟩
theorem ok_let_pastT {f : Addr} {fd : FuncData} (D : Df K mg "_let_past" s__let_past ["numbers", "word", "places"] f fd) {f_let_on : Addr} {d_let_on : FuncData} (C_let_on : Cal P w K mg base 1 "let_on" ["standing", "word", "most"] (spV K (fun p : Bool × Nat => [.dt (.str (wd p.1)), .dt (.int p.2)]) (fun p zs => ∃ T : List Int, zs = iL T ∧ T.length ≤ 100) fun p zs zs1 d => ∃ T G U : List Int, zs = iL T ∧ zs1 = iL U ∧ d = .list (iL G) ∧ tm p.1 G = (asc (tm p.1 T)).take (T.length - p.2) ∧ (tm p.1 U).Perm ((asc (tm p.1 T)).drop (T.length - p.2))) f_let_on d_let_on) (m_zip : mg "zip" = none) : Cal P w K mg base 2 "_let_past" ["numbers", "word", "places"] (spF K (fun p : Bool × List Int × List Nat => [.dt (.tuple (iL p.2.1)), .dt (.str (wd p.1)), .dt (.tuple (iL (p.2.2.map Int.ofNat)))]) (fun p => p.2.1.length ≤ 50 ∧ p.2.2.length = p.2.1.length) fun p => .list (iL (tm p.1 (lp ((tm p.1 p.2.1).zip p.2.2) [])))) f fd := by
  refine D.cal (ok_G D.F sc__let_past (fun _ => rfl) (by decide) fun cdv A outer s H E hr => ⟨_, (pss_cons (ps_set (i := 3) sc__let_past.nd rfl (Or.inl rfl) (pe_lst pa_nil))
      (pss_cons (ps_set (i := 4) sc__let_past.nd rfl (Or.inl rfl) (pe_lst pa_nil))
      (pss_cons (ps_for PassesOwn.never rfl (pi_zipTT (by rfl) m_zip (pa_cons (pv 0) (pa_cons (pv 2) pa_nil))) (pg_tup (n := 2) rfl (pgs_cons (pg_name (i := 5) sc__let_past.nd rfl (by first | exact Or.inl rfl | exact Or.inr rfl)) (pgs_cons (pg_name (i := 6) sc__let_past.nd rfl (by first | exact Or.inl rfl | exact Or.inr rfl)) pgs_nil))) (pss_cons (ps_expr (pe_bm PySem.F.plainAttrs_list PySem.F.slot_list_append PySem.F.type_list_append mt_append (pv 3) (pa_cons (pv 5) pa_nil)))
      (pss_one (ps_expr (pe_bm PySem.F.plainAttrs_list PySem.F.slot_list_extend PySem.F.type_list_extend mt_extend (pv 4) (pa_cons (pe_call C_let_on.G (hr.mono (by decide)) (by rfl) C_let_on.g C_let_on.kp C_let_on.b .nil pass0 (pa_cons (pv 3) (pa_cons (pv 1) (pa_cons (pv 6) pa_nil)))) pa_nil))))))
      (pss_one (ps_ret (pe_op op_cat (pv 4) (pe_call C_let_on.G (hr.mono (by decide)) (by rfl) C_let_on.g C_let_on.kp C_let_on.b .nil pass0 (pa_cons (pv 3) (pa_cons (pv 1) (pa_cons pe_int pa_nil)))))))))), fun x hp => ?_⟩)
  obtain ⟨l, ns, rs⟩ := x
  obtain ⟨hl, hr2⟩ := hp
  dsimp only at hl hr2 ⊢
  generalize hL : (tm l ns).zip rs = L
  have hLl : L.length = ns.length := by rw [← hL, List.length_zip, tm_len]; omega
  walk_at "s"
  walk_at "w"
  walk_at "s"
  refine ss_for (fun i Γ => ∃ (U C : List Int) (a b : Cell), Γ = [.dt (.tuple (iL ns)), .dt (.str (wd l)), .dt (.tuple (iL (rs.map Int.ofNat))), .ow (iL U), .ow (iL C), a, b] ∧ lp L [] = tm l C ++ lp (L.drop i) (tm l U) ∧ C.length ≤ ns.length ∧ U.length ≤ i) fun ss => ?_
  walk_at "w"
  refine ⟨_, _, rfl, rfl, ⟨[], [], _, _, rfl, rfl, by simp, by simp⟩, fun i d Γ2 hd ⟨U, C, a, b, ec, h1, h2, h3⟩ => ?_, fun Γ2 ⟨U, C, a, b, ec, h1, h2, h3⟩ => ?_⟩
  · subst ec
    rw [zip_iLN, List.getElem?_map] at hd
    obtain ⟨q, hq, rfl⟩ := Option.map_eq_some_iff.mp hd
    rw [List.zip_eq_zipWith, List.getElem?_zipWith_eq_some] at hq
    obtain ⟨n, m, g1, g2, rfl⟩ := hq
    have hi := (List.getElem?_eq_some_iff.mp g1).1
    have hLi : L[i]? = some (sg l * n, m) := by
      rw [← hL, List.zip_eq_zipWith, List.getElem?_zipWith_eq_some]
      exact ⟨_, _, by rw [tm, List.getElem?_map, g1]; rfl, g2, rfl⟩
    walk_at "w"
    walk_at "s"
    walk_at "w"
    refine ⟨_, _, rfl, isl_ow rfl, gl_lt (by rw [List.length_map]; omega), ?_⟩
    rw [iL_one]
    walk_at "s"
    walk_at "w"
    refine ⟨(l, m), _, isl_ow rfl, rfl, ⟨U ++ [n], rfl, by simp; omega⟩, fun zs1 d ⟨T, G, U', k1, k2, k3, k4, k5⟩ => ?_⟩
    have e1 := iL_inj k1
    subst e1 k2 k3
    dsimp only at k4 k5
    have h4 := let_one hLi h1 k4 k5
    have h5 := congrArg List.length h4
    rw [lp_len, List.length_append, tm_len] at h5
    have h6 := k5.length_eq
    rw [tm_len, List.length_drop, asc_len, tm_len] at h6
    simp only [List.length_append, List.length_singleton, List.length_nil] at h5 h6
    walk_at "s"
    walk_at "w"
    refine ⟨_, _, rfl, isl_ow rfl, gl_le (by simp only [List.length_map]; omega), ?_⟩
    rw [iL_app]
    walk_at "s"
    exact ⟨U', C ++ G, _, _, rfl, h4, by rw [List.length_append]; omega, by omega⟩
  · subst ec
    have hz : (zipD (iL ns) (iL (rs.map Int.ofNat))).length = L.length := by
      rw [zipD_len]
      simp only [List.length_map]
      omega
    rw [hz] at h1 h3
    rw [List.drop_length] at h1
    walk_at "w"
    refine ⟨(l, 0), _, isl_ow rfl, rfl, ⟨U, rfl, by omega⟩, fun zs1 d ⟨T, G, U', k1, k2, k3, k4, k5⟩ => ?_⟩
    have e1 := iL_inj k1
    subst e1 k2 k3
    dsimp only at k4 k5
    have k6 : tm l G = asc (tm l U) := by
      rw [k4, List.take_of_length_le (by rw [asc_len, tm_len]; omega)]
    have k7 : lp L [] = tm l (C ++ G) := by
      rw [h1, tm_app, k6]
      rfl
    have h5 := congrArg List.length k7
    rw [lp_len, tm_len, List.length_append] at h5
    simp only [List.length_nil] at h5
    walk_at "s"
    refine r2_catR (rd_ow rfl) rd_dt (gl_le (by simp only [List.length_map]; omega)) ?_
    rw [iL_app]
    walk_at "w"
    show PyData.list _ = _
    rw [k7, tm_tm]
theorem ok_past_with {f : Addr} {fd : FuncData} (D : Df K mg "past_with" s_past_with ["row", "word", "places"] f fd) {f__are_places : Addr} {d__are_places : FuncData} (C__are_places : Cal P w K mg base 4 "_are_places" ["thing", "many"] (spF K (fun p : List Nat × Nat => [.dt (.tuple (iL (p.1.map Int.ofNat))), .dt (.int p.2)]) (fun p => p.1.length = p.2 ∧ p.2 ≤ 100 ∧ ∀ m ∈ p.1, m ≤ 9) fun _ => .bool true) f__are_places d__are_places) {f__is_word : Addr} {d__is_word : FuncData} (C__is_word : Cal P w K mg base 1 "_is_word" ["thing"] (spF K (fun l : Bool => [.dt (.str (wd l))]) (fun _ => True) fun _ => .bool true) f__is_word d__is_word) {f_check_unmarked : Addr} {d_check_unmarked : FuncData} (C_check_unmarked : Cal P w K mg base 4 "check_unmarked" ["row"] (spF K (fun r : List Int => [.dt (.tuple (iL r))]) (fun r => r.length ≤ 24 ∧ r.Nodup) fun _ => .none) f_check_unmarked d_check_unmarked) {f_let_pastT : Addr} {d_let_pastT : FuncData} (C_let_pastT : Cal P w K mg base 2 "_let_past" ["numbers", "word", "places"] (spF K (fun p : Bool × List Int × List Nat => [.dt (.tuple (iL p.2.1)), .dt (.str (wd p.1)), .dt (.tuple (iL (p.2.2.map Int.ofNat)))]) (fun p => p.2.1.length ≤ 50 ∧ p.2.2.length = p.2.1.length) fun p => .list (iL (tm p.1 (lp ((tm p.1 p.2.1).zip p.2.2) [])))) f_let_pastT d_let_pastT) (m_len : mg "len" = none) (m_tuple : mg "tuple" = none) : Cal P w K mg base 5 "past_with" ["row", "word", "places"] (spF K (fun p : Bool × List Int × List Nat => [.dt (.tuple (iL p.2.1)), .dt (.str (wd p.1)), .dt (.tuple (iL (p.2.2.map Int.ofNat)))]) (fun p => p.2.1.length ≤ 24 ∧ p.2.1.Nodup ∧ p.2.2.length = p.2.1.length ∧ ∀ m ∈ p.2.2, m ≤ 9) fun p => .tuple (iL (tm p.1 (lp ((tm p.1 p.2.1).zip p.2.2) [])))) f fd := by
  refine D.cal (ok_G D.F sc_past_with (fun _ => rfl) (by decide) fun cdv A outer s H E hr => ⟨_, (pss_cons (ps_expr (pe_call C_check_unmarked.G (hr.mono (by decide)) (by rfl) C_check_unmarked.g C_check_unmarked.kp C_check_unmarked.b .nil pass0 (pa_cons (pv 0) pa_nil)))
      (pss_cons (ps_if (pt_not (pt_val (pe_call C__is_word.G (hr.mono (by decide)) (by rfl) C__is_word.g C__is_word.kp C__is_word.b .nil pass0 (pa_cons (pv 1) pa_nil)))) (pss_one ps_never) pss_nil)
      (pss_cons (ps_if (pt_not (pt_val (pe_call C__are_places.G (hr.mono (by decide)) (by rfl) C__are_places.g C__are_places.kp C__are_places.b .nil pass0 (pa_cons (pv 2) (pa_cons (pe_callB cl_len (by rfl) m_len PySem.boot_len (pa_cons (pv 0) pa_nil)) pa_nil))))) (pss_one ps_never) pss_nil)
      (pss_one (ps_ret (pe_callTy cl_tupleF (by rfl) m_tuple (by decide +kernel) (pa_cons (pe_call C_let_pastT.G (hr.mono (by decide)) (by rfl) C_let_pastT.g C_let_pastT.kp C_let_pastT.b .nil pass0 (pa_cons (pv 0) (pa_cons (pv 1) (pa_cons (pv 2) pa_nil)))) pa_nil))))))), fun x hp => ?_⟩)
  obtain ⟨l, ns, rs⟩ := x
  obtain ⟨h1, h2, h3, h4⟩ := hp
  dsimp only at h1 h2 h3 h4 ⊢
  walk_at "s"
  walk_at "w"
  refine ⟨ns, rfl, ⟨h1, h2⟩, ?_⟩
  walk_at "w"
  refine ⟨l, rfl, trivial, ?_⟩
  walk_at "w"
  refine ⟨(rs, ns.length), by simp, ⟨h3, (by omega : ns.length ≤ 100), h4⟩, ?_⟩
  walk_at "w"
  refine ⟨(l, ns, rs), rfl, ⟨(by omega : ns.length ≤ 50), h3⟩, ?_⟩
  walk_at "w"
theorem ok_comes_out {f : Addr} {fd : FuncData} (D : Df K mg "comes_out" s_comes_out ["row", "places", "letting"] f fd) {f_check_places : Addr} {d_check_places : FuncData} (C_check_places : CalD P w K mg base 3 "check_places" ["places", "least"] (spF K (fun p : Nat × Nat => [.dt (.int p.1), .dt (.int p.2)]) (fun p => p.2 ≤ p.1 ∧ p.1 ≤ 9) fun _ => .none) (0) f_check_places d_check_places) {f_check_unmarked : Addr} {d_check_unmarked : FuncData} (C_check_unmarked : Cal P w K mg base 4 "check_unmarked" ["row"] (spF K (fun r : List Int => [.dt (.tuple (iL r))]) (fun r => r.length ≤ 24 ∧ r.Nodup) fun _ => .none) f_check_unmarked d_check_unmarked) {f_is_lettingO : Addr} {d_is_lettingO : FuncData} (C_is_lettingO : Cal P w K mg base 2 "_is_letting" ["row", "places", "letting"] (spF K (fun p : List Int × Nat × Dat => [.dt (.tuple (iL p.1)), .dt (.int p.2.1), .dt p.2.2]) (fun p => p.1.length ≤ 24 ∧ okD p.2.2 = true ∧ ∀ r, p.2.2 = .tuple r → ∀ d ∈ r, SeqAt.shaped d = true) fun p => .bool (isLetD p.1 p.2.1 p.2.2)) f_is_lettingO d_is_lettingO) {f_is_wholeO : Addr} {d_is_wholeO : FuncData} (C_is_wholeO : Cal P w K mg base 1 "is_whole" ["thing"] (spF K (fun d : Dat => [.dt d]) (fun d => isK d = true) fun d => .bool (isI d)) f_is_wholeO d_is_wholeO) (m_tuple : mg "tuple" = none) : Cal P w K mg base 5 "comes_out" ["row", "places", "letting"] (spF K (fun p : List Int × Nat × List Dat => [.dt (.tuple (iL p.1)), .dt (.int p.2.1), .dt (.tuple p.2.2)]) (fun p => p.1.length ≤ 24 ∧ p.1.Nodup ∧ p.2.1 ≤ 9 ∧ LetSh (.tuple p.2.2) ∧ isLetD p.1 p.2.1 (.tuple p.2.2) = true) fun p => .tuple (p.2.2.filter isI)) f fd := by
  refine D.cal (ok_G D.F sc_comes_out (fun _ => rfl) (by decide) fun cdv A outer s H E hr => ⟨_, (pss_cons (ps_expr (pe_call C_check_unmarked.G (hr.mono (by decide)) (by rfl) C_check_unmarked.g C_check_unmarked.kp C_check_unmarked.b .nil pass0 (pa_cons (pv 0) pa_nil)))
      (pss_cons (ps_expr (pe_call C_check_places.G (hr.mono (by decide)) (by rfl) C_check_places.g C_check_places.kp C_check_places.b1.choose_spec.2 C_check_places.b1.choose_spec.1 pass0 (pa_cons (pv 1) pa_nil)))
      (pss_cons (ps_if (pt_not (pt_val (pe_call C_is_lettingO.G (hr.mono (by decide)) (by rfl) C_is_lettingO.g C_is_lettingO.kp C_is_lettingO.b .nil pass0 (pa_cons (pv 0) (pa_cons (pv 1) (pa_cons (pv 2) pa_nil)))))) (pss_one ps_never) pss_nil)
      (pss_one (ps_ret (pe_callTy cl_tupleF (by rfl) m_tuple (by decide +kernel) (pa_cons (pe_lc (own := [("step", 3)]) rfl sc_comes_out.nd (pi_tup (pv 2)) (blkOk_by (own := [("step", 3)]) (N := ["row", "places", "letting", "step"]) (sc := (defScope s_comes_out)) (by decide +kernel)) (fun _ _ _ _ _ => (pg_name (i := 3) sc_comes_out.nd rfl (by first | exact Or.inl rfl | exact Or.inr rfl))) (fun _ _ _ _ _ => (pts_one (pt_val (pe_call C_is_wholeO.G (hr.mono (by decide)) (by rfl) C_is_wholeO.g C_is_wholeO.kp C_is_wholeO.b .nil pass0 (pa_cons (pv 3) pa_nil))))) (fun _ _ _ _ _ => (pv 3))) pa_nil))))))), fun x hp => ?_⟩)
  obtain ⟨N, b, W⟩ := x
  obtain ⟨h1, h2, h3, h4, h5⟩ := hp
  dsimp only at h1 h2 h3 h4 h5 ⊢
  obtain ⟨g1, g2⟩ := okD_t h4.1
  walk_at "s"
  walk_at "w"
  refine ⟨N, rfl, ⟨h1, h2⟩, ?_⟩
  walk_at "w"
  refine ⟨(b, 0), rfl, ⟨Nat.zero_le _, h3⟩, ?_⟩
  walk_at "w"
  refine ⟨(N, b, .tuple W), rfl, ⟨h1, h4⟩, ?_⟩
  rw [h5]
  walk_at "w"
  apply ve_lcT (vs := [3]) id W isI id (by walk_at "n")
  walk_at "w"
  refine ⟨(List.map_id _).symm, by simp, gl_lt (by omega), fun s hs => ⟨_, tg_name (by decide), fun acc srcs => ?_⟩, ?_⟩
  · walk_at "s"
    walk_at "w"
    refine ⟨s, rfl, g2 s hs, ?_⟩
    walk_at "w"
    refine ⟨rfl, fun _ => ?_, fun _ => rfl⟩
    walk_at "w"
    exact ⟨rfl, rfl⟩
  walk_at "w"
  rw [List.map_id]
theorem ok__needed_at {f : Addr} {fd : FuncData} (D : Df K mg "_needed_at" s__needed_at ["row", "place"] f fd) (m_len : mg "len" = none) (m_min : mg "min" = none) : Cal P w K mg base 1 "_needed_at" ["row", "place"] (spF K (fun p : List Int × Nat => [.dt (.tuple (iL p.1)), .dt (.int p.2)]) (fun p => p.1.length ≤ 24 ∧ p.2 < p.1.length) fun p => .int (nd p.1 p.2 : Nat)) f fd := by
  refine D.cal (ok_G D.F sc__needed_at (fun _ => rfl) (by decide) fun cdv A outer s H E hr => ⟨_, (pss_cons (ps_set (i := 2) sc__needed_at.nd rfl (Or.inl rfl) (pe_slice sl_tupF (pv 0) (po_some (pe_op op_add (pv 1) pe_int)) po_none))
      (pss_cons (ps_if (pt_not (pt_truTp (pv 2) (by intro _; rfl))) (pss_one (ps_ret pe_int)) pss_nil)
      (pss_cons (ps_set (i := 3) sc__needed_at.nd rfl (Or.inr rfl) (pe_callB (cr_minT rfl hr.units) (by rfl) m_min (by decide +kernel) (pa_cons (pv 2) pa_nil)))
      (pss_one (ps_ret (pe_callB cl_len (by rfl) m_len PySem.boot_len (pa_cons (pe_lc (own := [("number", 4)]) rfl sc__needed_at.nd (pi_tup (pe_slice sl_tupF (pv 0) po_none (po_some (pe_op op_add (pv 1) pe_int)))) (blkOk_by (own := [("number", 4)]) (N := ["row", "place", "behind", "least", "number"]) (sc := (defScope s__needed_at)) (by decide +kernel)) (fun _ _ _ _ _ => (pg_name (i := 4) sc__needed_at.nd rfl (by first | exact Or.inl rfl | exact Or.inr rfl))) (fun _ _ _ _ _ => (pts_one (pt_cmpR op_gt (pv 4) (pv 3) (nomark _)))) (fun _ _ _ _ _ => (pv 4))) pa_nil))))))), fun x hp => ?_⟩)
  obtain ⟨N, k⟩ := x
  obtain ⟨h1, h2⟩ := hp
  dsimp only at h1 h2 ⊢
  have ce : Ld.cutD (iL N) (some ((k : Int) + 1)) none = iL (N.drop (k + 1)) := (cut_from _ (k + 1)).trans List.map_drop.symm
  walk_at "s"
  walk_at "w"
  · have h0 : N.drop (k + 1) = [] := by
      have h3 : (!!(Ld.cutD (iL N) (some ((k : Int) + 1)) none).isEmpty) = true := by assumption
      rw [ce] at h3
      simpa using h3
    rw [nd_nil h0]
    rfl
  have h0 : N.drop (k + 1) ≠ [] := fun e => by
    have h3 : (!!(Ld.cutD (iL N) (some ((k : Int) + 1)) none).isEmpty) = false := by assumption
    rw [ce, e] at h3
    simp at h3
  rw [ce]
  walk_at "s"
  walk_at "w"
  refine c1_minT (by rw [List.length_pos_iff]; exact h0) fun m m1 m2 => ?_
  walk_at "w"
  walk_at "s"
  apply ve_lcT (vs := [4]) PyData.int (N.take (k + 1)) (fun y => decide (y > m)) PyData.int (by walk_at "n")
  walk_at "w"
  refine ⟨(cut_to _ (k + 1)).trans (iL_take _ _), by simp, gl_lt (by simp; omega), fun z hz => ⟨_, tg_name (by decide), fun acc srcs => ?_⟩, ?_⟩
  · walk_at "s"
    walk_at "w"
    refine ⟨rfl, fun _ => ?_, fun _ => rfl⟩
    walk_at "w"
    exact ⟨rfl, rfl⟩
  walk_at "w"
  show PyData.int _ = _
  rw [nd_min m1 m2, List.length_map]
  rfl
theorem ok_needed {f : Addr} {fd : FuncData} (D : Df K mg "needed" s_needed ["row"] f fd) {f__needed_at : Addr} {d__needed_at : FuncData} (C__needed_at : Cal P w K mg base 1 "_needed_at" ["row", "place"] (spF K (fun p : List Int × Nat => [.dt (.tuple (iL p.1)), .dt (.int p.2)]) (fun p => p.1.length ≤ 24 ∧ p.2 < p.1.length) fun p => .int (nd p.1 p.2 : Nat)) f__needed_at d__needed_at) {f_check_unmarked : Addr} {d_check_unmarked : FuncData} (C_check_unmarked : Cal P w K mg base 4 "check_unmarked" ["row"] (spF K (fun r : List Int => [.dt (.tuple (iL r))]) (fun r => r.length ≤ 24 ∧ r.Nodup) fun _ => .none) f_check_unmarked d_check_unmarked) (m_len : mg "len" = none) (m_range : mg "range" = none) : Cal P w K mg base 5 "needed" ["row"] (spF K (fun N : List Int => [.dt (.tuple (iL N))]) (fun N => N.length ≤ 24 ∧ N.Nodup) fun N => .list (iL ((ndN N).map Int.ofNat))) f fd := by
  refine D.cal (ok_G D.F sc_needed (fun _ => rfl) (by decide) fun cdv A outer s H E hr => ⟨_, (pss_cons (ps_expr (pe_call C_check_unmarked.G (hr.mono (by decide)) (by rfl) C_check_unmarked.g C_check_unmarked.kp C_check_unmarked.b .nil pass0 (pa_cons (pv 0) pa_nil)))
      (pss_one (ps_ret (pe_lc (own := [("place", 1)]) rfl sc_needed.nd (pi_range1 (by rfl) m_range (pa_cons (pe_callB cl_len (by rfl) m_len PySem.boot_len (pa_cons (pv 0) pa_nil)) pa_nil)) (blkOk_by (own := [("place", 1)]) (N := ["row", "place"]) (sc := (defScope s_needed)) (by decide +kernel)) (fun _ _ _ _ _ => (pg_name (i := 1) sc_needed.nd rfl (by first | exact Or.inl rfl | exact Or.inr rfl))) (fun _ _ _ _ _ => pts_nil) (fun _ _ _ _ _ => (pe_call C__needed_at.G (hr.mono (by decide)) (by rfl) C__needed_at.g C__needed_at.kp C__needed_at.b .nil pass0 (pa_cons (pv 0) (pa_cons (pv 1) pa_nil)))))))), fun x hp => ?_⟩)
  have h1 := hp.1
  walk_at "s"
  walk_at "w"
  refine ⟨x, rfl, hp, ?_⟩
  walk_at "w"
  apply ve_lcT (vs := [1]) (fun k : Nat => PyData.int k) (List.range x.length) (fun _ => true) (fun k : Nat => PyData.int (nd x k : Nat)) (by walk_at "n")
  walk_at "w"
  refine ⟨by omega, by rw [List.length_map]; omega, by rw [List.length_map]; exact rng0_eq _, by simp, gl_lt (by simp; omega), fun k hk => ⟨_, tg_name (by decide), fun acc srcs => ?_⟩, ?_⟩
  · have hk2 := List.mem_range.mp hk
    walk_at "s"
    walk_at "w"
    refine ⟨rfl, fun _ => ?_, fun _ => rfl⟩
    walk_at "w"
    refine ⟨(x, k), rfl, ⟨h1, hk2⟩, ?_⟩
    walk_at "w"
    exact ⟨rfl, rfl⟩
  walk_at "w"
  show PyData.list _ = _
  rw [fil_true, ndN, iL, List.map_map, List.map_map]
  rfl
theorem ok__put_at {f : Addr} {fd : FuncData} (D : Df K mg "_put_at" s__put_at ["row", "one", "other"] f fd) : Cal P w K mg base 1 "_put_at" ["row", "one", "other"] (spF K (fun p : List Int × Nat × Nat => [.dt (.tuple (iL p.1)), .dt (.int p.2.1), .dt (.int p.2.2)]) (fun p => p.1.length ≤ 24 ∧ p.2.1 < p.1.length ∧ p.2.2 < p.1.length) fun p => .tuple (iL (mvN p.1 p.2.1 p.2.2))) f fd := by
  refine D.cal (ok_G D.F sc__put_at (fun _ => rfl) (by decide) fun cdv A outer s H E hr => ⟨_, (pss_cons (ps_set (i := 3) sc__put_at.nd rfl (Or.inl rfl) (pe_op op_catF (pe_slice sl_tupF (pv 0) po_none (po_some (pv 1))) (pe_slice sl_tupF (pv 0) (po_some (pe_op op_add (pv 1) pe_int)) po_none)))
      (pss_one (ps_ret (pe_op op_catF (pe_op op_catF (pe_slice sl_tupF (pv 3) po_none (po_some (pv 2))) (pe_tupF (pa_cons (pe_ix ix_tup (pv 0) (pv 1) (fun _ _ => rfl)) pa_nil))) (pe_slice sl_tupF (pv 3) (po_some (pv 2)) po_none))))), fun x hp => ?_⟩)
  obtain ⟨N, i, j⟩ := x
  obtain ⟨h1, h2, h3⟩ := hp
  dsimp only at h1 h2 h3 ⊢
  walk_at "s"
  walk_at "w"
  rw [cut_to, iL_take, show ((i : Int) + 1) = ((i + 1 : Nat) : Int) by omega, cut_from, show (iL N).drop (i + 1) = iL (N.drop (i + 1)) from List.map_drop.symm]
  refine r2_catT (gl_le (by rw [List.length_map, List.length_map, List.length_take, List.length_drop]; omega)) ?_
  rw [iL_app]
  walk_at "w"
  walk_at "s"
  obtain ⟨Lf, hLf⟩ : ∃ Lf, Lf = N.take i ++ N.drop (i + 1) := ⟨_, rfl⟩
  have hll : Lf.length ≤ 24 := by rw [hLf, List.length_append, List.length_take, List.length_drop]; omega
  rw [← hLf]
  have hx : (iL N)[i]? = some (.int (N.getD i 0)) := by rw [List.getElem?_map, List.getD_eq_getElem?_getD, List.getElem?_eq_getElem h2]; rfl
  walk_at "w"
  refine r2_ixT (atI_nat hx) ?_
  walk_at "w"
  rw [cut_to, iL_take]
  refine r2_catT (gl_le (by rw [List.length_map, List.length_take]; simp; omega)) ?_
  rw [iL_one]
  walk_at "w"
  rw [cut_from, show (iL Lf).drop j = iL (Lf.drop j) from List.map_drop.symm]
  refine r2_catT (gl_le (by simp only [List.length_map, List.length_append, List.length_take, List.length_drop, List.length_singleton]; omega)) ?_
  rw [iL_app]
  walk_at "w"
  rw [mvN, ← hLf]
theorem ok_move {f : Addr} {fd : FuncData} (D : Df K mg "move" s_move ["row", "one", "other"] f fd) {f__put_at : Addr} {d__put_at : FuncData} (C__put_at : Cal P w K mg base 1 "_put_at" ["row", "one", "other"] (spF K (fun p : List Int × Nat × Nat => [.dt (.tuple (iL p.1)), .dt (.int p.2.1), .dt (.int p.2.2)]) (fun p => p.1.length ≤ 24 ∧ p.2.1 < p.1.length ∧ p.2.2 < p.1.length) fun p => .tuple (iL (mvN p.1 p.2.1 p.2.2))) f__put_at d__put_at) {f_check_unmarked : Addr} {d_check_unmarked : FuncData} (C_check_unmarked : Cal P w K mg base 4 "check_unmarked" ["row"] (spF K (fun r : List Int => [.dt (.tuple (iL r))]) (fun r => r.length ≤ 24 ∧ r.Nodup) fun _ => .none) f_check_unmarked d_check_unmarked) {f_is_whole_within : Addr} {d_is_whole_within : FuncData} (C_is_whole_within : Cal P w K mg base 2 "is_whole_within" ["thing", "least", "most"] (spF K (fun p : Int × Int × Int => [.dt (.int p.1), .dt (.int p.2.1), .dt (.int p.2.2)]) (fun _ => True) fun p => .bool (decide (p.2.1 ≤ p.1) && decide (p.1 ≤ p.2.2))) f_is_whole_within d_is_whole_within) (m_len : mg "len" = none) : Cal P w K mg base 5 "move" ["row", "one", "other"] (spF K (fun p : List Int × Nat × Nat => [.dt (.tuple (iL p.1)), .dt (.int p.2.1), .dt (.int p.2.2)]) (fun p => p.1.length ≤ 24 ∧ p.1.Nodup ∧ p.2.1 < p.1.length ∧ p.2.2 < p.1.length) fun p => .tuple (iL (mvN p.1 p.2.1 p.2.2))) f fd := by
  refine D.cal (ok_G D.F sc_move (fun _ => rfl) (by decide) fun cdv A outer s H E hr => ⟨_, (pss_cons (ps_expr (pe_call C_check_unmarked.G (hr.mono (by decide)) (by rfl) C_check_unmarked.g C_check_unmarked.kp C_check_unmarked.b .nil pass0 (pa_cons (pv 0) pa_nil)))
      (pss_cons (ps_set (i := 3) sc_move.nd rfl (Or.inl rfl) (pe_op op_sub (pe_callB cl_len (by rfl) m_len PySem.boot_len (pa_cons (pv 0) pa_nil)) pe_int))
      (pss_cons (ps_if (PW.pt (pw_or (pt_not (pt_val (pe_call C_is_whole_within.G (hr.mono (by decide)) (by rfl) C_is_whole_within.g C_is_whole_within.kp C_is_whole_within.b .nil pass0 (pa_cons (pv 1) (pa_cons pe_int (pa_cons (pv 3) pa_nil)))))) (pw_or1 (pt_not (pt_val (pe_call C_is_whole_within.G (hr.mono (by decide)) (by rfl) C_is_whole_within.g C_is_whole_within.kp C_is_whole_within.b .nil pass0 (pa_cons (pv 2) (pa_cons pe_int (pa_cons (pv 3) pa_nil))))))))) (pss_one ps_never) pss_nil)
      (pss_one (ps_ret (pe_call C__put_at.G (hr.mono (by decide)) (by rfl) C__put_at.g C__put_at.kp C__put_at.b .nil pass0 (pa_cons (pv 0) (pa_cons (pv 1) (pa_cons (pv 2) pa_nil))))))))), fun x hp => ?_⟩)
  obtain ⟨N, i, j⟩ := x
  obtain ⟨h1, hn, h2, h3⟩ := hp
  dsimp only at h1 hn h2 h3 ⊢
  walk_at "s"
  walk_at "w"
  refine ⟨N, rfl, ⟨h1, hn⟩, ?_⟩
  walk_at "w"
  walk_at "s"
  have hNl : (iL N).length = N.length := List.length_map _
  walk_at "w"
  have e1 : (decide ((0 : Int) ≤ (i : Int)) && decide ((i : Int) ≤ ((iL N).length : Int) - 1)) = true := by rw [decide_eq_true (by omega), decide_eq_true (by omega)]; rfl
  have e2 : (decide ((0 : Int) ≤ (j : Int)) && decide ((j : Int) ≤ ((iL N).length : Int) - 1)) = true := by rw [decide_eq_true (by omega), decide_eq_true (by omega)]; rfl
  refine ⟨((i : Int), 0, ((iL N).length : Int) - 1), rfl, trivial, ?_⟩
  dsimp only
  rw [e1]
  walk_at "w"
  refine ⟨((j : Int), 0, ((iL N).length : Int) - 1), rfl, trivial, ?_⟩
  dsimp only
  rw [e2]
  walk_at "w"
  refine ⟨(N, i, j), rfl, ⟨h1, h2, h3⟩, ?_⟩
  walk_at "w"
theorem ok_greater_aheadL {f : Addr} {fd : FuncData} (D : Df K mg "_greater_ahead" s__greater_ahead ["numbers"] f fd) (m_enumerate : mg "enumerate" = none) (m_len : mg "len" = none) : Cal P w K mg base 1 "_greater_ahead" ["numbers"] (spF K (fun r : List Int => [.dt (.list (iL r))]) (fun r => r.length ≤ 100) fun r => .list (iL (gr r))) f fd := by
  refine D.cal (ok_G D.F sc__greater_ahead (fun _ => rfl) (by decide) fun cdv A outer s H E hr => ⟨_, (pss_one (ps_ret (pe_lc (own := [("place", 1), ("number", 2)]) rfl sc__greater_ahead.nd (pi_enum (by rfl) m_enumerate (pa_cons (pv 0) pa_nil)) (blkOk_by (own := [("place", 1), ("number", 2)]) (N := ["numbers", "place", "number", "other"]) (sc := (defScope s__greater_ahead)) (by decide +kernel)) (fun _ _ _ _ _ => (pg_tupK (K := K) (n := 2) rfl rfl (pgs_cons (pg_name (i := 1) sc__greater_ahead.nd rfl (by first | exact Or.inl rfl | exact Or.inr rfl)) (pgs_cons (pg_name (i := 2) sc__greater_ahead.nd rfl (by first | exact Or.inl rfl | exact Or.inr rfl)) pgs_nil)))) (fun _ _ _ _ _ => pts_nil) (fun _ _ _ _ _ => (pe_callB (cl_lenK (K := K) rfl) (by rfl) m_len PySem.boot_len (pa_cons (pe_lc (own := [("other", 3)]) rfl sc__greater_ahead.nd (pi_listK (K := K) rfl (pe_slice (sl_listK (K := K) rfl) (pv 0) po_none (po_some (pv 1)))) (blkOk_by (own := [("other", 3)]) (N := ["numbers", "place", "number", "other"]) (sc := ⟨.function, [(".0", .local), ("place", .local), ("number", .cell), ("len", .globalImplicit), ("numbers", .cell)], false, false, []⟩) (by decide +kernel)) (fun _ _ _ _ _ => (pg_name (i := 3) sc__greater_ahead.nd rfl (by first | exact Or.inl rfl | exact Or.inr rfl))) (fun _ _ _ _ _ => (pts_one (pt_cmpR op_gt (pv 3) (pv 2) (nomark _)))) (fun _ _ _ _ _ => (pv 3))) pa_nil)))))), fun x hp => ?_⟩)
  walk_at "s"
  walk_at "w"
  apply ve_lcT (vs := [1, 2]) (fun p : Int × Nat => PyData.tuple [.int p.2, .int p.1]) x.zipIdx _ _ (by walk_at "n")
  walk_at "w"
  refine ⟨enum_iL x, by simp, gl_lt (by simp; omega), fun a ha => ⟨_, tg_pair (by decide) (by decide), fun acc srcs => ?_⟩, ?_⟩
  · walk_at "s"
    walk_at "w"
    refine ⟨rfl, fun _ => ?_, fun _ => rfl⟩
    walk_at "w"
    apply ve_lcT (vs := [3]) PyData.int (x.take a.2) _ _ (by walk_at "n")
    walk_at "w"
    refine ⟨(cut_to _ _).trans (iL_take _ _), by simp, gl_lt (by simp; omega), fun b hb => ⟨_, tg_name (by decide), fun acc srcs => ?_⟩, ?_⟩
    · walk_at "s"
      walk_at "w"
      refine ⟨rfl, fun _ => ?_, fun _ => rfl⟩
      walk_at "w"
      exact ⟨rfl, rfl⟩
    · walk_at "w"
      exact ⟨rfl, rfl⟩
  · walk_at "w"
    show PyData.list _ = PyData.list _
    unfold gr
    rw [fil_true]
    simp only [iL, List.map_map, List.length_map]
    rfl
theorem ok_greater_aheadT {f : Addr} {fd : FuncData} (D : Df K mg "_greater_ahead" s__greater_ahead ["numbers"] f fd) (m_enumerate : mg "enumerate" = none) (m_len : mg "len" = none) : Cal P w K mg base 1 "_greater_ahead" ["numbers"] (spF K (fun r : List Int => [.dt (.tuple (iL r))]) (fun r => r.length ≤ 100) fun r => .list (iL (gr r))) f fd := by
  refine D.cal (ok_G D.F sc__greater_ahead (fun _ => rfl) (by decide) fun cdv A outer s H E hr => ⟨_, (pss_one (ps_ret (pe_lc (own := [("place", 1), ("number", 2)]) rfl sc__greater_ahead.nd (pi_enumT (by rfl) m_enumerate (pa_cons (pv 0) pa_nil)) (blkOk_by (own := [("place", 1), ("number", 2)]) (N := ["numbers", "place", "number", "other"]) (sc := (defScope s__greater_ahead)) (by decide +kernel)) (fun _ _ _ _ _ => (pg_tupK (K := K) (n := 2) rfl rfl (pgs_cons (pg_name (i := 1) sc__greater_ahead.nd rfl (by first | exact Or.inl rfl | exact Or.inr rfl)) (pgs_cons (pg_name (i := 2) sc__greater_ahead.nd rfl (by first | exact Or.inl rfl | exact Or.inr rfl)) pgs_nil)))) (fun _ _ _ _ _ => pts_nil) (fun _ _ _ _ _ => (pe_callB (cl_lenK (K := K) rfl) (by rfl) m_len PySem.boot_len (pa_cons (pe_lc (own := [("other", 3)]) rfl sc__greater_ahead.nd (pi_tupK (K := K) rfl (pe_slice (sl_tupFK (K := K) rfl) (pv 0) po_none (po_some (pv 1)))) (blkOk_by (own := [("other", 3)]) (N := ["numbers", "place", "number", "other"]) (sc := ⟨.function, [(".0", .local), ("place", .local), ("number", .cell), ("len", .globalImplicit), ("numbers", .cell)], false, false, []⟩) (by decide +kernel)) (fun _ _ _ _ _ => (pg_name (i := 3) sc__greater_ahead.nd rfl (by first | exact Or.inl rfl | exact Or.inr rfl))) (fun _ _ _ _ _ => (pts_one (pt_cmpR op_gt (pv 3) (pv 2) (nomark _)))) (fun _ _ _ _ _ => (pv 3))) pa_nil)))))), fun x hp => ?_⟩)
  walk_at "s"
  walk_at "w"
  apply ve_lcT (vs := [1, 2]) (fun p : Int × Nat => PyData.tuple [.int p.2, .int p.1]) x.zipIdx _ _ (by walk_at "n")
  walk_at "w"
  refine ⟨enum_iL x, by simp, gl_lt (by simp; omega), fun a ha => ⟨_, tg_pair (by decide) (by decide), fun acc srcs => ?_⟩, ?_⟩
  · walk_at "s"
    walk_at "w"
    refine ⟨rfl, fun _ => ?_, fun _ => rfl⟩
    walk_at "w"
    apply ve_lcT (vs := [3]) PyData.int (x.take a.2) _ _ (by walk_at "n")
    walk_at "w"
    refine ⟨(cut_to _ _).trans (iL_take _ _), by simp, gl_lt (by simp; omega), fun b hb => ⟨_, tg_name (by decide), fun acc srcs => ?_⟩, ?_⟩
    · walk_at "s"
      walk_at "w"
      refine ⟨rfl, fun _ => ?_, fun _ => rfl⟩
      walk_at "w"
      exact ⟨rfl, rfl⟩
    · walk_at "w"
      exact ⟨rfl, rfl⟩
  · walk_at "w"
    show PyData.list _ = PyData.list _
    unfold gr
    rw [fil_true]
    simp only [iL, List.map_map, List.length_map]
    rfl
theorem ok_counts {f : Addr} {fd : FuncData} (D : Df K mg "counts" s_counts ["row"] f fd) {f__numbers_of : Addr} {d__numbers_of : FuncData} (C__numbers_of : Cal P w K mg base 1 "_numbers_of" ["things"] (spF K (fun r : List (Option Int) => [.dt (.tuple (oL r))]) (fun r => r.length ≤ 100) fun r => .list (iL (nums r))) f__numbers_of d__numbers_of) {f_check_row : Addr} {d_check_row : FuncData} (C_check_row : Cal P w K mg base 3 "check_row" ["row"] (spF K (fun r : List (Option Int) => [.dt (.tuple (oL r))]) RowOk fun _ => .none) f_check_row d_check_row) {f_greater_aheadL : Addr} {d_greater_aheadL : FuncData} (C_greater_aheadL : Cal P w K mg base 1 "_greater_ahead" ["numbers"] (spF K (fun r : List Int => [.dt (.list (iL r))]) (fun r => r.length ≤ 100) fun r => .list (iL (gr r))) f_greater_aheadL d_greater_aheadL) : Cal P w K mg base 4 "counts" ["row"] (spF K (fun r : List (Option Int) => [.dt (.tuple (oL r))]) RowOk fun r => .list (iL (gr (nums r)))) f fd := by
  refine D.cal (ok_G D.F sc_counts (fun _ => rfl) (by decide) fun cdv A outer s H E hr => ⟨_, (pss_cons (ps_expr (pe_call C_check_row.G (hr.mono (by decide)) (by rfl) C_check_row.g C_check_row.kp C_check_row.b .nil pass0 (pa_cons (pv 0) pa_nil)))
      (pss_one (ps_ret (pe_call C_greater_aheadL.G (hr.mono (by decide)) (by rfl) C_greater_aheadL.g C_greater_aheadL.kp C_greater_aheadL.b .nil pass0 (pa_cons (pe_call C__numbers_of.G (hr.mono (by decide)) (by rfl) C__numbers_of.g C__numbers_of.kp C__numbers_of.b .nil pass0 (pa_cons (pv 0) pa_nil)) pa_nil))))), fun x hp => ?_⟩)
  have l1 := nums_len x
  have l2 := hp.1
  walk_at "s"
  walk_at "w"
  refine ⟨_, rfl, hp, ?_⟩
  walk_at "w"
  refine ⟨_, rfl, by omega, ?_⟩
  walk_at "w"
  refine ⟨_, rfl, by omega, ?_⟩
  walk_at "w"
theorem ok__can_have {f : Addr} {fd : FuncData} (D : Df K mg "_can_have" s__can_have ["count", "rank", "places"] f fd) (m_list : mg "list" = none) (m_min : mg "min" = none) (m_range : mg "range" = none) : Cal P w K mg base 1 "_can_have" ["count", "rank", "places"] (spF K (fun p : Nat × Nat × Nat => [.dt (.int p.1), .dt (.int p.2.1), .dt (.int p.2.2)]) (fun p => p.1 ≤ 24 ∧ p.2.1 ≤ 24 ∧ p.2.2 ≤ 9) fun p => .list (iL (canL p.1 p.2.1 p.2.2))) f fd := by
  refine D.cal (ok_G D.F sc__can_have (fun _ => rfl) (by decide) fun cdv A outer s H E hr => ⟨_, (pss_cons (ps_if (pt_cmpR (op_eqD hr.units) (pv 0) pe_int (nomark _)) (pss_one (ps_ret (pe_listRg rfl (by rfl) m_list (prg_1 (by rfl) m_range (pe_op op_add (pe_callB (cl_min2 rfl) (by rfl) m_min (by decide +kernel) (pa_cons (pv 1) (pa_cons (pv 2) pa_nil))) pe_int))))) pss_nil)
      (pss_cons (ps_if (pt_cmpR op_le (pe_op op_add (pv 0) (pv 2)) (pv 1) (nomark _)) (pss_one (ps_ret (pe_lst (pa_cons (pe_op op_add (pv 0) (pv 2)) pa_nil)))) pss_nil)
      (pss_one (ps_ret (pe_lst pa_nil))))), fun x hp => ?_⟩)
  obtain ⟨c, r, b⟩ := x
  obtain ⟨h1, h2, h3⟩ := hp
  dsimp only at h1 h2 h3 ⊢
  walk_at "s"
  walk_at "w"
  · have hc := of_decide_eq_true ‹decide ((c : Int) = 0) = true›
    refine ⟨min r b + 1, by rw [show min (r : Int) (b : Int) + 1 = ((min r b + 1 : Nat) : Int) by omega], by omega, ?_⟩
    walk_at "w"
    rw [canL, if_pos (by omega), iL, List.map_map]
    rfl
  · have hc := of_decide_eq_false ‹decide ((c : Int) = 0) = false›
    have hr := of_decide_eq_true ‹decide ((c : Int) + (b : Int) ≤ (r : Int)) = true›
    rw [canL, if_neg (by omega), if_pos (by omega)]
    rfl
  · have hc := of_decide_eq_false ‹decide ((c : Int) = 0) = false›
    have hr := of_decide_eq_false ‹decide ((c : Int) + (b : Int) ≤ (r : Int)) = false›
    rw [canL, if_neg (by omega), if_neg (by omega)]
    rfl
theorem ok__counts_ahead {f : Addr} {fd : FuncData} (D : Df K mg "_counts_ahead" s__counts_ahead ["row", "places"] f fd) {f__can_have : Addr} {d__can_have : FuncData} (C__can_have : Cal P w K mg base 1 "_can_have" ["count", "rank", "places"] (spF K (fun p : Nat × Nat × Nat => [.dt (.int p.1), .dt (.int p.2.1), .dt (.int p.2.2)]) (fun p => p.1 ≤ 24 ∧ p.2.1 ≤ 24 ∧ p.2.2 ≤ 9) fun p => .list (iL (canL p.1 p.2.1 p.2.2))) f__can_have d__can_have) {f_counts : Addr} {d_counts : FuncData} (C_counts : Cal P w K mg base 4 "counts" ["row"] (spF K (fun r : List (Option Int) => [.dt (.tuple (oL r))]) RowOk fun r => .list (iL (gr (nums r)))) f_counts d_counts) (m_dict : mg "dict" = none) (m_enumerate : mg "enumerate" = none) (m_sorted : mg "sorted" = none) (m_zip : mg "zip" = none) : Cal P w K mg base 5 "_counts_ahead" ["row", "places"] (spF K (fun p : List Int × Nat => [.dt (.tuple (iL p.1)), .dt (.int p.2)]) (fun p => p.1.length ≤ 24 ∧ p.1.Nodup ∧ p.2 ≤ 9) fun p => .list (((dsc p.1).zipIdx).map fun q => .list (iL (canL (gc p.1 q.1) q.2 p.2)))) f fd := by
  refine D.cal (ok_G D.F sc__counts_ahead (fun _ => rfl) (by decide) fun cdv A outer s H E hr => ⟨_, (pss_cons (ps_set (i := 2) sc__counts_ahead.nd rfl (Or.inr rfl) (pe_dictZip (by rfl) m_dict (by rfl) m_zip (pa_cons (pv 0) (pa_cons (pe_call C_counts.G (hr.mono (by decide)) (by rfl) C_counts.g C_counts.kp C_counts.b .nil pass0 (pa_cons (pv 0) pa_nil)) pa_nil))))
      (pss_one (ps_ret (pe_lc (own := [("rank", 3), ("number", 4)]) rfl sc__counts_ahead.nd (pi_enum (by rfl) m_enumerate (pa_cons (pe_callBK (cr_sortedRevT (b := true)) (by rfl) m_sorted (by decide +kernel) (pa_cons (pv 0) pa_nil) (pk_cons pe_bl pk_nil)) pa_nil)) (blkOk_by (own := [("rank", 3), ("number", 4)]) (N := ["row", "places", "now", "rank", "number"]) (sc := (defScope s__counts_ahead)) (by decide +kernel)) (fun _ _ _ _ _ => (pg_tupK (K := K) (n := 2) rfl rfl (pgs_cons (pg_name (i := 3) sc__counts_ahead.nd rfl (by first | exact Or.inl rfl | exact Or.inr rfl)) (pgs_cons (pg_name (i := 4) sc__counts_ahead.nd rfl (by first | exact Or.inl rfl | exact Or.inr rfl)) pgs_nil)))) (fun _ _ _ _ _ => pts_nil) (fun _ _ _ _ _ => (pe_call C__can_have.G (hr.mono (by decide)) (by rfl) C__can_have.g C__can_have.kp C__can_have.b .nil pass0 (pa_cons (pe_dget (hu1 hr.units) (pv 2) (pv 4) (fun _ _ => rfl)) (pa_cons (pv 3) (pa_cons (pv 1) pa_nil))))))))), fun x hp => ?_⟩)
  obtain ⟨N, b⟩ := x
  obtain ⟨h1, h2, h3⟩ := hp
  dsimp only at h1 h2 h3 ⊢
  walk_at "s"
  walk_at "w"
  refine ⟨N.map some, by rw [oL_some], ⟨by simp; omega, by rw [nums_some]; exact h2⟩, ?_⟩
  rw [nums_some]
  refine ⟨N, gr N, rfl, rd_dt, gr_len N, h2, by omega, ?_⟩
  walk_at "s"
  walk_at "w"
  walk_at "s"
  apply ve_lcT (vs := [3, 4]) (fun p : Int × Nat => PyData.tuple [.int p.2, .int p.1]) (dsc N).zipIdx (fun _ => true) (fun q => PyData.list (iL (canL (gc N q.1) q.2 b))) (by walk_at "n")
  walk_at "w"
  refine ve_sortedTB ?_
  walk_at "w"
  refine fun ns' p1 p2 => ?_
  rw [eq_dsc p1 p2]
  walk_at "w"
  have hdl := (dsc_perm N).length_eq
  refine ⟨enum_iL _, by simp, gl_lt (by rw [List.length_zipIdx]; omega), fun a ha => ⟨_, tg_pair (by decide) (by decide), fun acc srcs => ?_⟩, ?_⟩
  · obtain ⟨y, i⟩ := a
    have hm := List.mem_zipIdx_iff_getElem?.mp ha
    dsimp only at hm ⊢
    have hy : y ∈ N := (dsc_perm N).mem_iff.mp (List.mem_of_getElem? hm)
    have hi := (List.getElem?_eq_some_iff.mp hm).1
    have hg : gc N y ≤ N.length := gc_len
    walk_at "s"
    walk_at "w"
    refine ⟨rfl, fun _ => ?_, fun _ => rfl⟩
    walk_at "w"
    refine ⟨_, y, _, rfl, rfl, lk_gr h2 hy, ?_⟩
    walk_at "w"
    refine ⟨(gc N y, i, b), rfl, ⟨(by omega : gc N y ≤ 24), (by omega : i ≤ 24), h3⟩, ?_⟩
    walk_at "w"
    exact ⟨rfl, rfl⟩
  walk_at "w"
  rw [fil_true]
theorem ok_how_many {f : Addr} {fd : FuncData} (D : Df K mg "how_many" s_how_many ["row", "places"] f fd) {f__counts_ahead : Addr} {d__counts_ahead : FuncData} (C__counts_ahead : Cal P w K mg base 5 "_counts_ahead" ["row", "places"] (spF K (fun p : List Int × Nat => [.dt (.tuple (iL p.1)), .dt (.int p.2)]) (fun p => p.1.length ≤ 24 ∧ p.1.Nodup ∧ p.2 ≤ 9) fun p => .list (((dsc p.1).zipIdx).map fun q => .list (iL (canL (gc p.1 q.1) q.2 p.2)))) f__counts_ahead d__counts_ahead) {f_check_places : Addr} {d_check_places : FuncData} (C_check_places : CalD P w K mg base 3 "check_places" ["places", "least"] (spF K (fun p : Nat × Nat => [.dt (.int p.1), .dt (.int p.2)]) (fun p => p.2 ≤ p.1 ∧ p.1 ≤ 9) fun _ => .none) (0) f_check_places d_check_places) {f_check_unmarked : Addr} {d_check_unmarked : FuncData} (C_check_unmarked : Cal P w K mg base 4 "check_unmarked" ["row"] (spF K (fun r : List Int => [.dt (.tuple (iL r))]) (fun r => r.length ≤ 24 ∧ r.Nodup) fun _ => .none) f_check_unmarked d_check_unmarked) (m_len : mg "len" = none) : Cal P w K mg base 6 "how_many" ["row", "places"] (spF K (fun p : List Int × Nat => [.dt (.tuple (iL p.1)), .dt (.int p.2)]) (fun p => p.1.length ≤ 24 ∧ p.1.Nodup ∧ p.2 ≤ 9) fun p => .int (manyA p.1 p.2 : Nat)) f fd := by
  refine D.cal (ok_G D.F sc_how_many (fun _ => rfl) (by decide) fun cdv A outer s H E hr => ⟨_, (pss_cons (ps_expr (pe_call C_check_unmarked.G (hr.mono (by decide)) (by rfl) C_check_unmarked.g C_check_unmarked.kp C_check_unmarked.b .nil pass0 (pa_cons (pv 0) pa_nil)))
      (pss_cons (ps_expr (pe_call C_check_places.G (hr.mono (by decide)) (by rfl) C_check_places.g C_check_places.kp C_check_places.b1.choose_spec.2 C_check_places.b1.choose_spec.1 pass0 (pa_cons (pv 1) pa_nil)))
      (pss_cons (ps_set (i := 2) sc_how_many.nd rfl (Or.inl rfl) pe_int)
      (pss_cons (ps_for PassesOwn.never rfl (pi_list (pe_call C__counts_ahead.G (hr.mono (by decide)) (by rfl) C__counts_ahead.g C__counts_ahead.kp C__counts_ahead.b .nil pass0 (pa_cons (pv 0) (pa_cons (pv 1) pa_nil)))) (pg_name (i := 3) sc_how_many.nd rfl (by first | exact Or.inl rfl | exact Or.inr rfl)) (pss_one (ps_aug (i := 2) sc_how_many.nd rfl (Or.inl rfl) (pe_callB cl_len (by rfl) m_len PySem.boot_len (pa_cons (pv 3) pa_nil)) iop_mul)))
      (pss_one (ps_ret (pv 2))))))), fun x hp => ?_⟩)
  obtain ⟨N, b⟩ := x
  obtain ⟨h1, h2, h3⟩ := hp
  dsimp only at h1 h2 h3 ⊢
  walk_at "s"
  walk_at "w"
  refine ⟨N, rfl, ⟨h1, h2⟩, ?_⟩
  walk_at "w"
  refine ⟨(b, 0), rfl, ⟨Nat.zero_le _, h3⟩, ?_⟩
  walk_at "w"
  walk_at "s"
  refine ss_for (fun k Γ => ∃ c : Cell, Γ = [.dt (.tuple (iL N)), .dt (.int b), .dt (.int (((cansA N b).take k).foldl (fun m l => m * l.length) 1 : Nat)), c]) fun ss => ?_
  walk_at "w"
  refine ⟨(N, b), rfl, ⟨h1, h2, h3⟩, ?_⟩
  walk_at "w"
  refine ⟨fun i d Γ2 hd ⟨c, ec⟩ => ?_, fun Γ2 ⟨c, ec⟩ => ?_⟩
  · subst ec
    obtain ⟨q, hq, rfl⟩ : ∃ q, (cansA N b)[i]? = some q ∧ PyData.list (iL q) = d := by
      rw [List.getElem?_map] at hd
      obtain ⟨q, hq, rfl⟩ := Option.map_eq_some_iff.mp hd
      exact ⟨_, by unfold cansA; rw [List.getElem?_map, hq]; rfl, rfl⟩
    have hql : (iL q).length ≤ b + 1 := by
      rw [List.length_map]
      have := List.mem_of_getElem? hq
      unfold cansA at this
      obtain ⟨p, _, rfl⟩ := List.mem_map.mp this
      exact canL_len
    walk_at "w"
    walk_at "s"
    walk_at "w"
    refine ⟨_, _, rfl, rfl, .inr ⟨by omega, by omega⟩, ⟨.dt (.list (iL q)), ?_⟩⟩
    rw [take_snoc hq, List.foldl_append, List.length_map]
    show _ = [_, _, Cell.dt (PyData.int ((_ * q.length : Nat) : Int)), _]
    rw [Int.natCast_mul]
  · subst ec
    walk_at "w"
    rw [List.take_of_length_le (by unfold cansA; simp)]
    rfl
theorem ok_check_rowR {f : Addr} {fd : FuncData} (D : Df K mg "check_row" s_check_row ["row"] f fd) {f_is_rowO : Addr} {d_is_rowO : FuncData} (C_is_rowO : Cal P w K mg base 2 "is_row" ["thing"] (spF K (fun d : Dat => [.dt d]) (fun d => okD d = true) fun d => .bool (isRowD d)) f_is_rowO d_is_rowO) {C_NoRow : Addr} (x_NoRow : ExcF K mg "NoRow" C_NoRow) : CalR P w K mg base 3 "check_row" ["row"] (spR K (fun d : Dat => [.dt d]) (BadRow) fun _ => C_NoRow) f fd := by
  refine D.calR (ok_R D.F sc_check_row (fun _ => rfl) (by decide) fun cdv A outer s H E hr => ⟨_, (pss_one (ps_if (pt_not (pt_val (pe_call C_is_rowO.G (hr.mono (by decide)) (by rfl) C_is_rowO.g C_is_rowO.kp C_is_rowO.b .nil pass0 (pa_cons (pv 0) pa_nil)))) (pss_one (L2N.ps_raise rfl (L2N.takes_of rfl rfl rfl rfl) (Xa.pmk_n1 PySem.F.excBase_ValueError x_NoRow.x x_NoRow.g x_NoRow.k (raises_own x_NoRow.b x_NoRow.t) rfl pe_str))) pss_nil)), fun x S0 hp hE => ?_⟩)
  walk_at "s"
  try dsimp only [BxN, cxOf]
  refine sr_if fun ss => ?_
  walk_at "w"
  refine ⟨x, rfl, hp.1, ?_⟩
  rw [hp.2]
  walk_at "w"
  refine sr_raise (ta := tC _) hE fun ss σ τ S E Q h => h _
theorem ok_check_unmarkedR {f : Addr} {fd : FuncData} (D : Df K mg "check_unmarked" s_check_unmarked ["row"] f fd) {C_NoRow : Addr} {f_check_rowR : Addr} {d_check_rowR : FuncData} (C_check_rowR : CalR P w K mg base 3 "check_row" ["row"] (spR K (fun d : Dat => [.dt d]) (BadRow) fun _ => C_NoRow) f_check_rowR d_check_rowR) : CalR P w K mg base 4 "check_unmarked" ["row"] (spR K (fun d : Dat => [.dt d]) (BadRow) fun _ => C_NoRow) f fd := by
  refine D.calR (ok_R D.F sc_check_unmarked (fun _ => rfl) (by decide) fun cdv A outer s H E hr => ⟨_, (pss_cons (ps_expr (pe_callS C_check_rowR.G (hr.mono (by decide)) (by rfl) C_check_rowR.g C_check_rowR.kp C_check_rowR.b (fun σ => L2N.passAt (L2N.takes_of rfl rfl rfl rfl) σ) (pa_cons (pv 0) pa_nil)))
      (pss_one ps_never)), fun x S0 hp hE => ?_⟩)
  walk_at "s"
  refine sr_first (sr_drop fun ss => er_call ?_)
  walk_at "w"
  exact ⟨x, rfl, hp, hE⟩
theorem ok_countsR {f : Addr} {fd : FuncData} (D : Df K mg "counts" s_counts ["row"] f fd) {C_NoRow : Addr} {f_check_rowR : Addr} {d_check_rowR : FuncData} (C_check_rowR : CalR P w K mg base 3 "check_row" ["row"] (spR K (fun d : Dat => [.dt d]) (BadRow) fun _ => C_NoRow) f_check_rowR d_check_rowR) : CalR P w K mg base 4 "counts" ["row"] (spR K (fun d : Dat => [.dt d]) (BadRow) fun _ => C_NoRow) f fd := by
  refine D.calR (ok_R D.F sc_counts (fun _ => rfl) (by decide) fun cdv A outer s H E hr => ⟨_, (pss_cons (ps_expr (pe_callS C_check_rowR.G (hr.mono (by decide)) (by rfl) C_check_rowR.g C_check_rowR.kp C_check_rowR.b (fun σ => L2N.passAt (L2N.takes_of rfl rfl rfl rfl) σ) (pa_cons (pv 0) pa_nil)))
      (pss_one ps_never)), fun x S0 hp hE => ?_⟩)
  walk_at "s"
  refine sr_first (sr_drop fun ss => er_call ?_)
  walk_at "w"
  exact ⟨x, rfl, hp, hE⟩
theorem ok_stretchesR {f : Addr} {fd : FuncData} (D : Df K mg "stretches" s_stretches ["row"] f fd) {C_NoRow : Addr} {f_check_rowR : Addr} {d_check_rowR : FuncData} (C_check_rowR : CalR P w K mg base 3 "check_row" ["row"] (spR K (fun d : Dat => [.dt d]) (BadRow) fun _ => C_NoRow) f_check_rowR d_check_rowR) : CalR P w K mg base 4 "stretches" ["row"] (spR K (fun d : Dat => [.dt d]) (BadRow) fun _ => C_NoRow) f fd := by
  refine D.calR (ok_R D.F sc_stretches (fun _ => rfl) (by decide) fun cdv A outer s H E hr => ⟨_, (pss_cons (ps_expr (pe_callS C_check_rowR.G (hr.mono (by decide)) (by rfl) C_check_rowR.g C_check_rowR.kp C_check_rowR.b (fun σ => L2N.passAt (L2N.takes_of rfl rfl rfl rfl) σ) (pa_cons (pv 0) pa_nil)))
      (pss_cons ps_never
      (pss_cons ps_never
      (pss_one ps_never)))), fun x S0 hp hE => ?_⟩)
  walk_at "s"
  refine sr_first (sr_drop fun ss => er_call ?_)
  walk_at "w"
  exact ⟨x, rfl, hp, hE⟩
theorem ok_placesR {f : Addr} {fd : FuncData} (D : Df K mg "places" s_places ["row"] f fd) {C_NoRow : Addr} {f_check_rowR : Addr} {d_check_rowR : FuncData} (C_check_rowR : CalR P w K mg base 3 "check_row" ["row"] (spR K (fun d : Dat => [.dt d]) (BadRow) fun _ => C_NoRow) f_check_rowR d_check_rowR) : CalR P w K mg base 4 "places" ["row"] (spR K (fun d : Dat => [.dt d]) (BadRow) fun _ => C_NoRow) f fd := by
  refine D.calR (ok_R D.F sc_places (fun _ => rfl) (by decide) fun cdv A outer s H E hr => ⟨_, (pss_cons (ps_expr (pe_callS C_check_rowR.G (hr.mono (by decide)) (by rfl) C_check_rowR.g C_check_rowR.kp C_check_rowR.b (fun σ => L2N.passAt (L2N.takes_of rfl rfl rfl rfl) σ) (pa_cons (pv 0) pa_nil)))
      (pss_one ps_never)), fun x S0 hp hE => ?_⟩)
  walk_at "s"
  refine sr_first (sr_drop fun ss => er_call ?_)
  walk_at "w"
  exact ⟨x, rfl, hp, hE⟩
theorem ok_row_textR {f : Addr} {fd : FuncData} (D : Df K mg "row_text" s_row_text ["row"] f fd) {C_NoRow : Addr} {f_check_rowR : Addr} {d_check_rowR : FuncData} (C_check_rowR : CalR P w K mg base 3 "check_row" ["row"] (spR K (fun d : Dat => [.dt d]) (BadRow) fun _ => C_NoRow) f_check_rowR d_check_rowR) : CalR P w K mg base 4 "row_text" ["row"] (spR K (fun d : Dat => [.dt d]) (BadRow) fun _ => C_NoRow) f fd := by
  refine D.calR (ok_R D.F sc_row_text (fun _ => rfl) (by decide) fun cdv A outer s H E hr => ⟨_, (pss_cons (ps_expr (pe_callS C_check_rowR.G (hr.mono (by decide)) (by rfl) C_check_rowR.g C_check_rowR.kp C_check_rowR.b (fun σ => L2N.passAt (L2N.takes_of rfl rfl rfl rfl) σ) (pa_cons (pv 0) pa_nil)))
      (pss_one ps_never)), fun x S0 hp hE => ?_⟩)
  walk_at "s"
  refine sr_first (sr_drop fun ss => er_call ?_)
  walk_at "w"
  exact ⟨x, rfl, hp, hE⟩
theorem ok_mendedR {f : Addr} {fd : FuncData} (D : Df K mg "mended" s_mended ["row"] f fd) {C_NoRow : Addr} {f_check_unmarkedR : Addr} {d_check_unmarkedR : FuncData} (C_check_unmarkedR : CalR P w K mg base 4 "check_unmarked" ["row"] (spR K (fun d : Dat => [.dt d]) (BadRow) fun _ => C_NoRow) f_check_unmarkedR d_check_unmarkedR) : CalR P w K mg base 5 "mended" ["row"] (spR K (fun d : Dat => [.dt d]) (BadRow) fun _ => C_NoRow) f fd := by
  refine D.calR (ok_R D.F sc_mended (fun _ => rfl) (by decide) fun cdv A outer s H E hr => ⟨_, (pss_cons (ps_expr (pe_callS C_check_unmarkedR.G (hr.mono (by decide)) (by rfl) C_check_unmarkedR.g C_check_unmarkedR.kp C_check_unmarkedR.b (fun σ => L2N.passAt (L2N.takes_of rfl rfl rfl rfl) σ) (pa_cons (pv 0) pa_nil)))
      (pss_cons ps_never
      (pss_cons ps_never
      (pss_cons ps_never
      (pss_one ps_never))))), fun x S0 hp hE => ?_⟩)
  walk_at "s"
  refine sr_first (sr_drop fun ss => er_call ?_)
  walk_at "w"
  exact ⟨x, rfl, hp, hE⟩
theorem ok_pastR {f : Addr} {fd : FuncData} (D : Df K mg "past" s_past ["row", "shelf"] f fd) {C_NoRow : Addr} {f_check_rowR : Addr} {d_check_rowR : FuncData} (C_check_rowR : CalR P w K mg base 3 "check_row" ["row"] (spR K (fun d : Dat => [.dt d]) (BadRow) fun _ => C_NoRow) f_check_rowR d_check_rowR) : CalR P w K mg base 4 "past" ["row", "shelf"] (spR K (fun d : Dat => [.dt d, .dt .none]) (BadRow) fun _ => C_NoRow) f fd := by
  refine D.calR (ok_R D.F sc_past (fun _ => rfl) (by decide) fun cdv A outer s H E hr => ⟨_, (pss_cons (ps_expr (pe_callS C_check_rowR.G (hr.mono (by decide)) (by rfl) C_check_rowR.g C_check_rowR.kp C_check_rowR.b (fun σ => L2N.passAt (L2N.takes_of rfl rfl rfl rfl) σ) (pa_cons (pv 0) pa_nil)))
      (pss_cons ps_never
      (pss_cons ps_never
      (pss_cons ps_never
      (pss_cons ps_never
      (pss_one ps_never)))))), fun x S0 hp hE => ?_⟩)
  walk_at "s"
  refine sr_first (sr_drop fun ss => er_call ?_)
  walk_at "w"
  exact ⟨x, rfl, hp, hE⟩
theorem ok_movedR {f : Addr} {fd : FuncData} (D : Df K mg "moved" s_moved ["row", "shelf"] f fd) {C_NoRow : Addr} {f_pastR : Addr} {d_pastR : FuncData} (C_pastR : CalR P w K mg base 4 "past" ["row", "shelf"] (spR K (fun d : Dat => [.dt d, .dt .none]) (BadRow) fun _ => C_NoRow) f_pastR d_pastR) : CalR P w K mg base 5 "moved" ["row", "shelf"] (spR K (fun d : Dat => [.dt d, .dt .none]) (BadRow) fun _ => C_NoRow) f fd := by
  refine D.calR (ok_R D.F sc_moved (fun _ => rfl) (by decide) fun cdv A outer s H E hr => ⟨_, (pss_cons (ps_set (i := 2) sc_moved.nd rfl (Or.inr rfl) (pe_callS C_pastR.G (hr.mono (by decide)) (by rfl) C_pastR.g C_pastR.kp C_pastR.b (fun σ => L2N.passAt (L2N.takes_of rfl rfl rfl rfl) σ) (pa_cons (pv 0) (pa_cons (pv 1) pa_nil))))
      (pss_one ps_never)), fun x S0 hp hE => ?_⟩)
  walk_at "s"
  refine sr_first (sr_asg fun ss => er_call ?_)
  walk_at "w"
  exact ⟨x, rfl, hp, hE⟩
theorem ok_throughR {f : Addr} {fd : FuncData} (D : Df K mg "through" s_through ["row", "line"] f fd) {C_NoRow : Addr} {f_check_rowR : Addr} {d_check_rowR : FuncData} (C_check_rowR : CalR P w K mg base 3 "check_row" ["row"] (spR K (fun d : Dat => [.dt d]) (BadRow) fun _ => C_NoRow) f_check_rowR d_check_rowR) : CalR P w K mg base 4 "through" ["row", "line"] (spR K (fun d : Dat => [.dt d, .dt .none]) (BadRow) fun _ => C_NoRow) f fd := by
  refine D.calR (ok_R D.F sc_through (fun _ => rfl) (by decide) fun cdv A outer s H E hr => ⟨_, (pss_cons (ps_expr (pe_callS C_check_rowR.G (hr.mono (by decide)) (by rfl) C_check_rowR.g C_check_rowR.kp C_check_rowR.b (fun σ => L2N.passAt (L2N.takes_of rfl rfl rfl rfl) σ) (pa_cons (pv 0) pa_nil)))
      (pss_cons ps_never
      (pss_cons ps_never
      (pss_cons ps_never
      (pss_one ps_never))))), fun x S0 hp hE => ?_⟩)
  walk_at "s"
  refine sr_first (sr_drop fun ss => er_call ?_)
  walk_at "w"
  exact ⟨x, rfl, hp, hE⟩
theorem ok_shelvesR {f : Addr} {fd : FuncData} (D : Df K mg "shelves" s_shelves ["row", "places"] f fd) {C_NoRow : Addr} {f_check_rowR : Addr} {d_check_rowR : FuncData} (C_check_rowR : CalR P w K mg base 3 "check_row" ["row"] (spR K (fun d : Dat => [.dt d]) (BadRow) fun _ => C_NoRow) f_check_rowR d_check_rowR) : CalR P w K mg base 4 "shelves" ["row", "places"] (spR K (fun d : Dat => [.dt d, .dt .none]) (BadRow) fun _ => C_NoRow) f fd := by
  refine D.calR (ok_R D.F sc_shelves (fun _ => rfl) (by decide) fun cdv A outer s H E hr => ⟨_, (pss_cons (ps_expr (pe_callS C_check_rowR.G (hr.mono (by decide)) (by rfl) C_check_rowR.g C_check_rowR.kp C_check_rowR.b (fun σ => L2N.passAt (L2N.takes_of rfl rfl rfl rfl) σ) (pa_cons (pv 0) pa_nil)))
      (pss_cons ps_never
      (pss_cons ps_never
      (pss_cons ps_never
      (pss_one ps_never))))), fun x S0 hp hE => ?_⟩)
  walk_at "s"
  refine sr_first (sr_drop fun ss => er_call ?_)
  walk_at "w"
  exact ⟨x, rfl, hp, hE⟩
theorem ok_row_ofR {f : Addr} {fd : FuncData} (D : Df K mg "row_of" s_row_of ["numbers", "counts"] f fd) {C_NoRow : Addr} {f_check_unmarkedR : Addr} {d_check_unmarkedR : FuncData} (C_check_unmarkedR : CalR P w K mg base 4 "check_unmarked" ["row"] (spR K (fun d : Dat => [.dt d]) (BadRow) fun _ => C_NoRow) f_check_unmarkedR d_check_unmarkedR) : CalR P w K mg base 5 "row_of" ["numbers", "counts"] (spR K (fun d : Dat => [.dt d, .dt .none]) (BadRow) fun _ => C_NoRow) f fd := by
  refine D.calR (ok_R D.F sc_row_of (fun _ => rfl) (by decide) fun cdv A outer s H E hr => ⟨_, (pss_cons (ps_expr (pe_callS C_check_unmarkedR.G (hr.mono (by decide)) (by rfl) C_check_unmarkedR.g C_check_unmarkedR.kp C_check_unmarkedR.b (fun σ => L2N.passAt (L2N.takes_of rfl rfl rfl rfl) σ) (pa_cons (pv 0) pa_nil)))
      (pss_cons ps_never
      (pss_cons ps_never
      (pss_cons ps_never
      (pss_one ps_never))))), fun x S0 hp hE => ?_⟩)
  walk_at "s"
  refine sr_first (sr_drop fun ss => er_call ?_)
  walk_at "w"
  exact ⟨x, rfl, hp, hE⟩
theorem ok_own_wayR {f : Addr} {fd : FuncData} (D : Df K mg "own_way" s_own_way ["row", "places"] f fd) {C_NoRow : Addr} {f_check_unmarkedR : Addr} {d_check_unmarkedR : FuncData} (C_check_unmarkedR : CalR P w K mg base 4 "check_unmarked" ["row"] (spR K (fun d : Dat => [.dt d]) (BadRow) fun _ => C_NoRow) f_check_unmarkedR d_check_unmarkedR) : CalR P w K mg base 5 "own_way" ["row", "places"] (spR K (fun d : Dat => [.dt d, .dt .none]) (BadRow) fun _ => C_NoRow) f fd := by
  refine D.calR (ok_R D.F sc_own_way (fun _ => rfl) (by decide) fun cdv A outer s H E hr => ⟨_, (pss_cons (ps_expr (pe_callS C_check_unmarkedR.G (hr.mono (by decide)) (by rfl) C_check_unmarkedR.g C_check_unmarkedR.kp C_check_unmarkedR.b (fun σ => L2N.passAt (L2N.takes_of rfl rfl rfl rfl) σ) (pa_cons (pv 0) pa_nil)))
      (pss_cons ps_never
      (pss_cons ps_never
      (pss_cons ps_never
      (pss_cons ps_never
      (pss_one ps_never)))))), fun x S0 hp hE => ?_⟩)
  walk_at "s"
  refine sr_first (sr_drop fun ss => er_call ?_)
  walk_at "w"
  exact ⟨x, rfl, hp, hE⟩
theorem ok_how_manyR {f : Addr} {fd : FuncData} (D : Df K mg "how_many" s_how_many ["row", "places"] f fd) {C_NoRow : Addr} {f_check_unmarkedR : Addr} {d_check_unmarkedR : FuncData} (C_check_unmarkedR : CalR P w K mg base 4 "check_unmarked" ["row"] (spR K (fun d : Dat => [.dt d]) (BadRow) fun _ => C_NoRow) f_check_unmarkedR d_check_unmarkedR) : CalR P w K mg base 5 "how_many" ["row", "places"] (spR K (fun d : Dat => [.dt d, .dt .none]) (BadRow) fun _ => C_NoRow) f fd := by
  refine D.calR (ok_R D.F sc_how_many (fun _ => rfl) (by decide) fun cdv A outer s H E hr => ⟨_, (pss_cons (ps_expr (pe_callS C_check_unmarkedR.G (hr.mono (by decide)) (by rfl) C_check_unmarkedR.g C_check_unmarkedR.kp C_check_unmarkedR.b (fun σ => L2N.passAt (L2N.takes_of rfl rfl rfl rfl) σ) (pa_cons (pv 0) pa_nil)))
      (pss_cons ps_never
      (pss_cons ps_never
      (pss_cons ps_never
      (pss_one ps_never))))), fun x S0 hp hE => ?_⟩)
  walk_at "s"
  refine sr_first (sr_drop fun ss => er_call ?_)
  walk_at "w"
  exact ⟨x, rfl, hp, hE⟩
theorem ok_aheadR {f : Addr} {fd : FuncData} (D : Df K mg "ahead" s_ahead ["row", "places"] f fd) {C_NoRow : Addr} {f_how_manyR : Addr} {d_how_manyR : FuncData} (C_how_manyR : CalR P w K mg base 5 "how_many" ["row", "places"] (spR K (fun d : Dat => [.dt d, .dt .none]) (BadRow) fun _ => C_NoRow) f_how_manyR d_how_manyR) : CalR P w K mg base 6 "ahead" ["row", "places"] (spR K (fun d : Dat => [.dt d, .dt .none]) (BadRow) fun _ => C_NoRow) f fd := by
  refine D.calR (ok_R D.F sc_ahead (fun _ => rfl) (by decide) fun cdv A outer s H E hr => ⟨_, (pss_cons (ps_set (i := 2) sc_ahead.nd rfl (Or.inl rfl) (pe_callS C_how_manyR.G (hr.mono (by decide)) (by rfl) C_how_manyR.g C_how_manyR.kp C_how_manyR.b (fun σ => L2N.passAt (L2N.takes_of rfl rfl rfl rfl) σ) (pa_cons (pv 0) (pa_cons (pv 1) pa_nil))))
      (pss_cons ps_never
      (pss_cons ps_never
      (pss_cons ps_never
      (pss_cons ps_never
      (pss_one ps_never)))))), fun x S0 hp hE => ?_⟩)
  walk_at "s"
  refine sr_first (sr_asg fun ss => er_call ?_)
  walk_at "w"
  exact ⟨x, rfl, hp, hE⟩
theorem ok_can_comeR {f : Addr} {fd : FuncData} (D : Df K mg "can_come" s_can_come ["row", "places"] f fd) {C_NoRow : Addr} {f_how_manyR : Addr} {d_how_manyR : FuncData} (C_how_manyR : CalR P w K mg base 5 "how_many" ["row", "places"] (spR K (fun d : Dat => [.dt d, .dt .none]) (BadRow) fun _ => C_NoRow) f_how_manyR d_how_manyR) : CalR P w K mg base 6 "can_come" ["row", "places"] (spR K (fun d : Dat => [.dt d, .dt .none]) (BadRow) fun _ => C_NoRow) f fd := by
  refine D.calR (ok_R D.F sc_can_come (fun _ => rfl) (by decide) fun cdv A outer s H E hr => ⟨_, (pss_one (ps_ret (pe_cmpR op_gt (pe_callS C_how_manyR.G (hr.mono (by decide)) (by rfl) C_how_manyR.g C_how_manyR.kp C_how_manyR.b (fun σ => L2N.passAt (L2N.takes_of rfl rfl rfl rfl) σ) (pa_cons (pv 0) (pa_cons (pv 1) pa_nil))) pe_int (nomark _)))), fun x S0 hp hE => ?_⟩)
  walk_at "s"
  refine sr_ret fun ss => er_op (er_call ?_)
  walk_at "w"
  exact ⟨x, rfl, hp, hE⟩
theorem ok_comes_outR {f : Addr} {fd : FuncData} (D : Df K mg "comes_out" s_comes_out ["row", "places", "letting"] f fd) {C_NoRow : Addr} {f_check_unmarkedR : Addr} {d_check_unmarkedR : FuncData} (C_check_unmarkedR : CalR P w K mg base 4 "check_unmarked" ["row"] (spR K (fun d : Dat => [.dt d]) (BadRow) fun _ => C_NoRow) f_check_unmarkedR d_check_unmarkedR) : CalR P w K mg base 5 "comes_out" ["row", "places", "letting"] (spR K (fun d : Dat => [.dt d, .dt .none, .dt .none]) (BadRow) fun _ => C_NoRow) f fd := by
  refine D.calR (ok_R D.F sc_comes_out (fun _ => rfl) (by decide) fun cdv A outer s H E hr => ⟨_, (pss_cons (ps_expr (pe_callS C_check_unmarkedR.G (hr.mono (by decide)) (by rfl) C_check_unmarkedR.g C_check_unmarkedR.kp C_check_unmarkedR.b (fun σ => L2N.passAt (L2N.takes_of rfl rfl rfl rfl) σ) (pa_cons (pv 0) pa_nil)))
      (pss_cons ps_never
      (pss_cons ps_never
      (pss_one ps_never)))), fun x S0 hp hE => ?_⟩)
  walk_at "s"
  refine sr_first (sr_drop fun ss => er_call ?_)
  walk_at "w"
  exact ⟨x, rfl, hp, hE⟩
theorem ok_gainedR {f : Addr} {fd : FuncData} (D : Df K mg "gained" s_gained ["row", "places", "letting"] f fd) {C_NoRow : Addr} {f_comes_outR : Addr} {d_comes_outR : FuncData} (C_comes_outR : CalR P w K mg base 5 "comes_out" ["row", "places", "letting"] (spR K (fun d : Dat => [.dt d, .dt .none, .dt .none]) (BadRow) fun _ => C_NoRow) f_comes_outR d_comes_outR) : CalR P w K mg base 6 "gained" ["row", "places", "letting"] (spR K (fun d : Dat => [.dt d, .dt .none, .dt .none]) (BadRow) fun _ => C_NoRow) f fd := by
  refine D.calR (ok_R D.F sc_gained (fun _ => rfl) (by decide) fun cdv A outer s H E hr => ⟨_, (pss_cons (ps_set (i := 3) sc_gained.nd rfl (Or.inl rfl) (pe_callS C_comes_outR.G (hr.mono (by decide)) (by rfl) C_comes_outR.g C_comes_outR.kp C_comes_outR.b (fun σ => L2N.passAt (L2N.takes_of rfl rfl rfl rfl) σ) (pa_cons (pv 0) (pa_cons (pv 1) (pa_cons (pv 2) pa_nil)))))
      (pss_cons ps_never
      (pss_one ps_never))), fun x S0 hp hE => ?_⟩)
  walk_at "s"
  refine sr_first (sr_asg fun ss => er_call ?_)
  walk_at "w"
  exact ⟨x, rfl, hp, hE⟩
theorem ok_moveR {f : Addr} {fd : FuncData} (D : Df K mg "move" s_move ["row", "one", "other"] f fd) {C_NoRow : Addr} {f_check_unmarkedR : Addr} {d_check_unmarkedR : FuncData} (C_check_unmarkedR : CalR P w K mg base 4 "check_unmarked" ["row"] (spR K (fun d : Dat => [.dt d]) (BadRow) fun _ => C_NoRow) f_check_unmarkedR d_check_unmarkedR) : CalR P w K mg base 5 "move" ["row", "one", "other"] (spR K (fun d : Dat => [.dt d, .dt .none, .dt .none]) (BadRow) fun _ => C_NoRow) f fd := by
  refine D.calR (ok_R D.F sc_move (fun _ => rfl) (by decide) fun cdv A outer s H E hr => ⟨_, (pss_cons (ps_expr (pe_callS C_check_unmarkedR.G (hr.mono (by decide)) (by rfl) C_check_unmarkedR.g C_check_unmarkedR.kp C_check_unmarkedR.b (fun σ => L2N.passAt (L2N.takes_of rfl rfl rfl rfl) σ) (pa_cons (pv 0) pa_nil)))
      (pss_cons ps_never
      (pss_cons ps_never
      (pss_one ps_never)))), fun x S0 hp hE => ?_⟩)
  walk_at "s"
  refine sr_first (sr_drop fun ss => er_call ?_)
  walk_at "w"
  exact ⟨x, rfl, hp, hE⟩
theorem ok_past_withR {f : Addr} {fd : FuncData} (D : Df K mg "past_with" s_past_with ["row", "word", "places"] f fd) {C_NoRow : Addr} {f_check_unmarkedR : Addr} {d_check_unmarkedR : FuncData} (C_check_unmarkedR : CalR P w K mg base 4 "check_unmarked" ["row"] (spR K (fun d : Dat => [.dt d]) (BadRow) fun _ => C_NoRow) f_check_unmarkedR d_check_unmarkedR) : CalR P w K mg base 5 "past_with" ["row", "word", "places"] (spR K (fun d : Dat => [.dt d, .dt .none, .dt .none]) (BadRow) fun _ => C_NoRow) f fd := by
  refine D.calR (ok_R D.F sc_past_with (fun _ => rfl) (by decide) fun cdv A outer s H E hr => ⟨_, (pss_cons (ps_expr (pe_callS C_check_unmarkedR.G (hr.mono (by decide)) (by rfl) C_check_unmarkedR.g C_check_unmarkedR.kp C_check_unmarkedR.b (fun σ => L2N.passAt (L2N.takes_of rfl rfl rfl rfl) σ) (pa_cons (pv 0) pa_nil)))
      (pss_cons ps_never
      (pss_cons ps_never
      (pss_one ps_never)))), fun x S0 hp hE => ?_⟩)
  walk_at "s"
  refine sr_first (sr_drop fun ss => er_call ?_)
  walk_at "w"
  exact ⟨x, rfl, hp, hE⟩
theorem ok_neededR {f : Addr} {fd : FuncData} (D : Df K mg "needed" s_needed ["row"] f fd) {C_NoRow : Addr} {f_check_unmarkedR : Addr} {d_check_unmarkedR : FuncData} (C_check_unmarkedR : CalR P w K mg base 4 "check_unmarked" ["row"] (spR K (fun d : Dat => [.dt d]) (BadRow) fun _ => C_NoRow) f_check_unmarkedR d_check_unmarkedR) : CalR P w K mg base 5 "needed" ["row"] (spR K (fun d : Dat => [.dt d]) (BadRow) fun _ => C_NoRow) f fd := by
  refine D.calR (ok_R D.F sc_needed (fun _ => rfl) (by decide) fun cdv A outer s H E hr => ⟨_, (pss_cons (ps_expr (pe_callS C_check_unmarkedR.G (hr.mono (by decide)) (by rfl) C_check_unmarkedR.g C_check_unmarkedR.kp C_check_unmarkedR.b (fun σ => L2N.passAt (L2N.takes_of rfl rfl rfl rfl) σ) (pa_cons (pv 0) pa_nil)))
      (pss_one ps_never)), fun x S0 hp hE => ?_⟩)
  walk_at "s"
  refine sr_first (sr_drop fun ss => er_call ?_)
  walk_at "w"
  exact ⟨x, rfl, hp, hE⟩
theorem ok_near_countsR {f : Addr} {fd : FuncData} (D : Df K mg "near_counts" s_near_counts ["row"] f fd) {C_NoRow : Addr} {f_greater_aheadT : Addr} {d_greater_aheadT : FuncData} (C_greater_aheadT : Cal P w K mg base 1 "_greater_ahead" ["numbers"] (spF K (fun r : List Int => [.dt (.tuple (iL r))]) (fun r => r.length ≤ 100) fun r => .list (iL (gr r))) f_greater_aheadT d_greater_aheadT) {f_stretchesR : Addr} {d_stretchesR : FuncData} (C_stretchesR : CalR P w K mg base 4 "stretches" ["row"] (spR K (fun d : Dat => [.dt d]) (BadRow) fun _ => C_NoRow) f_stretchesR d_stretchesR) : CalR P w K mg base 5 "near_counts" ["row"] (spR K (fun d : Dat => [.dt d]) (BadRow) fun _ => C_NoRow) f fd := by
  refine D.calR (ok_R D.F sc_near_counts (fun _ => rfl) (by decide) fun cdv A outer s H E hr => ⟨_, (pss_one (ps_ret (pe_lc2 (own := [("stretch", 1), ("count", 2)]) (vs1 := [2]) rfl sc_near_counts.nd (pi_list (pe_callS C_stretchesR.G (hr.mono (by decide)) (by rfl) C_stretchesR.g C_stretchesR.kp C_stretchesR.b (fun σ => L2N.passAt (L2N.takes_of rfl rfl rfl rfl) σ) (pa_cons (pv 0) pa_nil))) (blkOk_by (own := [("stretch", 1), ("count", 2)]) (N := ["row", "stretch", "count"]) (sc := (defScope s_near_counts)) (by decide +kernel)) (by decide) (fun _ _ _ _ _ => (pg_name (i := 1) sc_near_counts.nd rfl (by first | exact Or.inl rfl | exact Or.inr rfl))) (fun _ _ _ _ _ => pts_nil) (fun _ _ _ _ _ => (pi_listK (K := K) rfl (pe_call C_greater_aheadT.G (hr.mono (by decide)) (by rfl) C_greater_aheadT.g C_greater_aheadT.kp C_greater_aheadT.b .nil pass0 (pa_cons (pv 1) pa_nil)))) (fun _ _ _ _ _ => (pg_name (i := 2) sc_near_counts.nd rfl (by first | exact Or.inl rfl | exact Or.inr rfl))) (fun _ _ _ _ _ => pts_nil) (fun _ _ _ _ _ => (pv 2))))), fun x S0 hp hE => ?_⟩)
  walk_at "s"
  refine sr_ret fun ss => er_lc2 (ir_list (er_call ?_))
  walk_at "w"
  exact ⟨x, rfl, hp, hE⟩
theorem ok_check_unmarkedM {f : Addr} {fd : FuncData} (D : Df K mg "check_unmarked" s_check_unmarked ["row"] f fd) {f_check_row : Addr} {d_check_row : FuncData} (C_check_row : Cal P w K mg base 3 "check_row" ["row"] (spF K (fun r : List (Option Int) => [.dt (.tuple (oL r))]) RowOk fun _ => .none) f_check_row d_check_row) {C_Marked : Addr} (x_Marked : ExcF K mg "Marked" C_Marked) : CalR P w K mg base 4 "check_unmarked" ["row"] (spR K (fun _ : Unit => [.dt rowM]) (fun _ => True) fun _ => C_Marked) f fd := by
  refine D.calR (ok_R D.F sc_check_unmarked (fun _ => rfl) (by decide) fun cdv A outer s H E hr => ⟨_, (pss_cons (ps_expr (pe_call C_check_row.G (hr.mono (by decide)) (by rfl) C_check_row.g C_check_row.kp C_check_row.b .nil pass0 (pa_cons (pv 0) pa_nil)))
      (pss_one (ps_if (pt_cmpR op_in_seq pe_non (pv 0) (by rfl)) (pss_one (L2N.ps_raise rfl (L2N.takes_of rfl rfl rfl rfl) (Xa.pmk_n1 PySem.F.excBase_ValueError x_Marked.x x_Marked.g x_Marked.k (raises_own x_Marked.b x_Marked.t) rfl pe_str))) pss_nil))), fun x S0 hp hE => ?_⟩)
  walk_at "s"
  try dsimp only [BxN, cxOf]
  refine sr_seq ?_
  walk_at "w"
  refine ⟨[some 1, none], rfl, ⟨by decide, by decide⟩, ?_⟩
  walk_at "w"
  refine sr_if fun ss => ?_
  walk_at "w"
  refine r2_in rd_dt sq_t rfl (by decide) ?_
  rw [show ([PyData.int 1, .none].any fun d => eqF d .none) = true from rfl]
  walk_at "w"
  refine sr_raise (ta := tC _) hE fun ss σ τ S E Q h => h _
theorem ok_mendedM {f : Addr} {fd : FuncData} (D : Df K mg "mended" s_mended ["row"] f fd) {C_Marked : Addr} {f_check_unmarkedM : Addr} {d_check_unmarkedM : FuncData} (C_check_unmarkedM : CalR P w K mg base 4 "check_unmarked" ["row"] (spR K (fun _ : Unit => [.dt rowM]) (fun _ => True) fun _ => C_Marked) f_check_unmarkedM d_check_unmarkedM) : CalR P w K mg base 5 "mended" ["row"] (spR K (fun _ : Unit => [.dt rowM]) (fun _ => True) fun _ => C_Marked) f fd := by
  refine D.calR (ok_R D.F sc_mended (fun _ => rfl) (by decide) fun cdv A outer s H E hr => ⟨_, (pss_cons (ps_expr (pe_callS C_check_unmarkedM.G (hr.mono (by decide)) (by rfl) C_check_unmarkedM.g C_check_unmarkedM.kp C_check_unmarkedM.b (fun σ => L2N.passAt (L2N.takes_of rfl rfl rfl rfl) σ) (pa_cons (pv 0) pa_nil)))
      (pss_cons ps_never
      (pss_cons ps_never
      (pss_cons ps_never
      (pss_one ps_never))))), fun x S0 hp hE => ?_⟩)
  walk_at "s"
  refine sr_first (sr_drop fun ss => er_call ?_)
  walk_at "w"
  exact ⟨x, rfl, hp, hE⟩
theorem ok_row_ofM {f : Addr} {fd : FuncData} (D : Df K mg "row_of" s_row_of ["numbers", "counts"] f fd) {C_Marked : Addr} {f_check_unmarkedM : Addr} {d_check_unmarkedM : FuncData} (C_check_unmarkedM : CalR P w K mg base 4 "check_unmarked" ["row"] (spR K (fun _ : Unit => [.dt rowM]) (fun _ => True) fun _ => C_Marked) f_check_unmarkedM d_check_unmarkedM) : CalR P w K mg base 5 "row_of" ["numbers", "counts"] (spR K (fun _ : Unit => [.dt rowM, .dt .none]) (fun _ => True) fun _ => C_Marked) f fd := by
  refine D.calR (ok_R D.F sc_row_of (fun _ => rfl) (by decide) fun cdv A outer s H E hr => ⟨_, (pss_cons (ps_expr (pe_callS C_check_unmarkedM.G (hr.mono (by decide)) (by rfl) C_check_unmarkedM.g C_check_unmarkedM.kp C_check_unmarkedM.b (fun σ => L2N.passAt (L2N.takes_of rfl rfl rfl rfl) σ) (pa_cons (pv 0) pa_nil)))
      (pss_cons ps_never
      (pss_cons ps_never
      (pss_cons ps_never
      (pss_one ps_never))))), fun x S0 hp hE => ?_⟩)
  walk_at "s"
  refine sr_first (sr_drop fun ss => er_call ?_)
  walk_at "w"
  exact ⟨x, rfl, hp, hE⟩
theorem ok_own_wayM {f : Addr} {fd : FuncData} (D : Df K mg "own_way" s_own_way ["row", "places"] f fd) {C_Marked : Addr} {f_check_unmarkedM : Addr} {d_check_unmarkedM : FuncData} (C_check_unmarkedM : CalR P w K mg base 4 "check_unmarked" ["row"] (spR K (fun _ : Unit => [.dt rowM]) (fun _ => True) fun _ => C_Marked) f_check_unmarkedM d_check_unmarkedM) : CalR P w K mg base 5 "own_way" ["row", "places"] (spR K (fun _ : Unit => [.dt rowM, .dt .none]) (fun _ => True) fun _ => C_Marked) f fd := by
  refine D.calR (ok_R D.F sc_own_way (fun _ => rfl) (by decide) fun cdv A outer s H E hr => ⟨_, (pss_cons (ps_expr (pe_callS C_check_unmarkedM.G (hr.mono (by decide)) (by rfl) C_check_unmarkedM.g C_check_unmarkedM.kp C_check_unmarkedM.b (fun σ => L2N.passAt (L2N.takes_of rfl rfl rfl rfl) σ) (pa_cons (pv 0) pa_nil)))
      (pss_cons ps_never
      (pss_cons ps_never
      (pss_cons ps_never
      (pss_cons ps_never
      (pss_one ps_never)))))), fun x S0 hp hE => ?_⟩)
  walk_at "s"
  refine sr_first (sr_drop fun ss => er_call ?_)
  walk_at "w"
  exact ⟨x, rfl, hp, hE⟩
theorem ok_how_manyM {f : Addr} {fd : FuncData} (D : Df K mg "how_many" s_how_many ["row", "places"] f fd) {C_Marked : Addr} {f_check_unmarkedM : Addr} {d_check_unmarkedM : FuncData} (C_check_unmarkedM : CalR P w K mg base 4 "check_unmarked" ["row"] (spR K (fun _ : Unit => [.dt rowM]) (fun _ => True) fun _ => C_Marked) f_check_unmarkedM d_check_unmarkedM) : CalR P w K mg base 5 "how_many" ["row", "places"] (spR K (fun _ : Unit => [.dt rowM, .dt .none]) (fun _ => True) fun _ => C_Marked) f fd := by
  refine D.calR (ok_R D.F sc_how_many (fun _ => rfl) (by decide) fun cdv A outer s H E hr => ⟨_, (pss_cons (ps_expr (pe_callS C_check_unmarkedM.G (hr.mono (by decide)) (by rfl) C_check_unmarkedM.g C_check_unmarkedM.kp C_check_unmarkedM.b (fun σ => L2N.passAt (L2N.takes_of rfl rfl rfl rfl) σ) (pa_cons (pv 0) pa_nil)))
      (pss_cons ps_never
      (pss_cons ps_never
      (pss_cons ps_never
      (pss_one ps_never))))), fun x S0 hp hE => ?_⟩)
  walk_at "s"
  refine sr_first (sr_drop fun ss => er_call ?_)
  walk_at "w"
  exact ⟨x, rfl, hp, hE⟩
theorem ok_aheadM {f : Addr} {fd : FuncData} (D : Df K mg "ahead" s_ahead ["row", "places"] f fd) {C_Marked : Addr} {f_how_manyM : Addr} {d_how_manyM : FuncData} (C_how_manyM : CalR P w K mg base 5 "how_many" ["row", "places"] (spR K (fun _ : Unit => [.dt rowM, .dt .none]) (fun _ => True) fun _ => C_Marked) f_how_manyM d_how_manyM) : CalR P w K mg base 6 "ahead" ["row", "places"] (spR K (fun _ : Unit => [.dt rowM, .dt .none]) (fun _ => True) fun _ => C_Marked) f fd := by
  refine D.calR (ok_R D.F sc_ahead (fun _ => rfl) (by decide) fun cdv A outer s H E hr => ⟨_, (pss_cons (ps_set (i := 2) sc_ahead.nd rfl (Or.inl rfl) (pe_callS C_how_manyM.G (hr.mono (by decide)) (by rfl) C_how_manyM.g C_how_manyM.kp C_how_manyM.b (fun σ => L2N.passAt (L2N.takes_of rfl rfl rfl rfl) σ) (pa_cons (pv 0) (pa_cons (pv 1) pa_nil))))
      (pss_cons ps_never
      (pss_cons ps_never
      (pss_cons ps_never
      (pss_cons ps_never
      (pss_one ps_never)))))), fun x S0 hp hE => ?_⟩)
  walk_at "s"
  refine sr_first (sr_asg fun ss => er_call ?_)
  walk_at "w"
  exact ⟨x, rfl, hp, hE⟩
theorem ok_can_comeM {f : Addr} {fd : FuncData} (D : Df K mg "can_come" s_can_come ["row", "places"] f fd) {C_Marked : Addr} {f_how_manyM : Addr} {d_how_manyM : FuncData} (C_how_manyM : CalR P w K mg base 5 "how_many" ["row", "places"] (spR K (fun _ : Unit => [.dt rowM, .dt .none]) (fun _ => True) fun _ => C_Marked) f_how_manyM d_how_manyM) : CalR P w K mg base 6 "can_come" ["row", "places"] (spR K (fun _ : Unit => [.dt rowM, .dt .none]) (fun _ => True) fun _ => C_Marked) f fd := by
  refine D.calR (ok_R D.F sc_can_come (fun _ => rfl) (by decide) fun cdv A outer s H E hr => ⟨_, (pss_one (ps_ret (pe_cmpR op_gt (pe_callS C_how_manyM.G (hr.mono (by decide)) (by rfl) C_how_manyM.g C_how_manyM.kp C_how_manyM.b (fun σ => L2N.passAt (L2N.takes_of rfl rfl rfl rfl) σ) (pa_cons (pv 0) (pa_cons (pv 1) pa_nil))) pe_int (nomark _)))), fun x S0 hp hE => ?_⟩)
  walk_at "s"
  refine sr_ret fun ss => er_op (er_call ?_)
  walk_at "w"
  exact ⟨x, rfl, hp, hE⟩
theorem ok_comes_outM {f : Addr} {fd : FuncData} (D : Df K mg "comes_out" s_comes_out ["row", "places", "letting"] f fd) {C_Marked : Addr} {f_check_unmarkedM : Addr} {d_check_unmarkedM : FuncData} (C_check_unmarkedM : CalR P w K mg base 4 "check_unmarked" ["row"] (spR K (fun _ : Unit => [.dt rowM]) (fun _ => True) fun _ => C_Marked) f_check_unmarkedM d_check_unmarkedM) : CalR P w K mg base 5 "comes_out" ["row", "places", "letting"] (spR K (fun _ : Unit => [.dt rowM, .dt .none, .dt .none]) (fun _ => True) fun _ => C_Marked) f fd := by
  refine D.calR (ok_R D.F sc_comes_out (fun _ => rfl) (by decide) fun cdv A outer s H E hr => ⟨_, (pss_cons (ps_expr (pe_callS C_check_unmarkedM.G (hr.mono (by decide)) (by rfl) C_check_unmarkedM.g C_check_unmarkedM.kp C_check_unmarkedM.b (fun σ => L2N.passAt (L2N.takes_of rfl rfl rfl rfl) σ) (pa_cons (pv 0) pa_nil)))
      (pss_cons ps_never
      (pss_cons ps_never
      (pss_one ps_never)))), fun x S0 hp hE => ?_⟩)
  walk_at "s"
  refine sr_first (sr_drop fun ss => er_call ?_)
  walk_at "w"
  exact ⟨x, rfl, hp, hE⟩
theorem ok_gainedM {f : Addr} {fd : FuncData} (D : Df K mg "gained" s_gained ["row", "places", "letting"] f fd) {C_Marked : Addr} {f_comes_outM : Addr} {d_comes_outM : FuncData} (C_comes_outM : CalR P w K mg base 5 "comes_out" ["row", "places", "letting"] (spR K (fun _ : Unit => [.dt rowM, .dt .none, .dt .none]) (fun _ => True) fun _ => C_Marked) f_comes_outM d_comes_outM) : CalR P w K mg base 6 "gained" ["row", "places", "letting"] (spR K (fun _ : Unit => [.dt rowM, .dt .none, .dt .none]) (fun _ => True) fun _ => C_Marked) f fd := by
  refine D.calR (ok_R D.F sc_gained (fun _ => rfl) (by decide) fun cdv A outer s H E hr => ⟨_, (pss_cons (ps_set (i := 3) sc_gained.nd rfl (Or.inl rfl) (pe_callS C_comes_outM.G (hr.mono (by decide)) (by rfl) C_comes_outM.g C_comes_outM.kp C_comes_outM.b (fun σ => L2N.passAt (L2N.takes_of rfl rfl rfl rfl) σ) (pa_cons (pv 0) (pa_cons (pv 1) (pa_cons (pv 2) pa_nil)))))
      (pss_cons ps_never
      (pss_one ps_never))), fun x S0 hp hE => ?_⟩)
  walk_at "s"
  refine sr_first (sr_asg fun ss => er_call ?_)
  walk_at "w"
  exact ⟨x, rfl, hp, hE⟩
theorem ok_moveM {f : Addr} {fd : FuncData} (D : Df K mg "move" s_move ["row", "one", "other"] f fd) {C_Marked : Addr} {f_check_unmarkedM : Addr} {d_check_unmarkedM : FuncData} (C_check_unmarkedM : CalR P w K mg base 4 "check_unmarked" ["row"] (spR K (fun _ : Unit => [.dt rowM]) (fun _ => True) fun _ => C_Marked) f_check_unmarkedM d_check_unmarkedM) : CalR P w K mg base 5 "move" ["row", "one", "other"] (spR K (fun _ : Unit => [.dt rowM, .dt .none, .dt .none]) (fun _ => True) fun _ => C_Marked) f fd := by
  refine D.calR (ok_R D.F sc_move (fun _ => rfl) (by decide) fun cdv A outer s H E hr => ⟨_, (pss_cons (ps_expr (pe_callS C_check_unmarkedM.G (hr.mono (by decide)) (by rfl) C_check_unmarkedM.g C_check_unmarkedM.kp C_check_unmarkedM.b (fun σ => L2N.passAt (L2N.takes_of rfl rfl rfl rfl) σ) (pa_cons (pv 0) pa_nil)))
      (pss_cons ps_never
      (pss_cons ps_never
      (pss_one ps_never)))), fun x S0 hp hE => ?_⟩)
  walk_at "s"
  refine sr_first (sr_drop fun ss => er_call ?_)
  walk_at "w"
  exact ⟨x, rfl, hp, hE⟩
theorem ok_past_withM {f : Addr} {fd : FuncData} (D : Df K mg "past_with" s_past_with ["row", "word", "places"] f fd) {C_Marked : Addr} {f_check_unmarkedM : Addr} {d_check_unmarkedM : FuncData} (C_check_unmarkedM : CalR P w K mg base 4 "check_unmarked" ["row"] (spR K (fun _ : Unit => [.dt rowM]) (fun _ => True) fun _ => C_Marked) f_check_unmarkedM d_check_unmarkedM) : CalR P w K mg base 5 "past_with" ["row", "word", "places"] (spR K (fun _ : Unit => [.dt rowM, .dt .none, .dt .none]) (fun _ => True) fun _ => C_Marked) f fd := by
  refine D.calR (ok_R D.F sc_past_with (fun _ => rfl) (by decide) fun cdv A outer s H E hr => ⟨_, (pss_cons (ps_expr (pe_callS C_check_unmarkedM.G (hr.mono (by decide)) (by rfl) C_check_unmarkedM.g C_check_unmarkedM.kp C_check_unmarkedM.b (fun σ => L2N.passAt (L2N.takes_of rfl rfl rfl rfl) σ) (pa_cons (pv 0) pa_nil)))
      (pss_cons ps_never
      (pss_cons ps_never
      (pss_one ps_never)))), fun x S0 hp hE => ?_⟩)
  walk_at "s"
  refine sr_first (sr_drop fun ss => er_call ?_)
  walk_at "w"
  exact ⟨x, rfl, hp, hE⟩
theorem ok_neededM {f : Addr} {fd : FuncData} (D : Df K mg "needed" s_needed ["row"] f fd) {C_Marked : Addr} {f_check_unmarkedM : Addr} {d_check_unmarkedM : FuncData} (C_check_unmarkedM : CalR P w K mg base 4 "check_unmarked" ["row"] (spR K (fun _ : Unit => [.dt rowM]) (fun _ => True) fun _ => C_Marked) f_check_unmarkedM d_check_unmarkedM) : CalR P w K mg base 5 "needed" ["row"] (spR K (fun _ : Unit => [.dt rowM]) (fun _ => True) fun _ => C_Marked) f fd := by
  refine D.calR (ok_R D.F sc_needed (fun _ => rfl) (by decide) fun cdv A outer s H E hr => ⟨_, (pss_cons (ps_expr (pe_callS C_check_unmarkedM.G (hr.mono (by decide)) (by rfl) C_check_unmarkedM.g C_check_unmarkedM.kp C_check_unmarkedM.b (fun σ => L2N.passAt (L2N.takes_of rfl rfl rfl rfl) σ) (pa_cons (pv 0) pa_nil)))
      (pss_one ps_never)), fun x S0 hp hE => ?_⟩)
  walk_at "s"
  refine sr_first (sr_drop fun ss => er_call ?_)
  walk_at "w"
  exact ⟨x, rfl, hp, hE⟩
theorem ok__check_shelfS {f : Addr} {fd : FuncData} (D : Df K mg "_check_shelf" s__check_shelf ["shelf"] f fd) {f_is_shelfO : Addr} {d_is_shelfO : FuncData} (C_is_shelfO : Cal P w K mg base 4 "is_shelf" ["thing"] (spF K (fun d : Dat => [.dt d]) (fun d => okD d = true) fun d => .bool (isShelfD d)) f_is_shelfO d_is_shelfO) {C_NoShelf : Addr} (x_NoShelf : ExcF K mg "NoShelf" C_NoShelf) : CalR P w K mg base 5 "_check_shelf" ["shelf"] (spR K (fun d : Dat => [.dt d]) (BadShelf) fun _ => C_NoShelf) f fd := by
  refine D.calR (ok_R D.F sc__check_shelf (fun _ => rfl) (by decide) fun cdv A outer s H E hr => ⟨_, (pss_one (ps_if (pt_not (pt_val (pe_call C_is_shelfO.G (hr.mono (by decide)) (by rfl) C_is_shelfO.g C_is_shelfO.kp C_is_shelfO.b .nil pass0 (pa_cons (pv 0) pa_nil)))) (pss_one (L2N.ps_raise rfl (L2N.takes_of rfl rfl rfl rfl) (Xa.pmk_n1 PySem.F.excBase_ValueError x_NoShelf.x x_NoShelf.g x_NoShelf.k (raises_own x_NoShelf.b x_NoShelf.t) rfl pe_str))) pss_nil)), fun x S0 hp hE => ?_⟩)
  walk_at "s"
  try dsimp only [BxN, cxOf]
  refine sr_if fun ss => ?_
  walk_at "w"
  refine ⟨x, rfl, hp.1, ?_⟩
  rw [hp.2]
  walk_at "w"
  refine sr_raise (ta := tC _) hE fun ss σ τ S E Q h => h _
theorem ok_pastS {f : Addr} {fd : FuncData} (D : Df K mg "past" s_past ["row", "shelf"] f fd) {C_NoShelf : Addr} {f__check_shelfS : Addr} {d__check_shelfS : FuncData} (C__check_shelfS : CalR P w K mg base 5 "_check_shelf" ["shelf"] (spR K (fun d : Dat => [.dt d]) (BadShelf) fun _ => C_NoShelf) f__check_shelfS d__check_shelfS) {f_check_row : Addr} {d_check_row : FuncData} (C_check_row : Cal P w K mg base 3 "check_row" ["row"] (spF K (fun r : List (Option Int) => [.dt (.tuple (oL r))]) RowOk fun _ => .none) f_check_row d_check_row) : CalR P w K mg base 6 "past" ["row", "shelf"] (spR K (fun d : Dat => [.dt row3, .dt d]) (BadShelf) fun _ => C_NoShelf) f fd := by
  refine D.calR (ok_R D.F sc_past (fun _ => rfl) (by decide) fun cdv A outer s H E hr => ⟨_, (pss_cons (ps_expr (pe_call C_check_row.G (hr.mono (by decide)) (by rfl) C_check_row.g C_check_row.kp C_check_row.b .nil pass0 (pa_cons (pv 0) pa_nil)))
      (pss_cons (ps_expr (pe_callS C__check_shelfS.G (hr.mono (by decide)) (by rfl) C__check_shelfS.g C__check_shelfS.kp C__check_shelfS.b (fun σ => L2N.passAt (L2N.takes_of rfl rfl rfl rfl) σ) (pa_cons (pv 1) pa_nil)))
      (pss_cons ps_never
      (pss_cons ps_never
      (pss_cons ps_never
      (pss_one ps_never)))))), fun x S0 hp hE => ?_⟩)
  walk_at "s"
  refine sr_seq ?_
  walk_at "w"
  refine ⟨[some 3, some 1, some 2], rfl, ⟨by decide, by decide⟩, ?_⟩
  walk_at "w"
  refine sr_first (sr_drop fun ss => er_call ?_)
  walk_at "w"
  exact ⟨x, rfl, hp, hE⟩
theorem ok_movedS {f : Addr} {fd : FuncData} (D : Df K mg "moved" s_moved ["row", "shelf"] f fd) {C_NoShelf : Addr} {f_pastS : Addr} {d_pastS : FuncData} (C_pastS : CalR P w K mg base 6 "past" ["row", "shelf"] (spR K (fun d : Dat => [.dt row3, .dt d]) (BadShelf) fun _ => C_NoShelf) f_pastS d_pastS) : CalR P w K mg base 7 "moved" ["row", "shelf"] (spR K (fun d : Dat => [.dt row3, .dt d]) (BadShelf) fun _ => C_NoShelf) f fd := by
  refine D.calR (ok_R D.F sc_moved (fun _ => rfl) (by decide) fun cdv A outer s H E hr => ⟨_, (pss_cons (ps_set (i := 2) sc_moved.nd rfl (Or.inr rfl) (pe_callS C_pastS.G (hr.mono (by decide)) (by rfl) C_pastS.g C_pastS.kp C_pastS.b (fun σ => L2N.passAt (L2N.takes_of rfl rfl rfl rfl) σ) (pa_cons (pv 0) (pa_cons (pv 1) pa_nil))))
      (pss_one ps_never)), fun x S0 hp hE => ?_⟩)
  walk_at "s"
  refine sr_first (sr_asg fun ss => er_call ?_)
  walk_at "w"
  exact ⟨x, rfl, hp, hE⟩
theorem ok_check_lineL {f : Addr} {fd : FuncData} (D : Df K mg "check_line" s_check_line ["line"] f fd) {f_is_lineO : Addr} {d_is_lineO : FuncData} (C_is_lineO : Cal P w K mg base 5 "is_line" ["thing"] (spF K (fun d : Dat => [.dt d]) (fun d => okDD d = true) fun d => .bool (isLineD d)) f_is_lineO d_is_lineO) {C_NoLine : Addr} (x_NoLine : ExcF K mg "NoLine" C_NoLine) : CalR P w K mg base 6 "check_line" ["line"] (spR K (fun d : Dat => [.dt d]) (BadLine) fun _ => C_NoLine) f fd := by
  refine D.calR (ok_R D.F sc_check_line (fun _ => rfl) (by decide) fun cdv A outer s H E hr => ⟨_, (pss_one (ps_if (pt_not (pt_val (pe_call C_is_lineO.G (hr.mono (by decide)) (by rfl) C_is_lineO.g C_is_lineO.kp C_is_lineO.b .nil pass0 (pa_cons (pv 0) pa_nil)))) (pss_one (L2N.ps_raise rfl (L2N.takes_of rfl rfl rfl rfl) (Xa.pmk_n1 PySem.F.excBase_ValueError x_NoLine.x x_NoLine.g x_NoLine.k (raises_own x_NoLine.b x_NoLine.t) rfl pe_str))) pss_nil)), fun x S0 hp hE => ?_⟩)
  walk_at "s"
  try dsimp only [BxN, cxOf]
  refine sr_if fun ss => ?_
  walk_at "w"
  refine ⟨x, rfl, hp.1, ?_⟩
  rw [hp.2]
  walk_at "w"
  refine sr_raise (ta := tC _) hE fun ss σ τ S E Q h => h _
theorem ok_throughL {f : Addr} {fd : FuncData} (D : Df K mg "through" s_through ["row", "line"] f fd) {C_NoLine : Addr} {f_check_lineL : Addr} {d_check_lineL : FuncData} (C_check_lineL : CalR P w K mg base 6 "check_line" ["line"] (spR K (fun d : Dat => [.dt d]) (BadLine) fun _ => C_NoLine) f_check_lineL d_check_lineL) {f_check_row : Addr} {d_check_row : FuncData} (C_check_row : Cal P w K mg base 3 "check_row" ["row"] (spF K (fun r : List (Option Int) => [.dt (.tuple (oL r))]) RowOk fun _ => .none) f_check_row d_check_row) : CalR P w K mg base 7 "through" ["row", "line"] (spR K (fun d : Dat => [.dt row3, .dt d]) (BadLine) fun _ => C_NoLine) f fd := by
  refine D.calR (ok_R D.F sc_through (fun _ => rfl) (by decide) fun cdv A outer s H E hr => ⟨_, (pss_cons (ps_expr (pe_call C_check_row.G (hr.mono (by decide)) (by rfl) C_check_row.g C_check_row.kp C_check_row.b .nil pass0 (pa_cons (pv 0) pa_nil)))
      (pss_cons (ps_expr (pe_callS C_check_lineL.G (hr.mono (by decide)) (by rfl) C_check_lineL.g C_check_lineL.kp C_check_lineL.b (fun σ => L2N.passAt (L2N.takes_of rfl rfl rfl rfl) σ) (pa_cons (pv 1) pa_nil)))
      (pss_cons ps_never
      (pss_cons ps_never
      (pss_one ps_never))))), fun x S0 hp hE => ?_⟩)
  walk_at "s"
  refine sr_seq ?_
  walk_at "w"
  refine ⟨[some 3, some 1, some 2], rfl, ⟨by decide, by decide⟩, ?_⟩
  walk_at "w"
  refine sr_first (sr_drop fun ss => er_call ?_)
  walk_at "w"
  exact ⟨x, rfl, hp, hE⟩
theorem ok_mergedL {f : Addr} {fd : FuncData} (D : Df K mg "merged" s_merged ["line"] f fd) {C_NoLine : Addr} {f_check_lineL : Addr} {d_check_lineL : FuncData} (C_check_lineL : CalR P w K mg base 6 "check_line" ["line"] (spR K (fun d : Dat => [.dt d]) (BadLine) fun _ => C_NoLine) f_check_lineL d_check_lineL) : CalR P w K mg base 7 "merged" ["line"] (spR K (fun d : Dat => [.dt d]) (BadLine) fun _ => C_NoLine) f fd := by
  refine D.calR (ok_R D.F sc_merged (fun _ => rfl) (by decide) fun cdv A outer s H E hr => ⟨_, (pss_cons (ps_expr (pe_callS C_check_lineL.G (hr.mono (by decide)) (by rfl) C_check_lineL.g C_check_lineL.kp C_check_lineL.b (fun σ => L2N.passAt (L2N.takes_of rfl rfl rfl rfl) σ) (pa_cons (pv 0) pa_nil)))
      (pss_cons ps_never
      (pss_cons ps_never
      (pss_one ps_never)))), fun x S0 hp hE => ?_⟩)
  walk_at "s"
  refine sr_first (sr_drop fun ss => er_call ?_)
  walk_at "w"
  exact ⟨x, rfl, hp, hE⟩
theorem ok_line_textL {f : Addr} {fd : FuncData} (D : Df K mg "line_text" s_line_text ["line"] f fd) {C_NoLine : Addr} {f_check_lineL : Addr} {d_check_lineL : FuncData} (C_check_lineL : CalR P w K mg base 6 "check_line" ["line"] (spR K (fun d : Dat => [.dt d]) (BadLine) fun _ => C_NoLine) f_check_lineL d_check_lineL) : CalR P w K mg base 7 "line_text" ["line"] (spR K (fun d : Dat => [.dt d]) (BadLine) fun _ => C_NoLine) f fd := by
  refine D.calR (ok_R D.F sc_line_text (fun _ => rfl) (by decide) fun cdv A outer s H E hr => ⟨_, (pss_cons (ps_expr (pe_callS C_check_lineL.G (hr.mono (by decide)) (by rfl) C_check_lineL.g C_check_lineL.kp C_check_lineL.b (fun σ => L2N.passAt (L2N.takes_of rfl rfl rfl rfl) σ) (pa_cons (pv 0) pa_nil)))
      (pss_cons ps_never
      (pss_one ps_never))), fun x S0 hp hE => ?_⟩)
  walk_at "s"
  refine sr_first (sr_drop fun ss => er_call ?_)
  walk_at "w"
  exact ⟨x, rfl, hp, hE⟩
theorem ok_check_placesP {f : Addr} {fd : FuncData} (D : DfD K mg "check_places" s_check_places ["places", "least"] (0) f fd) {f_is_whole_withinO : Addr} {d_is_whole_withinO : FuncData} (C_is_whole_withinO : Cal P w K mg base 2 "is_whole_within" ["thing", "least", "most"] (spF K (fun p : Dat × Int × Int => [.dt p.1, .dt (.int p.2.1), .dt (.int p.2.2)]) (fun p => isK p.1 = true) fun p => .bool (isWithinD p.1 p.2.1 p.2.2)) f_is_whole_withinO d_is_whole_withinO) (c_MOST_PLACES : GlobI K mg "MOST_PLACES" 9) {C_NoPlaces : Addr} (x_NoPlaces : ExcF K mg "NoPlaces" C_NoPlaces) : CalRD P w K mg base 3 "check_places" ["places", "least"] (spR K (fun p : Dat × Nat => [.dt p.1, .dt (.int p.2)]) (fun p => p.2 ≤ 1 ∧ BadPl p.2 p.1) fun _ => C_NoPlaces) (0) f fd := by
  refine D.calR (ok_Rd D.F sc_check_places (fun _ => rfl) (by decide) fun cdv A outer s H E hr => ⟨_, (pss_one (ps_if (pt_not (pt_val (pe_call C_is_whole_withinO.G (hr.mono (by decide)) (by rfl) C_is_whole_withinO.g C_is_whole_withinO.kp C_is_whole_withinO.b .nil pass0 (pa_cons (pv 0) (pa_cons (pv 1) (pa_cons (pe_glob (v := .int (9)) (by rfl) c_MOST_PLACES.u.choose_spec ⟨_, rfl⟩) pa_nil)))))) (pss_one (L2N.ps_raise rfl (L2N.takes_of rfl rfl rfl rfl) (Xa.pmk_n1 PySem.F.excBase_ValueError x_NoPlaces.x x_NoPlaces.g x_NoPlaces.k (raises_own x_NoPlaces.b x_NoPlaces.t) rfl (pe_joined (PJ.cons pe_str (PJ.cons (pe_fmt (pv 1)) (PJ.cons pe_str (PJ.cons (pe_fmt (pe_glob (v := .int (9)) (by rfl) c_MOST_PLACES.u.choose_spec ⟨_, rfl⟩)) PJ.nil)))))))) pss_nil)), fun x S0 hp hE => ?_⟩)
  walk_at "s"
  try dsimp only [BxN, cxOf]
  refine sr_first (sr_if fun ss => ?_)
  walk_at "w"
  obtain ⟨d, n⟩ := x
  obtain ⟨h0, h1, h2⟩ := hp
  dsimp only at h0 h1 h2 hE ⊢
  obtain rfl | rfl : n = 0 ∨ n = 1 := by omega
  · refine ⟨(d, 0, 9), rfl, h1, ?_⟩
    dsimp only
    rw [show isWithinD d 0 9 = false from h2]
    walk_at "w"
    refine sr_raise (ta := fun σ H Q => tJs _ Str.empty σ H fun out H1 => Q (.str out) H1) hE fun ss σ τ S Ev Q h => ?_
    obtain ⟨w, h1, h2⟩ := id Ev.ok
    obtain ⟨v, ev, dv⟩ := h1 1 _ rfl
    cases dv
    exact ⟨_, rfl, by decide, _, ev, .inr ⟨0, rfl, by decide, _, rfl, by decide, _, rfl, by decide, .inr ⟨9, rfl, by decide, _, rfl, by decide, h _⟩⟩⟩
  · refine ⟨(d, 1, 9), rfl, h1, ?_⟩
    dsimp only
    rw [show isWithinD d 1 9 = false from h2]
    walk_at "w"
    refine sr_raise (ta := fun σ H Q => tJs _ Str.empty σ H fun out H1 => Q (.str out) H1) hE fun ss σ τ S Ev Q h => ?_
    obtain ⟨w, h1, h2⟩ := id Ev.ok
    obtain ⟨v, ev, dv⟩ := h1 1 _ rfl
    cases dv
    exact ⟨_, rfl, by decide, _, ev, .inr ⟨1, rfl, by decide, _, rfl, by decide, _, rfl, by decide, .inr ⟨9, rfl, by decide, _, rfl, by decide, h _⟩⟩⟩
theorem ok_shelvesP {f : Addr} {fd : FuncData} (D : Df K mg "shelves" s_shelves ["row", "places"] f fd) {C_NoPlaces : Addr} {f_check_placesP : Addr} {d_check_placesP : FuncData} (C_check_placesP : CalRD P w K mg base 3 "check_places" ["places", "least"] (spR K (fun p : Dat × Nat => [.dt p.1, .dt (.int p.2)]) (fun p => p.2 ≤ 1 ∧ BadPl p.2 p.1) fun _ => C_NoPlaces) (0) f_check_placesP d_check_placesP) {f_check_row : Addr} {d_check_row : FuncData} (C_check_row : Cal P w K mg base 3 "check_row" ["row"] (spF K (fun r : List (Option Int) => [.dt (.tuple (oL r))]) RowOk fun _ => .none) f_check_row d_check_row) : CalR P w K mg base 4 "shelves" ["row", "places"] (spR K (fun d : Dat => [.dt row3, .dt d]) (BadPl 1) fun _ => C_NoPlaces) f fd := by
  refine D.calR (ok_R D.F sc_shelves (fun _ => rfl) (by decide) fun cdv A outer s H E hr => ⟨_, (pss_cons (ps_expr (pe_call C_check_row.G (hr.mono (by decide)) (by rfl) C_check_row.g C_check_row.kp C_check_row.b .nil pass0 (pa_cons (pv 0) pa_nil)))
      (pss_cons (ps_expr (pe_callSD C_check_placesP.G (hr.mono (by decide)) (by rfl) C_check_placesP.g C_check_placesP.kp C_check_placesP.b0.choose_spec.2 C_check_placesP.b0.choose_spec.1 (fun σ => L2N.passAt (L2N.takes_of rfl rfl rfl rfl) σ) (pa_cons (pv 1) (pa_cons pe_int pa_nil))))
      (pss_cons ps_never
      (pss_cons ps_never
      (pss_one ps_never))))), fun x S0 hp hE => ?_⟩)
  walk_at "s"
  refine sr_seq ?_
  walk_at "w"
  refine ⟨[some 3, some 1, some 2], rfl, ⟨by decide, by decide⟩, ?_⟩
  walk_at "w"
  refine sr_first (sr_drop fun ss => er_callD0 ?_)
  walk_at "w"
  exact ⟨(x, 1), rfl, ⟨by simp, hp⟩, hE⟩
theorem ok_own_wayP {f : Addr} {fd : FuncData} (D : Df K mg "own_way" s_own_way ["row", "places"] f fd) {C_NoPlaces : Addr} {f_check_placesP : Addr} {d_check_placesP : FuncData} (C_check_placesP : CalRD P w K mg base 3 "check_places" ["places", "least"] (spR K (fun p : Dat × Nat => [.dt p.1, .dt (.int p.2)]) (fun p => p.2 ≤ 1 ∧ BadPl p.2 p.1) fun _ => C_NoPlaces) (0) f_check_placesP d_check_placesP) {f_check_unmarked : Addr} {d_check_unmarked : FuncData} (C_check_unmarked : Cal P w K mg base 4 "check_unmarked" ["row"] (spF K (fun r : List Int => [.dt (.tuple (iL r))]) (fun r => r.length ≤ 24 ∧ r.Nodup) fun _ => .none) f_check_unmarked d_check_unmarked) : CalR P w K mg base 5 "own_way" ["row", "places"] (spR K (fun d : Dat => [.dt row3, .dt d]) (BadPl 0) fun _ => C_NoPlaces) f fd := by
  refine D.calR (ok_R D.F sc_own_way (fun _ => rfl) (by decide) fun cdv A outer s H E hr => ⟨_, (pss_cons (ps_expr (pe_call C_check_unmarked.G (hr.mono (by decide)) (by rfl) C_check_unmarked.g C_check_unmarked.kp C_check_unmarked.b .nil pass0 (pa_cons (pv 0) pa_nil)))
      (pss_cons (ps_expr (pe_callSD C_check_placesP.G (hr.mono (by decide)) (by rfl) C_check_placesP.g C_check_placesP.kp C_check_placesP.b1.choose_spec.2 C_check_placesP.b1.choose_spec.1 (fun σ => L2N.passAt (L2N.takes_of rfl rfl rfl rfl) σ) (pa_cons (pv 1) pa_nil)))
      (pss_cons ps_never
      (pss_cons ps_never
      (pss_cons ps_never
      (pss_one ps_never)))))), fun x S0 hp hE => ?_⟩)
  walk_at "s"
  refine sr_seq ?_
  walk_at "w"
  refine ⟨[3, 1, 2], rfl, ⟨by decide, by decide⟩, ?_⟩
  walk_at "w"
  refine sr_first (sr_drop fun ss => er_callD ?_)
  walk_at "w"
  exact ⟨(x, 0), rfl, ⟨by simp, hp⟩, hE⟩
theorem ok_how_manyP {f : Addr} {fd : FuncData} (D : Df K mg "how_many" s_how_many ["row", "places"] f fd) {C_NoPlaces : Addr} {f_check_placesP : Addr} {d_check_placesP : FuncData} (C_check_placesP : CalRD P w K mg base 3 "check_places" ["places", "least"] (spR K (fun p : Dat × Nat => [.dt p.1, .dt (.int p.2)]) (fun p => p.2 ≤ 1 ∧ BadPl p.2 p.1) fun _ => C_NoPlaces) (0) f_check_placesP d_check_placesP) {f_check_unmarked : Addr} {d_check_unmarked : FuncData} (C_check_unmarked : Cal P w K mg base 4 "check_unmarked" ["row"] (spF K (fun r : List Int => [.dt (.tuple (iL r))]) (fun r => r.length ≤ 24 ∧ r.Nodup) fun _ => .none) f_check_unmarked d_check_unmarked) : CalR P w K mg base 5 "how_many" ["row", "places"] (spR K (fun d : Dat => [.dt row3, .dt d]) (BadPl 0) fun _ => C_NoPlaces) f fd := by
  refine D.calR (ok_R D.F sc_how_many (fun _ => rfl) (by decide) fun cdv A outer s H E hr => ⟨_, (pss_cons (ps_expr (pe_call C_check_unmarked.G (hr.mono (by decide)) (by rfl) C_check_unmarked.g C_check_unmarked.kp C_check_unmarked.b .nil pass0 (pa_cons (pv 0) pa_nil)))
      (pss_cons (ps_expr (pe_callSD C_check_placesP.G (hr.mono (by decide)) (by rfl) C_check_placesP.g C_check_placesP.kp C_check_placesP.b1.choose_spec.2 C_check_placesP.b1.choose_spec.1 (fun σ => L2N.passAt (L2N.takes_of rfl rfl rfl rfl) σ) (pa_cons (pv 1) pa_nil)))
      (pss_cons ps_never
      (pss_cons ps_never
      (pss_one ps_never))))), fun x S0 hp hE => ?_⟩)
  walk_at "s"
  refine sr_seq ?_
  walk_at "w"
  refine ⟨[3, 1, 2], rfl, ⟨by decide, by decide⟩, ?_⟩
  walk_at "w"
  refine sr_first (sr_drop fun ss => er_callD ?_)
  walk_at "w"
  exact ⟨(x, 0), rfl, ⟨by simp, hp⟩, hE⟩
theorem ok_comes_outP {f : Addr} {fd : FuncData} (D : Df K mg "comes_out" s_comes_out ["row", "places", "letting"] f fd) {C_NoPlaces : Addr} {f_check_placesP : Addr} {d_check_placesP : FuncData} (C_check_placesP : CalRD P w K mg base 3 "check_places" ["places", "least"] (spR K (fun p : Dat × Nat => [.dt p.1, .dt (.int p.2)]) (fun p => p.2 ≤ 1 ∧ BadPl p.2 p.1) fun _ => C_NoPlaces) (0) f_check_placesP d_check_placesP) {f_check_unmarked : Addr} {d_check_unmarked : FuncData} (C_check_unmarked : Cal P w K mg base 4 "check_unmarked" ["row"] (spF K (fun r : List Int => [.dt (.tuple (iL r))]) (fun r => r.length ≤ 24 ∧ r.Nodup) fun _ => .none) f_check_unmarked d_check_unmarked) : CalR P w K mg base 5 "comes_out" ["row", "places", "letting"] (spR K (fun d : Dat => [.dt row3, .dt d, .dt .none]) (BadPl 0) fun _ => C_NoPlaces) f fd := by
  refine D.calR (ok_R D.F sc_comes_out (fun _ => rfl) (by decide) fun cdv A outer s H E hr => ⟨_, (pss_cons (ps_expr (pe_call C_check_unmarked.G (hr.mono (by decide)) (by rfl) C_check_unmarked.g C_check_unmarked.kp C_check_unmarked.b .nil pass0 (pa_cons (pv 0) pa_nil)))
      (pss_cons (ps_expr (pe_callSD C_check_placesP.G (hr.mono (by decide)) (by rfl) C_check_placesP.g C_check_placesP.kp C_check_placesP.b1.choose_spec.2 C_check_placesP.b1.choose_spec.1 (fun σ => L2N.passAt (L2N.takes_of rfl rfl rfl rfl) σ) (pa_cons (pv 1) pa_nil)))
      (pss_cons ps_never
      (pss_one ps_never)))), fun x S0 hp hE => ?_⟩)
  walk_at "s"
  refine sr_seq ?_
  walk_at "w"
  refine ⟨[3, 1, 2], rfl, ⟨by decide, by decide⟩, ?_⟩
  walk_at "w"
  refine sr_first (sr_drop fun ss => er_callD ?_)
  walk_at "w"
  exact ⟨(x, 0), rfl, ⟨by simp, hp⟩, hE⟩
theorem ok_aheadP {f : Addr} {fd : FuncData} (D : Df K mg "ahead" s_ahead ["row", "places"] f fd) {C_NoPlaces : Addr} {f_how_manyP : Addr} {d_how_manyP : FuncData} (C_how_manyP : CalR P w K mg base 5 "how_many" ["row", "places"] (spR K (fun d : Dat => [.dt row3, .dt d]) (BadPl 0) fun _ => C_NoPlaces) f_how_manyP d_how_manyP) : CalR P w K mg base 6 "ahead" ["row", "places"] (spR K (fun d : Dat => [.dt row3, .dt d]) (BadPl 0) fun _ => C_NoPlaces) f fd := by
  refine D.calR (ok_R D.F sc_ahead (fun _ => rfl) (by decide) fun cdv A outer s H E hr => ⟨_, (pss_cons (ps_set (i := 2) sc_ahead.nd rfl (Or.inl rfl) (pe_callS C_how_manyP.G (hr.mono (by decide)) (by rfl) C_how_manyP.g C_how_manyP.kp C_how_manyP.b (fun σ => L2N.passAt (L2N.takes_of rfl rfl rfl rfl) σ) (pa_cons (pv 0) (pa_cons (pv 1) pa_nil))))
      (pss_cons ps_never
      (pss_cons ps_never
      (pss_cons ps_never
      (pss_cons ps_never
      (pss_one ps_never)))))), fun x S0 hp hE => ?_⟩)
  walk_at "s"
  refine sr_first (sr_asg fun ss => er_call ?_)
  walk_at "w"
  exact ⟨x, rfl, hp, hE⟩
theorem ok_can_comeP {f : Addr} {fd : FuncData} (D : Df K mg "can_come" s_can_come ["row", "places"] f fd) {C_NoPlaces : Addr} {f_how_manyP : Addr} {d_how_manyP : FuncData} (C_how_manyP : CalR P w K mg base 5 "how_many" ["row", "places"] (spR K (fun d : Dat => [.dt row3, .dt d]) (BadPl 0) fun _ => C_NoPlaces) f_how_manyP d_how_manyP) : CalR P w K mg base 6 "can_come" ["row", "places"] (spR K (fun d : Dat => [.dt row3, .dt d]) (BadPl 0) fun _ => C_NoPlaces) f fd := by
  refine D.calR (ok_R D.F sc_can_come (fun _ => rfl) (by decide) fun cdv A outer s H E hr => ⟨_, (pss_one (ps_ret (pe_cmpR op_gt (pe_callS C_how_manyP.G (hr.mono (by decide)) (by rfl) C_how_manyP.g C_how_manyP.kp C_how_manyP.b (fun σ => L2N.passAt (L2N.takes_of rfl rfl rfl rfl) σ) (pa_cons (pv 0) (pa_cons (pv 1) pa_nil))) pe_int (nomark _)))), fun x S0 hp hE => ?_⟩)
  walk_at "s"
  refine sr_ret fun ss => er_op (er_call ?_)
  walk_at "w"
  exact ⟨x, rfl, hp, hE⟩
theorem ok_gainedP {f : Addr} {fd : FuncData} (D : Df K mg "gained" s_gained ["row", "places", "letting"] f fd) {C_NoPlaces : Addr} {f_comes_outP : Addr} {d_comes_outP : FuncData} (C_comes_outP : CalR P w K mg base 5 "comes_out" ["row", "places", "letting"] (spR K (fun d : Dat => [.dt row3, .dt d, .dt .none]) (BadPl 0) fun _ => C_NoPlaces) f_comes_outP d_comes_outP) : CalR P w K mg base 6 "gained" ["row", "places", "letting"] (spR K (fun d : Dat => [.dt row3, .dt d, .dt .none]) (BadPl 0) fun _ => C_NoPlaces) f fd := by
  refine D.calR (ok_R D.F sc_gained (fun _ => rfl) (by decide) fun cdv A outer s H E hr => ⟨_, (pss_cons (ps_set (i := 3) sc_gained.nd rfl (Or.inl rfl) (pe_callS C_comes_outP.G (hr.mono (by decide)) (by rfl) C_comes_outP.g C_comes_outP.kp C_comes_outP.b (fun σ => L2N.passAt (L2N.takes_of rfl rfl rfl rfl) σ) (pa_cons (pv 0) (pa_cons (pv 1) (pa_cons (pv 2) pa_nil)))))
      (pss_cons ps_never
      (pss_one ps_never))), fun x S0 hp hE => ?_⟩)
  walk_at "s"
  refine sr_first (sr_asg fun ss => er_call ?_)
  walk_at "w"
  exact ⟨x, rfl, hp, hE⟩
theorem ok_sorted_byP {f : Addr} {fd : FuncData} (D : Df K mg "sorted_by" s_sorted_by ["many", "places"] f fd) {C_NoPlaces : Addr} {f_check_placesP : Addr} {d_check_placesP : FuncData} (C_check_placesP : CalRD P w K mg base 3 "check_places" ["places", "least"] (spR K (fun p : Dat × Nat => [.dt p.1, .dt (.int p.2)]) (fun p => p.2 ≤ 1 ∧ BadPl p.2 p.1) fun _ => C_NoPlaces) (0) f_check_placesP d_check_placesP) {f_is_whole_within : Addr} {d_is_whole_within : FuncData} (C_is_whole_within : Cal P w K mg base 2 "is_whole_within" ["thing", "least", "most"] (spF K (fun p : Int × Int × Int => [.dt (.int p.1), .dt (.int p.2.1), .dt (.int p.2.2)]) (fun _ => True) fun p => .bool (decide (p.2.1 ≤ p.1) && decide (p.1 ≤ p.2.2))) f_is_whole_within d_is_whole_within) (c_MOST_THINGS : GlobI K mg "MOST_THINGS" 24) : CalR P w K mg base 4 "sorted_by" ["many", "places"] (spR K (fun d : Dat => [.dt (.int 3), .dt d]) (BadPl 0) fun _ => C_NoPlaces) f fd := by
  refine D.calR (ok_R D.F sc_sorted_by (fun _ => rfl) (by decide) fun cdv A outer s H E hr => ⟨_, (pss_cons (ps_if (pt_not (pt_val (pe_call C_is_whole_within.G (hr.mono (by decide)) (by rfl) C_is_whole_within.g C_is_whole_within.kp C_is_whole_within.b .nil pass0 (pa_cons (pv 0) (pa_cons pe_int (pa_cons (pe_glob (v := .int (24)) (by rfl) c_MOST_THINGS.u.choose_spec ⟨_, rfl⟩) pa_nil)))))) (pss_one ps_never) pss_nil)
      (pss_cons (ps_expr (pe_callSD C_check_placesP.G (hr.mono (by decide)) (by rfl) C_check_placesP.g C_check_placesP.kp C_check_placesP.b1.choose_spec.2 C_check_placesP.b1.choose_spec.1 (fun σ => L2N.passAt (L2N.takes_of rfl rfl rfl rfl) σ) (pa_cons (pv 1) pa_nil)))
      (pss_cons ps_never
      (pss_cons ps_never
      (pss_one ps_never))))), fun x S0 hp hE => ?_⟩)
  walk_at "s"
  refine sr_seq ?_
  walk_at "w"
  refine ⟨(3, 0, 24), rfl, trivial, ?_⟩
  walk_at "w"
  refine sr_first (sr_drop fun ss => er_callD ?_)
  walk_at "w"
  exact ⟨(x, 0), rfl, ⟨by simp, hp⟩, hE⟩
theorem ok_past_withS {f : Addr} {fd : FuncData} (D : Df K mg "past_with" s_past_with ["row", "word", "places"] f fd) {f_check_unmarked : Addr} {d_check_unmarked : FuncData} (C_check_unmarked : Cal P w K mg base 4 "check_unmarked" ["row"] (spF K (fun r : List Int => [.dt (.tuple (iL r))]) (fun r => r.length ≤ 24 ∧ r.Nodup) fun _ => .none) f_check_unmarked d_check_unmarked) {f_is_wordO : Addr} {d_is_wordO : FuncData} (C_is_wordO : Cal P w K mg base 1 "_is_word" ["thing"] (spF K (fun d : Dat => [.dt d]) (fun d => isK d = true) fun d => .bool (isWordD d)) f_is_wordO d_is_wordO) {C_NoShelf : Addr} (x_NoShelf : ExcF K mg "NoShelf" C_NoShelf) : CalR P w K mg base 5 "past_with" ["row", "word", "places"] (spR K (fun d : Dat => [.dt row3, .dt d, .dt .none]) (BadWord) fun _ => C_NoShelf) f fd := by
  refine D.calR (ok_R D.F sc_past_with (fun _ => rfl) (by decide) fun cdv A outer s H E hr => ⟨_, (pss_cons (ps_expr (pe_call C_check_unmarked.G (hr.mono (by decide)) (by rfl) C_check_unmarked.g C_check_unmarked.kp C_check_unmarked.b .nil pass0 (pa_cons (pv 0) pa_nil)))
      (pss_cons (ps_if (pt_not (pt_val (pe_call C_is_wordO.G (hr.mono (by decide)) (by rfl) C_is_wordO.g C_is_wordO.kp C_is_wordO.b .nil pass0 (pa_cons (pv 1) pa_nil)))) (pss_one (L2N.ps_raise rfl (L2N.takes_of rfl rfl rfl rfl) (Xa.pmk_n1 PySem.F.excBase_ValueError x_NoShelf.x x_NoShelf.g x_NoShelf.k (raises_own x_NoShelf.b x_NoShelf.t) rfl pe_str))) pss_nil)
      (pss_cons ps_never
      (pss_one ps_never)))), fun x S0 hp hE => ?_⟩)
  walk_at "s"
  try dsimp only [BxN, cxOf]
  refine sr_seq ?_
  walk_at "w"
  refine ⟨[3, 1, 2], rfl, ⟨by decide, by decide⟩, ?_⟩
  walk_at "w"
  refine sr_first (sr_if fun ss => ?_)
  walk_at "w"
  refine ⟨x, rfl, hp.1, ?_⟩
  rw [hp.2]
  walk_at "w"
  refine sr_raise (ta := tC _) hE fun ss σ τ S E Q h => h _
theorem ok_past_withP {f : Addr} {fd : FuncData} (D : Df K mg "past_with" s_past_with ["row", "word", "places"] f fd) {f_are_placesO : Addr} {d_are_placesO : FuncData} (C_are_placesO : Cal P w K mg base 4 "_are_places" ["thing", "many"] (spF K (fun p : Dat × Nat => [.dt p.1, .dt (.int p.2)]) (fun p => okD p.1 = true) fun p => .bool (arePlD p.1 p.2)) f_are_placesO d_are_placesO) {f_check_unmarked : Addr} {d_check_unmarked : FuncData} (C_check_unmarked : Cal P w K mg base 4 "check_unmarked" ["row"] (spF K (fun r : List Int => [.dt (.tuple (iL r))]) (fun r => r.length ≤ 24 ∧ r.Nodup) fun _ => .none) f_check_unmarked d_check_unmarked) {f_is_wordO : Addr} {d_is_wordO : FuncData} (C_is_wordO : Cal P w K mg base 1 "_is_word" ["thing"] (spF K (fun d : Dat => [.dt d]) (fun d => isK d = true) fun d => .bool (isWordD d)) f_is_wordO d_is_wordO) (m_len : mg "len" = none) {C_NoPlaces : Addr} (x_NoPlaces : ExcF K mg "NoPlaces" C_NoPlaces) : CalR P w K mg base 5 "past_with" ["row", "word", "places"] (spR K (fun d : Dat => [.dt row3, .dt (.str "light"), .dt d]) (BadPls) fun _ => C_NoPlaces) f fd := by
  refine D.calR (ok_R D.F sc_past_with (fun _ => rfl) (by decide) fun cdv A outer s H E hr => ⟨_, (pss_cons (ps_expr (pe_call C_check_unmarked.G (hr.mono (by decide)) (by rfl) C_check_unmarked.g C_check_unmarked.kp C_check_unmarked.b .nil pass0 (pa_cons (pv 0) pa_nil)))
      (pss_cons (ps_if (pt_not (pt_val (pe_call C_is_wordO.G (hr.mono (by decide)) (by rfl) C_is_wordO.g C_is_wordO.kp C_is_wordO.b .nil pass0 (pa_cons (pv 1) pa_nil)))) (pss_one ps_never) pss_nil)
      (pss_cons (ps_if (pt_not (pt_val (pe_call C_are_placesO.G (hr.mono (by decide)) (by rfl) C_are_placesO.g C_are_placesO.kp C_are_placesO.b .nil pass0 (pa_cons (pv 2) (pa_cons (pe_callB cl_len (by rfl) m_len PySem.boot_len (pa_cons (pv 0) pa_nil)) pa_nil))))) (pss_one (L2N.ps_raise rfl (L2N.takes_of rfl rfl rfl rfl) (Xa.pmk_n1 PySem.F.excBase_ValueError x_NoPlaces.x x_NoPlaces.g x_NoPlaces.k (raises_own x_NoPlaces.b x_NoPlaces.t) rfl pe_str))) pss_nil)
      (pss_one ps_never)))), fun x S0 hp hE => ?_⟩)
  walk_at "s"
  try dsimp only [BxN, cxOf]
  refine sr_seq ?_
  walk_at "w"
  refine ⟨[3, 1, 2], rfl, ⟨by decide, by decide⟩, ?_⟩
  walk_at "w"
  refine sr_seq ?_
  walk_at "w"
  refine ⟨.str "light", rfl, rfl, ?_⟩
  rw [show isWordD (.str "light") = true by decide +kernel]
  walk_at "w"
  refine sr_first (sr_if fun ss => ?_)
  walk_at "w"
  refine ⟨(x, 3), rfl, hp.1, ?_⟩
  dsimp only
  rw [hp.2]
  walk_at "w"
  refine sr_raise (ta := tC _) hE fun ss σ τ S E Q h => h _
theorem ok_sorted_byT {f : Addr} {fd : FuncData} (D : Df K mg "sorted_by" s_sorted_by ["many", "places"] f fd) {f_is_whole_withinO : Addr} {d_is_whole_withinO : FuncData} (C_is_whole_withinO : Cal P w K mg base 2 "is_whole_within" ["thing", "least", "most"] (spF K (fun p : Dat × Int × Int => [.dt p.1, .dt (.int p.2.1), .dt (.int p.2.2)]) (fun p => isK p.1 = true) fun p => .bool (isWithinD p.1 p.2.1 p.2.2)) f_is_whole_withinO d_is_whole_withinO) (c_MOST_THINGS : GlobI K mg "MOST_THINGS" 24) {C_TooMany : Addr} (x_TooMany : ExcF K mg "TooMany" C_TooMany) : CalR P w K mg base 3 "sorted_by" ["many", "places"] (spR K (fun d : Dat => [.dt d, .dt .none]) (BadMany) fun _ => C_TooMany) f fd := by
  refine D.calR (ok_R D.F sc_sorted_by (fun _ => rfl) (by decide) fun cdv A outer s H E hr => ⟨_, (pss_cons (ps_if (pt_not (pt_val (pe_call C_is_whole_withinO.G (hr.mono (by decide)) (by rfl) C_is_whole_withinO.g C_is_whole_withinO.kp C_is_whole_withinO.b .nil pass0 (pa_cons (pv 0) (pa_cons pe_int (pa_cons (pe_glob (v := .int (24)) (by rfl) c_MOST_THINGS.u.choose_spec ⟨_, rfl⟩) pa_nil)))))) (pss_one (L2N.ps_raise rfl (L2N.takes_of rfl rfl rfl rfl) (Xa.pmk_n1 PySem.F.excBase_ValueError x_TooMany.x x_TooMany.g x_TooMany.k (raises_own x_TooMany.b x_TooMany.t) rfl (pe_joined (PJ.cons pe_str (PJ.cons (pe_fmt (pe_glob (v := .int (24)) (by rfl) c_MOST_THINGS.u.choose_spec ⟨_, rfl⟩)) (PJ.cons pe_str PJ.nil))))))) pss_nil)
      (pss_cons ps_never
      (pss_cons ps_never
      (pss_cons ps_never
      (pss_one ps_never))))), fun x S0 hp hE => ?_⟩)
  walk_at "s"
  try dsimp only [BxN, cxOf]
  refine sr_first (sr_if fun ss => ?_)
  walk_at "w"
  refine ⟨(x, 0, 24), rfl, hp.1, ?_⟩
  dsimp only
  rw [show isWithinD x 0 24 = false from hp.2]
  walk_at "w"
  refine sr_raise (ta := fun σ H Q => tJs _ Str.empty σ H fun out H1 => Q (.str out) H1) hE fun ss σ τ S Ev Q h => ?_
  exact ⟨_, rfl, by decide, .inr ⟨24, rfl, by decide, _, rfl, by decide, _, rfl, by decide, h _⟩⟩
theorem ok_aheadT {f : Addr} {fd : FuncData} (D : Df K mg "ahead" s_ahead ["row", "places"] f fd) {f_how_many : Addr} {d_how_many : FuncData} (C_how_many : Cal P w K mg base 6 "how_many" ["row", "places"] (spF K (fun p : List Int × Nat => [.dt (.tuple (iL p.1)), .dt (.int p.2)]) (fun p => p.1.length ≤ 24 ∧ p.1.Nodup ∧ p.2 ≤ 9) fun p => .int (manyA p.1 p.2 : Nat)) f_how_many d_how_many) (c_MOST_ROWS : GlobI K mg "MOST_ROWS" 3000) {C_TooMany : Addr} (x_TooMany : ExcF K mg "TooMany" C_TooMany) : CalR P w K mg base 7 "ahead" ["row", "places"] (spR K (fun p : List Int × Nat => [.dt (.tuple (iL p.1)), .dt (.int p.2)]) (fun p => p.1.length ≤ 24 ∧ p.1.Nodup ∧ p.2 ≤ 9 ∧ 3000 < manyA p.1 p.2) fun _ => C_TooMany) f fd := by
  refine D.calR (ok_R D.F sc_ahead (fun _ => rfl) (by decide) fun cdv A outer s H E hr => ⟨_, (pss_cons (ps_set (i := 2) sc_ahead.nd rfl (Or.inl rfl) (pe_call C_how_many.G (hr.mono (by decide)) (by rfl) C_how_many.g C_how_many.kp C_how_many.b .nil pass0 (pa_cons (pv 0) (pa_cons (pv 1) pa_nil))))
      (pss_cons (ps_if (pt_cmpR op_gt (pv 2) (pe_glob (v := .int (3000)) (by rfl) c_MOST_ROWS.u.choose_spec ⟨_, rfl⟩) (nomark _)) (pss_one (L2N.ps_raise rfl (L2N.takes_of rfl rfl rfl rfl) (Xa.pmk_n1 PySem.F.excBase_ValueError x_TooMany.x x_TooMany.g x_TooMany.k (raises_own x_TooMany.b x_TooMany.t) rfl (pe_joined (PJ.cons pe_str (PJ.cons (pe_fmt (pe_glob (v := .int (3000)) (by rfl) c_MOST_ROWS.u.choose_spec ⟨_, rfl⟩)) (PJ.cons pe_str PJ.nil))))))) pss_nil)
      (pss_cons ps_never
      (pss_cons ps_never
      (pss_cons ps_never
      (pss_one ps_never)))))), fun x S0 hp hE => ?_⟩)
  obtain ⟨N, b⟩ := x
  obtain ⟨h1, h2, h3, h4⟩ := hp
  dsimp only at h1 h2 h3 h4 hE ⊢
  refine sr_seq ?_
  walk_at "s"
  walk_at "w"
  refine ⟨(N, b), rfl, ⟨h1, h2, h3⟩, ?_⟩
  walk_at "w"
  refine sr_first (sr_if fun ss => ?_)
  walk_at "w"
  · refine sr_raise (ta := fun σ H Q => tJs _ Str.empty σ H fun out H1 => Q (.str out) H1) hE fun ss σ τ S E Q h => ?_
    refine ⟨_, rfl, by decide, .inr ⟨3000, rfl, by decide, _, rfl, by decide, _, rfl, by decide, h _⟩⟩
  · exact absurd ‹decide ((3000 : Int) < ((manyA N b : Nat) : Int)) = false› (by simp; omega)
theorem ok_row_ofC {f : Addr} {fd : FuncData} (D : Df K mg "row_of" s_row_of ["numbers", "counts"] f fd) {f_are_countsO : Addr} {d_are_countsO : FuncData} (C_are_countsO : Cal P w K mg base 3 "_are_counts" ["thing", "many"] (spF K (fun p : Dat × Nat => [.dt p.1, .dt (.int p.2)]) (fun p => okD p.1 = true) fun p => .bool (areCntD p.1 p.2)) f_are_countsO d_are_countsO) {f_check_unmarked : Addr} {d_check_unmarked : FuncData} (C_check_unmarked : Cal P w K mg base 4 "check_unmarked" ["row"] (spF K (fun r : List Int => [.dt (.tuple (iL r))]) (fun r => r.length ≤ 24 ∧ r.Nodup) fun _ => .none) f_check_unmarked d_check_unmarked) (m_len : mg "len" = none) {C_NoCounts : Addr} (x_NoCounts : ExcF K mg "NoCounts" C_NoCounts) : CalR P w K mg base 5 "row_of" ["numbers", "counts"] (spR K (fun d : Dat => [.dt row3, .dt d]) (BadCnt) fun _ => C_NoCounts) f fd := by
  refine D.calR (ok_R D.F sc_row_of (fun _ => rfl) (by decide) fun cdv A outer s H E hr => ⟨_, (pss_cons (ps_expr (pe_call C_check_unmarked.G (hr.mono (by decide)) (by rfl) C_check_unmarked.g C_check_unmarked.kp C_check_unmarked.b .nil pass0 (pa_cons (pv 0) pa_nil)))
      (pss_cons (ps_if (pt_not (pt_val (pe_call C_are_countsO.G (hr.mono (by decide)) (by rfl) C_are_countsO.g C_are_countsO.kp C_are_countsO.b .nil pass0 (pa_cons (pv 1) (pa_cons (pe_callB cl_len (by rfl) m_len PySem.boot_len (pa_cons (pv 0) pa_nil)) pa_nil))))) (pss_one (L2N.ps_raise rfl (L2N.takes_of rfl rfl rfl rfl) (Xa.pmk_n1 PySem.F.excBase_ValueError x_NoCounts.x x_NoCounts.g x_NoCounts.k (raises_own x_NoCounts.b x_NoCounts.t) rfl pe_str))) pss_nil)
      (pss_cons ps_never
      (pss_cons ps_never
      (pss_one ps_never))))), fun x S0 hp hE => ?_⟩)
  walk_at "s"
  try dsimp only [BxN, cxOf]
  refine sr_seq ?_
  walk_at "w"
  refine ⟨[3, 1, 2], rfl, ⟨by decide, by decide⟩, ?_⟩
  walk_at "w"
  refine sr_first (sr_if fun ss => ?_)
  walk_at "w"
  refine ⟨(x, 3), rfl, hp.1, ?_⟩
  dsimp only
  rw [hp.2]
  walk_at "w"
  refine sr_raise (ta := tC _) hE fun ss σ τ S E Q h => h _
theorem ok_comes_outN {f : Addr} {fd : FuncData} (D : Df K mg "comes_out" s_comes_out ["row", "places", "letting"] f fd) {f_check_places : Addr} {d_check_places : FuncData} (C_check_places : CalD P w K mg base 3 "check_places" ["places", "least"] (spF K (fun p : Nat × Nat => [.dt (.int p.1), .dt (.int p.2)]) (fun p => p.2 ≤ p.1 ∧ p.1 ≤ 9) fun _ => .none) (0) f_check_places d_check_places) {f_check_unmarked : Addr} {d_check_unmarked : FuncData} (C_check_unmarked : Cal P w K mg base 4 "check_unmarked" ["row"] (spF K (fun r : List Int => [.dt (.tuple (iL r))]) (fun r => r.length ≤ 24 ∧ r.Nodup) fun _ => .none) f_check_unmarked d_check_unmarked) {f_is_lettingO : Addr} {d_is_lettingO : FuncData} (C_is_lettingO : Cal P w K mg base 2 "_is_letting" ["row", "places", "letting"] (spF K (fun p : List Int × Nat × Dat => [.dt (.tuple (iL p.1)), .dt (.int p.2.1), .dt p.2.2]) (fun p => p.1.length ≤ 24 ∧ okD p.2.2 = true ∧ ∀ r, p.2.2 = .tuple r → ∀ d ∈ r, SeqAt.shaped d = true) fun p => .bool (isLetD p.1 p.2.1 p.2.2)) f_is_lettingO d_is_lettingO) {C_NoLetting : Addr} (x_NoLetting : ExcF K mg "NoLetting" C_NoLetting) : CalR P w K mg base 5 "comes_out" ["row", "places", "letting"] (spR K (fun d : Dat => [.dt row3, .dt (.int 1), .dt d]) (BadLet) fun _ => C_NoLetting) f fd := by
  refine D.calR (ok_R D.F sc_comes_out (fun _ => rfl) (by decide) fun cdv A outer s H E hr => ⟨_, (pss_cons (ps_expr (pe_call C_check_unmarked.G (hr.mono (by decide)) (by rfl) C_check_unmarked.g C_check_unmarked.kp C_check_unmarked.b .nil pass0 (pa_cons (pv 0) pa_nil)))
      (pss_cons (ps_expr (pe_call C_check_places.G (hr.mono (by decide)) (by rfl) C_check_places.g C_check_places.kp C_check_places.b1.choose_spec.2 C_check_places.b1.choose_spec.1 pass0 (pa_cons (pv 1) pa_nil)))
      (pss_cons (ps_if (pt_not (pt_val (pe_call C_is_lettingO.G (hr.mono (by decide)) (by rfl) C_is_lettingO.g C_is_lettingO.kp C_is_lettingO.b .nil pass0 (pa_cons (pv 0) (pa_cons (pv 1) (pa_cons (pv 2) pa_nil)))))) (pss_one (L2N.ps_raise rfl (L2N.takes_of rfl rfl rfl rfl) (Xa.pmk_n1 PySem.F.excBase_ValueError x_NoLetting.x x_NoLetting.g x_NoLetting.k (raises_own x_NoLetting.b x_NoLetting.t) rfl pe_str))) pss_nil)
      (pss_one ps_never)))), fun x S0 hp hE => ?_⟩)
  walk_at "s"
  try dsimp only [BxN, cxOf]
  refine sr_seq ?_
  walk_at "w"
  refine ⟨[3, 1, 2], rfl, ⟨by decide, by decide⟩, ?_⟩
  walk_at "w"
  refine sr_seq ?_
  walk_at "w"
  refine ⟨(1, 0), rfl, ⟨by decide, by decide⟩, ?_⟩
  walk_at "w"
  refine sr_first (sr_if fun ss => ?_)
  walk_at "w"
  refine ⟨([3, 1, 2], 1, x), rfl, ⟨by simp, hp.1⟩, ?_⟩
  dsimp only
  rw [hp.2]
  walk_at "w"
  refine sr_raise (ta := tC _) hE fun ss σ τ S E Q h => h _
theorem ok_gainedN {f : Addr} {fd : FuncData} (D : Df K mg "gained" s_gained ["row", "places", "letting"] f fd) {C_NoLetting : Addr} {f_comes_outN : Addr} {d_comes_outN : FuncData} (C_comes_outN : CalR P w K mg base 5 "comes_out" ["row", "places", "letting"] (spR K (fun d : Dat => [.dt row3, .dt (.int 1), .dt d]) (BadLet) fun _ => C_NoLetting) f_comes_outN d_comes_outN) : CalR P w K mg base 6 "gained" ["row", "places", "letting"] (spR K (fun d : Dat => [.dt row3, .dt (.int 1), .dt d]) (BadLet) fun _ => C_NoLetting) f fd := by
  refine D.calR (ok_R D.F sc_gained (fun _ => rfl) (by decide) fun cdv A outer s H E hr => ⟨_, (pss_cons (ps_set (i := 3) sc_gained.nd rfl (Or.inl rfl) (pe_callS C_comes_outN.G (hr.mono (by decide)) (by rfl) C_comes_outN.g C_comes_outN.kp C_comes_outN.b (fun σ => L2N.passAt (L2N.takes_of rfl rfl rfl rfl) σ) (pa_cons (pv 0) (pa_cons (pv 1) (pa_cons (pv 2) pa_nil)))))
      (pss_cons ps_never
      (pss_one ps_never))), fun x S0 hp hE => ?_⟩)
  walk_at "s"
  refine sr_first (sr_asg fun ss => er_call ?_)
  walk_at "w"
  exact ⟨x, rfl, hp, hE⟩
theorem ok_moveV {f : Addr} {fd : FuncData} (D : Df K mg "move" s_move ["row", "one", "other"] f fd) {f_check_unmarked : Addr} {d_check_unmarked : FuncData} (C_check_unmarked : Cal P w K mg base 4 "check_unmarked" ["row"] (spF K (fun r : List Int => [.dt (.tuple (iL r))]) (fun r => r.length ≤ 24 ∧ r.Nodup) fun _ => .none) f_check_unmarked d_check_unmarked) {f_is_whole_withinO : Addr} {d_is_whole_withinO : FuncData} (C_is_whole_withinO : Cal P w K mg base 2 "is_whole_within" ["thing", "least", "most"] (spF K (fun p : Dat × Int × Int => [.dt p.1, .dt (.int p.2.1), .dt (.int p.2.2)]) (fun p => isK p.1 = true) fun p => .bool (isWithinD p.1 p.2.1 p.2.2)) f_is_whole_withinO d_is_whole_withinO) (m_len : mg "len" = none) {C_NoMove : Addr} (x_NoMove : ExcF K mg "NoMove" C_NoMove) : CalR P w K mg base 5 "move" ["row", "one", "other"] (spR K (fun p : Dat × Dat => [.dt row3, .dt p.1, .dt p.2]) (BadMv) fun _ => C_NoMove) f fd := by
  refine D.calR (ok_R D.F sc_move (fun _ => rfl) (by decide) fun cdv A outer s H E hr => ⟨_, (pss_cons (ps_expr (pe_call C_check_unmarked.G (hr.mono (by decide)) (by rfl) C_check_unmarked.g C_check_unmarked.kp C_check_unmarked.b .nil pass0 (pa_cons (pv 0) pa_nil)))
      (pss_cons (ps_set (i := 3) sc_move.nd rfl (Or.inl rfl) (pe_op op_sub (pe_callB cl_len (by rfl) m_len PySem.boot_len (pa_cons (pv 0) pa_nil)) pe_int))
      (pss_cons (ps_if (PW.pt (pw_or (pt_not (pt_val (pe_call C_is_whole_withinO.G (hr.mono (by decide)) (by rfl) C_is_whole_withinO.g C_is_whole_withinO.kp C_is_whole_withinO.b .nil pass0 (pa_cons (pv 1) (pa_cons pe_int (pa_cons (pv 3) pa_nil)))))) (pw_or1 (pt_not (pt_val (pe_call C_is_whole_withinO.G (hr.mono (by decide)) (by rfl) C_is_whole_withinO.g C_is_whole_withinO.kp C_is_whole_withinO.b .nil pass0 (pa_cons (pv 2) (pa_cons pe_int (pa_cons (pv 3) pa_nil))))))))) (pss_one (L2N.ps_raise rfl (L2N.takes_of rfl rfl rfl rfl) (Xa.pmk_n1 PySem.F.excBase_ValueError x_NoMove.x x_NoMove.g x_NoMove.k (raises_own x_NoMove.b x_NoMove.t) rfl pe_str))) pss_nil)
      (pss_one ps_never)))), fun x S0 hp hE => ?_⟩)
  walk_at "s"
  try dsimp only [BxN, cxOf]
  refine sr_seq ?_
  walk_at "w"
  refine ⟨[3, 1, 2], rfl, ⟨by decide, by decide⟩, ?_⟩
  walk_at "w"
  refine sr_seq ?_
  walk_at "w"
  walk_at "s"
  refine sr_first (sr_if fun ss => ?_)
  walk_at "w"
  obtain ⟨a, b⟩ := x
  obtain ⟨h1, h2, h3⟩ := hp
  dsimp only at h1 h2 h3 hE ⊢
  refine ⟨(a, 0, 2), rfl, h1, ?_⟩
  dsimp only
  cases ha : isWithinD a 0 2 with
  | false =>
    walk_at "w"
    refine sr_raise (ta := tC _) hE fun ss σ τ S E Q h => h _
  | true =>
    rw [ha, Bool.true_and] at h3
    walk_at "w"
    refine ⟨(b, 0, 2), rfl, h2, ?_⟩
    dsimp only
    rw [h3]
    walk_at "w"
    refine sr_raise (ta := tC _) hE fun ss σ τ S E Q h => h _
theorem ok_Line___init__R {f : Addr} {fd : FuncData} {C_Line : Addr} (D : DfM K C_Line "__init__" "Line.__init__" s_Line___init__ ["self", "shelves"] f fd) {C_NoLine : Addr} {f_check_lineL : Addr} {d_check_lineL : FuncData} (C_check_lineL : CalR P w K mg base 6 "check_line" ["line"] (spR K (fun d : Dat => [.dt d]) (BadLine) fun _ => C_NoLine) f_check_lineL d_check_lineL) : CalMR P w K mg base 7 C_Line "__init__" ["self", "shelves"] (spInitR K C_Line BadLine C_NoLine) f fd := by
  refine D.calR (ok_IR D.F sc_Line___init__ rfl (by decide) fun cdv A outer s H E hr => ⟨_, (pss_cons (ps_expr (pe_callS C_check_lineL.G (hr.mono (by decide)) (by rfl) C_check_lineL.g C_check_lineL.kp C_check_lineL.b (fun σ => L2N.passAt (L2N.takes_of rfl rfl rfl rfl) σ) (pa_cons (pv 1) pa_nil)))
      (pss_cons ps_never
      (pss_cons ps_never
      (pss_cons ps_never
      (pss_cons ps_never
      (pss_one ps_never)))))), fun x S0 hp hE => ?_⟩)
  walk_at "s"
  refine sr_first (sr_drop fun ss => er_call ?_)
  walk_at "w"
  exact ⟨x, rfl, hp, hE⟩
theorem ok_ask0 {f : Addr} {fd : FuncData} (D : Df K mg "_law_ask" s__law_ask ["_law_what", "_law_one", "_law_two", "_law_three"] f fd) {C_Marked : Addr} {C_NoRow : Addr} {f_countsR : Addr} {d_countsR : FuncData} (C_countsR : CalR P w K mg base 4 "counts" ["row"] (spR K (fun d : Dat => [.dt d]) (BadRow) fun _ => C_NoRow) f_countsR d_countsR) {f_mendedM : Addr} {d_mendedM : FuncData} (C_mendedM : CalR P w K mg base 5 "mended" ["row"] (spR K (fun _ : Unit => [.dt rowM]) (fun _ => True) fun _ => C_Marked) f_mendedM d_mendedM) {f_mendedR : Addr} {d_mendedR : FuncData} (C_mendedR : CalR P w K mg base 5 "mended" ["row"] (spR K (fun d : Dat => [.dt d]) (BadRow) fun _ => C_NoRow) f_mendedR d_mendedR) {f_near_countsR : Addr} {d_near_countsR : FuncData} (C_near_countsR : CalR P w K mg base 5 "near_counts" ["row"] (spR K (fun d : Dat => [.dt d]) (BadRow) fun _ => C_NoRow) f_near_countsR d_near_countsR) {f_placesR : Addr} {d_placesR : FuncData} (C_placesR : CalR P w K mg base 4 "places" ["row"] (spR K (fun d : Dat => [.dt d]) (BadRow) fun _ => C_NoRow) f_placesR d_placesR) {f_row_textR : Addr} {d_row_textR : FuncData} (C_row_textR : CalR P w K mg base 4 "row_text" ["row"] (spR K (fun d : Dat => [.dt d]) (BadRow) fun _ => C_NoRow) f_row_textR d_row_textR) {f_stretchesR : Addr} {d_stretchesR : FuncData} (C_stretchesR : CalR P w K mg base 4 "stretches" ["row"] (spR K (fun d : Dat => [.dt d]) (BadRow) fun _ => C_NoRow) f_stretchesR d_stretchesR) {C_ShelfError : Addr} (g_ShelfError : mg "ShelfError" = some (.ref C_ShelfError)) {idx : Addr → Option Int} {f_w : Addr} {d_w : FuncData} (W_which : Xa.FnE P w K mg base 1 f_w d_w ["_law_e"] (spE idx)) (w_g : mg "_law_which" = some (.ref f_w)) (w_k : PySem.W.keepIn K (.ref f_w) = true) (w_b : Binds K d_w ["_law_e"] []) (w_eMarked : PySem.W.exmOne K (.ref C_Marked) (.ref C_ShelfError) = some true) (w_iMarked : idx C_Marked = some 4) (w_eNoRow : PySem.W.exmOne K (.ref C_NoRow) (.ref C_ShelfError) = some true) (w_iNoRow : idx C_NoRow = some 0) : Cal P w K mg base 6 "_law_ask" ["_law_what", "_law_one", "_law_two", "_law_three"] (spF K refA (refG 0 6) refV) f fd := by
  cases C_mendedM.g.symm.trans C_mendedR.g
  refine D.cal (ok_G D.F sc__law_ask refA_len (by decide) fun cdv A outer s H E hr => ⟨_, (pss_one (L2N.ps_try_as (i := 4) (ts := fun a cl d => tRet (tCall (spE idx a cl d) [] E0 (tCons (tVar 4) tNil))) rfl rfl sc__law_ask.nd rfl rfl ⟨rfl, by decide, .inl g_ShelfError⟩ Xa.takes0N (fun W pn xe tk _ => (pss_cons (ps_if (pt_cmpR op_lt (pv 0) pe_int (nomark _)) (pss_one (ps_ret (Xa.pe_callAny (E := fun σ => WE W σ) (Xa.ccons (Xa.calW C_countsR.G (hr.mono (by decide)) C_countsR.kp C_countsR.b tk) (Xa.ccons (Xa.calW C_near_countsR.G (hr.mono (by decide)) C_near_countsR.kp C_near_countsR.b tk) (Xa.ccons (Xa.calW C_stretchesR.G (hr.mono (by decide)) C_stretchesR.kp C_stretchesR.b tk) (Xa.ccons (Xa.calW C_placesR.G (hr.mono (by decide)) C_placesR.kp C_placesR.b tk) (Xa.ccons (Xa.calW C_row_textR.G (hr.mono (by decide)) C_row_textR.kp C_row_textR.b tk) (Xa.ccons (Xa.calW C_mendedR.G (hr.mono (by decide)) C_mendedR.kp C_mendedR.b tk) (Xa.ccons (Xa.calW C_mendedM.G (hr.mono (by decide)) C_mendedM.kp C_mendedM.b tk) Xa.cnil))))))) (pe_ix (ix_listK (K := K) rfl) (pe_lst (pa_cons (pe_glob (v := .ref f_countsR) (by rfl) C_countsR.g rfl) (pa_cons (pe_glob (v := .ref f_near_countsR) (by rfl) C_near_countsR.g rfl) (pa_cons (pe_glob (v := .ref f_stretchesR) (by rfl) C_stretchesR.g rfl) (pa_cons (pe_glob (v := .ref f_placesR) (by rfl) C_placesR.g rfl) (pa_cons (pe_glob (v := .ref f_row_textR) (by rfl) C_row_textR.g rfl) (pa_cons (pe_glob (v := .ref f_mendedM) (by rfl) C_mendedM.g rfl) pa_nil))))))) (pv 0) (fun _ _ => rfl)) (pa_cons (pv 1) pa_nil)))) pss_nil) (pss_cons ps_never (pss_cons ps_never (pss_cons ps_never (pss_cons ps_never (pss_cons ps_never (pss_one ps_never)))))))) (fun a oe cls d pn hz hf => (pss_one (ps_ret (Xa.pe_callE (p := (a, oe)) (cls := cls) (d := d) W_which (L2H.RoomH.mono (Ld.roomX hr _) (by decide)) ⟨rfl, hf.choose, hf.choose_spec, hz.2.2 _ hf.choose_spec⟩ List.mem_cons_self hz (by rfl) w_g w_k w_b (pa_cons (pv 4) pa_nil))))))), fun x hp => ?_⟩)
  obtain ⟨k, a, b, c, v⟩ := x
  obtain ⟨hp, h0, h1⟩ := hp
  have hp : RefR k a b c v := hp
  dsimp only at h0 h1
  show VSs K [.dt (.int k), .dt a, .dt b, .dt c, .no] _ _
  refine ss_tryTake (fun ss => ?_) ?_
  · walk_at "w"
    exact ⟨decide_eq_true (by omega), rfl⟩
  cases hp with
  | row hk hn hb =>
    obtain rfl | rfl | rfl | rfl | rfl | rfl : k = 0 ∨ k = 1 ∨ k = 2 ∨ k = 3 ∨ k = 4 ∨ k = 5 := by omega
    · refine ss_tryTabX (fs := [f_countsR, f_near_countsR, f_stretchesR, f_placesR, f_row_textR, f_mendedM]) (j := 0) (f := f_countsR) (by show 4 < 5; decide) (by simp) (ixd_var rfl) rfl List.mem_cons_self (fun ss => ?_)
      walk_at "w"
      exact ⟨a, 0, rfl, hb, w_eNoRow, w_iNoRow, rfl⟩
    · refine ss_tryTabX (fs := [f_countsR, f_near_countsR, f_stretchesR, f_placesR, f_row_textR, f_mendedM]) (j := 1) (f := f_near_countsR) (by show 4 < 5; decide) (by simp) (ixd_var rfl) rfl (List.mem_cons_of_mem _ List.mem_cons_self) (fun ss => ?_)
      walk_at "w"
      exact ⟨a, 0, rfl, hb, w_eNoRow, w_iNoRow, rfl⟩
    · refine ss_tryTabX (fs := [f_countsR, f_near_countsR, f_stretchesR, f_placesR, f_row_textR, f_mendedM]) (j := 2) (f := f_stretchesR) (by show 4 < 5; decide) (by simp) (ixd_var rfl) rfl (List.mem_cons_of_mem _ (List.mem_cons_of_mem _ List.mem_cons_self)) (fun ss => ?_)
      walk_at "w"
      exact ⟨a, 0, rfl, hb, w_eNoRow, w_iNoRow, rfl⟩
    · refine ss_tryTabX (fs := [f_countsR, f_near_countsR, f_stretchesR, f_placesR, f_row_textR, f_mendedM]) (j := 3) (f := f_placesR) (by show 4 < 5; decide) (by simp) (ixd_var rfl) rfl (List.mem_cons_of_mem _ (List.mem_cons_of_mem _ (List.mem_cons_of_mem _ List.mem_cons_self))) (fun ss => ?_)
      walk_at "w"
      exact ⟨a, 0, rfl, hb, w_eNoRow, w_iNoRow, rfl⟩
    · refine ss_tryTabX (fs := [f_countsR, f_near_countsR, f_stretchesR, f_placesR, f_row_textR, f_mendedM]) (j := 4) (f := f_row_textR) (by show 4 < 5; decide) (by simp) (ixd_var rfl) rfl (List.mem_cons_of_mem _ (List.mem_cons_of_mem _ (List.mem_cons_of_mem _ (List.mem_cons_of_mem _ List.mem_cons_self)))) (fun ss => ?_)
      walk_at "w"
      exact ⟨a, 0, rfl, hb, w_eNoRow, w_iNoRow, rfl⟩
    · refine ss_tryTabX (fs := [f_countsR, f_near_countsR, f_stretchesR, f_placesR, f_row_textR, f_mendedM]) (j := 5) (f := f_mendedM) (by show 4 < 5; decide) (by simp) (ixd_var rfl) rfl (List.mem_cons_of_mem _ (List.mem_cons_of_mem _ (List.mem_cons_of_mem _ (List.mem_cons_of_mem _ (List.mem_cons_of_mem _ List.mem_cons_self))))) (fun ss => ?_)
      walk_at "w"
      exact ⟨a, 0, rfl, hb, w_eNoRow, w_iNoRow, rfl⟩
  | mark hk =>
    obtain rfl : k = 5 := by omega
    refine ss_tryTabX (fs := [f_countsR, f_near_countsR, f_stretchesR, f_placesR, f_row_textR, f_mendedM]) (j := 5) (f := f_mendedM) (by show 4 < 5; decide) (by simp) (ixd_var rfl) rfl (List.mem_cons_of_mem _ (List.mem_cons_of_mem _ (List.mem_cons_of_mem _ (List.mem_cons_of_mem _ (List.mem_cons_of_mem _ (List.mem_cons_of_mem _ List.mem_cons_self)))))) (fun ss => ?_)
    walk_at "w"
    exact ⟨(), 4, rfl, trivial, w_eMarked, w_iMarked, rfl⟩
  | shelf hk hb =>
    omega
  | line8 hb =>
    omega
  | line hk hk2 hb =>
    omega
  | places9 hb =>
    omega
  | places hk hb =>
    omega
  | places15 hb =>
    omega
  | many hb =>
    omega
  | counts hb =>
    omega
  | ahead =>
    omega
  | rowOf =>
    omega
  | letting hk hk2 hb =>
    omega
  | let1 =>
    omega
  | let2 =>
    omega
  | mv hb =>
    omega
  | mv1 =>
    omega
  | mv2 =>
    omega
  | wrow hk hb =>
    omega
  | wmark hk =>
    omega
  | word hb =>
    omega
  | pls hb =>
    omega
  | pw =>
    omega
  | need =>
    omega
theorem ok_ask1 {f : Addr} {fd : FuncData} (D : Df K mg "_law_ask" s__law_ask ["_law_what", "_law_one", "_law_two", "_law_three"] f fd) {C_Marked : Addr} {C_NoCounts : Addr} {C_NoLine : Addr} {C_NoPlaces : Addr} {C_NoRow : Addr} {C_NoShelf : Addr} {C_TooMany : Addr} {f_aheadM : Addr} {d_aheadM : FuncData} (C_aheadM : CalR P w K mg base 6 "ahead" ["row", "places"] (spR K (fun _ : Unit => [.dt rowM, .dt .none]) (fun _ => True) fun _ => C_Marked) f_aheadM d_aheadM) {f_aheadP : Addr} {d_aheadP : FuncData} (C_aheadP : CalR P w K mg base 6 "ahead" ["row", "places"] (spR K (fun d : Dat => [.dt row3, .dt d]) (BadPl 0) fun _ => C_NoPlaces) f_aheadP d_aheadP) {f_aheadR : Addr} {d_aheadR : FuncData} (C_aheadR : CalR P w K mg base 6 "ahead" ["row", "places"] (spR K (fun d : Dat => [.dt d, .dt .none]) (BadRow) fun _ => C_NoRow) f_aheadR d_aheadR) {f_aheadT : Addr} {d_aheadT : FuncData} (C_aheadT : CalR P w K mg base 7 "ahead" ["row", "places"] (spR K (fun p : List Int × Nat => [.dt (.tuple (iL p.1)), .dt (.int p.2)]) (fun p => p.1.length ≤ 24 ∧ p.1.Nodup ∧ p.2 ≤ 9 ∧ 3000 < manyA p.1 p.2) fun _ => C_TooMany) f_aheadT d_aheadT) {f_how_manyM : Addr} {d_how_manyM : FuncData} (C_how_manyM : CalR P w K mg base 5 "how_many" ["row", "places"] (spR K (fun _ : Unit => [.dt rowM, .dt .none]) (fun _ => True) fun _ => C_Marked) f_how_manyM d_how_manyM) {f_how_manyP : Addr} {d_how_manyP : FuncData} (C_how_manyP : CalR P w K mg base 5 "how_many" ["row", "places"] (spR K (fun d : Dat => [.dt row3, .dt d]) (BadPl 0) fun _ => C_NoPlaces) f_how_manyP d_how_manyP) {f_how_manyR : Addr} {d_how_manyR : FuncData} (C_how_manyR : CalR P w K mg base 5 "how_many" ["row", "places"] (spR K (fun d : Dat => [.dt d, .dt .none]) (BadRow) fun _ => C_NoRow) f_how_manyR d_how_manyR) {f_movedR : Addr} {d_movedR : FuncData} (C_movedR : CalR P w K mg base 5 "moved" ["row", "shelf"] (spR K (fun d : Dat => [.dt d, .dt .none]) (BadRow) fun _ => C_NoRow) f_movedR d_movedR) {f_movedS : Addr} {d_movedS : FuncData} (C_movedS : CalR P w K mg base 7 "moved" ["row", "shelf"] (spR K (fun d : Dat => [.dt row3, .dt d]) (BadShelf) fun _ => C_NoShelf) f_movedS d_movedS) {f_own_wayM : Addr} {d_own_wayM : FuncData} (C_own_wayM : CalR P w K mg base 5 "own_way" ["row", "places"] (spR K (fun _ : Unit => [.dt rowM, .dt .none]) (fun _ => True) fun _ => C_Marked) f_own_wayM d_own_wayM) {f_own_wayP : Addr} {d_own_wayP : FuncData} (C_own_wayP : CalR P w K mg base 5 "own_way" ["row", "places"] (spR K (fun d : Dat => [.dt row3, .dt d]) (BadPl 0) fun _ => C_NoPlaces) f_own_wayP d_own_wayP) {f_own_wayR : Addr} {d_own_wayR : FuncData} (C_own_wayR : CalR P w K mg base 5 "own_way" ["row", "places"] (spR K (fun d : Dat => [.dt d, .dt .none]) (BadRow) fun _ => C_NoRow) f_own_wayR d_own_wayR) {f_pastR : Addr} {d_pastR : FuncData} (C_pastR : CalR P w K mg base 4 "past" ["row", "shelf"] (spR K (fun d : Dat => [.dt d, .dt .none]) (BadRow) fun _ => C_NoRow) f_pastR d_pastR) {f_pastS : Addr} {d_pastS : FuncData} (C_pastS : CalR P w K mg base 6 "past" ["row", "shelf"] (spR K (fun d : Dat => [.dt row3, .dt d]) (BadShelf) fun _ => C_NoShelf) f_pastS d_pastS) {f_row_of : Addr} {d_row_of : FuncData} (C_row_of : Cal P w K mg base 5 "row_of" ["numbers", "counts"] (spF K (fun p : List Int × List Int => [.dt (.tuple (iL p.1)), .dt (.list (iL p.2))]) (fun p => p.1.length ≤ 24 ∧ p.1.Nodup ∧ CntOk p.2 p.1.length) fun p => .tuple (iL (rowF (dsc p.1) p.2))) f_row_of d_row_of) {f_row_ofC : Addr} {d_row_ofC : FuncData} (C_row_ofC : CalR P w K mg base 5 "row_of" ["numbers", "counts"] (spR K (fun d : Dat => [.dt row3, .dt d]) (BadCnt) fun _ => C_NoCounts) f_row_ofC d_row_ofC) {f_row_ofM : Addr} {d_row_ofM : FuncData} (C_row_ofM : CalR P w K mg base 5 "row_of" ["numbers", "counts"] (spR K (fun _ : Unit => [.dt rowM, .dt .none]) (fun _ => True) fun _ => C_Marked) f_row_ofM d_row_ofM) {f_row_ofR : Addr} {d_row_ofR : FuncData} (C_row_ofR : CalR P w K mg base 5 "row_of" ["numbers", "counts"] (spR K (fun d : Dat => [.dt d, .dt .none]) (BadRow) fun _ => C_NoRow) f_row_ofR d_row_ofR) {f_shelvesP : Addr} {d_shelvesP : FuncData} (C_shelvesP : CalR P w K mg base 4 "shelves" ["row", "places"] (spR K (fun d : Dat => [.dt row3, .dt d]) (BadPl 1) fun _ => C_NoPlaces) f_shelvesP d_shelvesP) {f_shelvesR : Addr} {d_shelvesR : FuncData} (C_shelvesR : CalR P w K mg base 4 "shelves" ["row", "places"] (spR K (fun d : Dat => [.dt d, .dt .none]) (BadRow) fun _ => C_NoRow) f_shelvesR d_shelvesR) {f_throughL : Addr} {d_throughL : FuncData} (C_throughL : CalR P w K mg base 7 "through" ["row", "line"] (spR K (fun d : Dat => [.dt row3, .dt d]) (BadLine) fun _ => C_NoLine) f_throughL d_throughL) {f_throughR : Addr} {d_throughR : FuncData} (C_throughR : CalR P w K mg base 4 "through" ["row", "line"] (spR K (fun d : Dat => [.dt d, .dt .none]) (BadRow) fun _ => C_NoRow) f_throughR d_throughR) {C_ShelfError : Addr} (g_ShelfError : mg "ShelfError" = some (.ref C_ShelfError)) {idx : Addr → Option Int} {f_w : Addr} {d_w : FuncData} (W_which : Xa.FnE P w K mg base 1 f_w d_w ["_law_e"] (spE idx)) (w_g : mg "_law_which" = some (.ref f_w)) (w_k : PySem.W.keepIn K (.ref f_w) = true) (w_b : Binds K d_w ["_law_e"] []) (w_eMarked : PySem.W.exmOne K (.ref C_Marked) (.ref C_ShelfError) = some true) (w_iMarked : idx C_Marked = some 4) (w_eNoCounts : PySem.W.exmOne K (.ref C_NoCounts) (.ref C_ShelfError) = some true) (w_iNoCounts : idx C_NoCounts = some 5) (w_eNoLine : PySem.W.exmOne K (.ref C_NoLine) (.ref C_ShelfError) = some true) (w_iNoLine : idx C_NoLine = some 2) (w_eNoPlaces : PySem.W.exmOne K (.ref C_NoPlaces) (.ref C_ShelfError) = some true) (w_iNoPlaces : idx C_NoPlaces = some 3) (w_eNoRow : PySem.W.exmOne K (.ref C_NoRow) (.ref C_ShelfError) = some true) (w_iNoRow : idx C_NoRow = some 0) (w_eNoShelf : PySem.W.exmOne K (.ref C_NoShelf) (.ref C_ShelfError) = some true) (w_iNoShelf : idx C_NoShelf = some 1) (w_eTooMany : PySem.W.exmOne K (.ref C_TooMany) (.ref C_ShelfError) = some true) (w_iTooMany : idx C_TooMany = some 7) : Cal P w K mg base 8 "_law_ask" ["_law_what", "_law_one", "_law_two", "_law_three"] (spF K refA (refG 6 14) refV) f fd := by
  cases C_pastR.g.symm.trans C_pastS.g
  cases C_movedR.g.symm.trans C_movedS.g
  cases C_throughL.g.symm.trans C_throughR.g
  cases C_shelvesP.g.symm.trans C_shelvesR.g
  cases C_row_of.g.symm.trans C_row_ofC.g
  cases C_row_of.g.symm.trans C_row_ofM.g
  cases C_row_of.g.symm.trans C_row_ofR.g
  cases C_own_wayM.g.symm.trans C_own_wayP.g
  cases C_own_wayM.g.symm.trans C_own_wayR.g
  cases C_how_manyM.g.symm.trans C_how_manyP.g
  cases C_how_manyM.g.symm.trans C_how_manyR.g
  cases C_aheadM.g.symm.trans C_aheadP.g
  cases C_aheadM.g.symm.trans C_aheadR.g
  cases C_aheadM.g.symm.trans C_aheadT.g
  refine D.cal (ok_G D.F sc__law_ask refA_len (by decide) fun cdv A outer s H E hr => ⟨_, (pss_one (L2N.ps_try_as (i := 4) (ts := fun a cl d => tRet (tCall (spE idx a cl d) [] E0 (tCons (tVar 4) tNil))) rfl rfl sc__law_ask.nd rfl rfl ⟨rfl, by decide, .inl g_ShelfError⟩ Xa.takes0N (fun W pn xe tk _ => (pss_cons (ps_if (pt_cmpR op_lt (pv 0) pe_int (nomark _)) (pss_one ps_never) pss_nil) (pss_cons (ps_if (pt_cmpR op_lt (pv 0) pe_int (nomark _)) (pss_one (ps_ret (Xa.pe_callAny (E := fun σ => WE W σ) (Xa.ccons (Xa.calW C_pastR.G (hr.mono (by decide)) C_pastR.kp C_pastR.b tk) (Xa.ccons (Xa.calW C_pastS.G (hr.mono (by decide)) C_pastS.kp C_pastS.b tk) (Xa.ccons (Xa.calW C_movedR.G (hr.mono (by decide)) C_movedR.kp C_movedR.b tk) (Xa.ccons (Xa.calW C_movedS.G (hr.mono (by decide)) C_movedS.kp C_movedS.b tk) (Xa.ccons (Xa.calW C_throughR.G (hr.mono (by decide)) C_throughR.kp C_throughR.b tk) (Xa.ccons (Xa.calW C_throughL.G (hr.mono (by decide)) C_throughL.kp C_throughL.b tk) (Xa.ccons (Xa.calW C_shelvesR.G (hr.mono (by decide)) C_shelvesR.kp C_shelvesR.b tk) (Xa.ccons (Xa.calW C_shelvesP.G (hr.mono (by decide)) C_shelvesP.kp C_shelvesP.b tk) (Xa.ccons (Xa.calW C_row_ofR.G (hr.mono (by decide)) C_row_ofR.kp C_row_ofR.b tk) (Xa.ccons (Xa.calW C_row_ofM.G (hr.mono (by decide)) C_row_ofM.kp C_row_ofM.b tk) (Xa.ccons (Xa.calW C_row_ofC.G (hr.mono (by decide)) C_row_ofC.kp C_row_ofC.b tk) (Xa.ccons (Xa.cal0 C_row_of.G (hr.mono (by decide)) C_row_of.kp C_row_of.b) (Xa.ccons (Xa.calW C_own_wayR.G (hr.mono (by decide)) C_own_wayR.kp C_own_wayR.b tk) (Xa.ccons (Xa.calW C_own_wayM.G (hr.mono (by decide)) C_own_wayM.kp C_own_wayM.b tk) (Xa.ccons (Xa.calW C_own_wayP.G (hr.mono (by decide)) C_own_wayP.kp C_own_wayP.b tk) (Xa.ccons (Xa.calW C_how_manyR.G (hr.mono (by decide)) C_how_manyR.kp C_how_manyR.b tk) (Xa.ccons (Xa.calW C_how_manyM.G (hr.mono (by decide)) C_how_manyM.kp C_how_manyM.b tk) (Xa.ccons (Xa.calW C_how_manyP.G (hr.mono (by decide)) C_how_manyP.kp C_how_manyP.b tk) (Xa.ccons (Xa.calW C_aheadR.G (hr.mono (by decide)) C_aheadR.kp C_aheadR.b tk) (Xa.ccons (Xa.calW C_aheadM.G (hr.mono (by decide)) C_aheadM.kp C_aheadM.b tk) (Xa.ccons (Xa.calW C_aheadP.G (hr.mono (by decide)) C_aheadP.kp C_aheadP.b tk) (Xa.ccons (Xa.calW C_aheadT.G (hr.mono (by decide)) C_aheadT.kp C_aheadT.b tk) Xa.cnil)))))))))))))))))))))) (pe_ix (ix_listK (K := K) rfl) (pe_lst (pa_cons (pe_glob (v := .ref f_pastR) (by rfl) C_pastR.g rfl) (pa_cons (pe_glob (v := .ref f_movedR) (by rfl) C_movedR.g rfl) (pa_cons (pe_glob (v := .ref f_throughL) (by rfl) C_throughL.g rfl) (pa_cons (pe_glob (v := .ref f_shelvesP) (by rfl) C_shelvesP.g rfl) (pa_cons (pe_glob (v := .ref f_row_of) (by rfl) C_row_of.g rfl) (pa_cons (pe_glob (v := .ref f_own_wayM) (by rfl) C_own_wayM.g rfl) (pa_cons (pe_glob (v := .ref f_how_manyM) (by rfl) C_how_manyM.g rfl) (pa_cons (pe_glob (v := .ref f_aheadM) (by rfl) C_aheadM.g rfl) pa_nil))))))))) (pe_op op_sub (pv 0) pe_int) (fun _ _ => rfl)) (pa_cons (pv 1) (pa_cons (pv 2) pa_nil))))) pss_nil) (pss_cons ps_never (pss_cons ps_never (pss_cons ps_never (pss_cons ps_never (pss_one ps_never)))))))) (fun a oe cls d pn hz hf => (pss_one (ps_ret (Xa.pe_callE (p := (a, oe)) (cls := cls) (d := d) W_which (L2H.RoomH.mono (Ld.roomX hr _) (by decide)) ⟨rfl, hf.choose, hf.choose_spec, hz.2.2 _ hf.choose_spec⟩ List.mem_cons_self hz (by rfl) w_g w_k w_b (pa_cons (pv 4) pa_nil))))))), fun x hp => ?_⟩)
  obtain ⟨k, a, b, c, v⟩ := x
  obtain ⟨hp, h0, h1⟩ := hp
  have hp : RefR k a b c v := hp
  dsimp only at h0 h1
  show VSs K [.dt (.int k), .dt a, .dt b, .dt c, .no] _ _
  refine ss_trySkip (fun ss => ?_) ?_
  · walk_at "w"
    exact ⟨decide_eq_false (by omega), rfl⟩
  refine ss_tryTake (fun ss => ?_) ?_
  · walk_at "w"
    exact ⟨decide_eq_true (by omega), rfl⟩
  cases hp with
  | row hk hn hb =>
    obtain rfl | rfl | rfl | rfl | rfl | rfl | rfl | rfl : k = 6 ∨ k = 7 ∨ k = 8 ∨ k = 9 ∨ k = 10 ∨ k = 11 ∨ k = 12 ∨ k = 13 := by omega
    · refine ss_tryTabX (fs := [f_pastR, f_movedR, f_throughL, f_shelvesP, f_row_of, f_own_wayM, f_how_manyM, f_aheadM]) (j := 0) (f := f_pastR) (by show 4 < 5; decide) (by simp) (ixd_sub (c := 6) rfl rfl) rfl List.mem_cons_self (fun ss => ?_)
      walk_at "w"
      exact ⟨a, 0, rfl, hb, w_eNoRow, w_iNoRow, rfl⟩
    · refine ss_tryTabX (fs := [f_pastR, f_movedR, f_throughL, f_shelvesP, f_row_of, f_own_wayM, f_how_manyM, f_aheadM]) (j := 1) (f := f_movedR) (by show 4 < 5; decide) (by simp) (ixd_sub (c := 6) rfl rfl) rfl (List.mem_cons_of_mem _ (List.mem_cons_of_mem _ List.mem_cons_self)) (fun ss => ?_)
      walk_at "w"
      exact ⟨a, 0, rfl, hb, w_eNoRow, w_iNoRow, rfl⟩
    · refine ss_tryTabX (fs := [f_pastR, f_movedR, f_throughL, f_shelvesP, f_row_of, f_own_wayM, f_how_manyM, f_aheadM]) (j := 2) (f := f_throughL) (by show 4 < 5; decide) (by simp) (ixd_sub (c := 6) rfl rfl) rfl (List.mem_cons_of_mem _ (List.mem_cons_of_mem _ (List.mem_cons_of_mem _ (List.mem_cons_of_mem _ List.mem_cons_self)))) (fun ss => ?_)
      walk_at "w"
      exact ⟨a, 0, rfl, hb, w_eNoRow, w_iNoRow, rfl⟩
    · refine ss_tryTabX (fs := [f_pastR, f_movedR, f_throughL, f_shelvesP, f_row_of, f_own_wayM, f_how_manyM, f_aheadM]) (j := 3) (f := f_shelvesP) (by show 4 < 5; decide) (by simp) (ixd_sub (c := 6) rfl rfl) rfl (List.mem_cons_of_mem _ (List.mem_cons_of_mem _ (List.mem_cons_of_mem _ (List.mem_cons_of_mem _ (List.mem_cons_of_mem _ (List.mem_cons_of_mem _ List.mem_cons_self)))))) (fun ss => ?_)
      walk_at "w"
      exact ⟨a, 0, rfl, hb, w_eNoRow, w_iNoRow, rfl⟩
    · refine ss_tryTabX (fs := [f_pastR, f_movedR, f_throughL, f_shelvesP, f_row_of, f_own_wayM, f_how_manyM, f_aheadM]) (j := 4) (f := f_row_of) (by show 4 < 5; decide) (by simp) (ixd_sub (c := 6) rfl rfl) rfl (List.mem_cons_of_mem _ (List.mem_cons_of_mem _ (List.mem_cons_of_mem _ (List.mem_cons_of_mem _ (List.mem_cons_of_mem _ (List.mem_cons_of_mem _ (List.mem_cons_of_mem _ (List.mem_cons_of_mem _ List.mem_cons_self)))))))) (fun ss => ?_)
      walk_at "w"
      exact ⟨a, 0, rfl, hb, w_eNoRow, w_iNoRow, rfl⟩
    · refine ss_tryTabX (fs := [f_pastR, f_movedR, f_throughL, f_shelvesP, f_row_of, f_own_wayM, f_how_manyM, f_aheadM]) (j := 5) (f := f_own_wayM) (by show 4 < 5; decide) (by simp) (ixd_sub (c := 6) rfl rfl) rfl (List.mem_cons_of_mem _ (List.mem_cons_of_mem _ (List.mem_cons_of_mem _ (List.mem_cons_of_mem _ (List.mem_cons_of_mem _ (List.mem_cons_of_mem _ (List.mem_cons_of_mem _ (List.mem_cons_of_mem _ (List.mem_cons_of_mem _ (List.mem_cons_of_mem _ (List.mem_cons_of_mem _ (List.mem_cons_of_mem _ List.mem_cons_self)))))))))))) (fun ss => ?_)
      walk_at "w"
      exact ⟨a, 0, rfl, hb, w_eNoRow, w_iNoRow, rfl⟩
    · refine ss_tryTabX (fs := [f_pastR, f_movedR, f_throughL, f_shelvesP, f_row_of, f_own_wayM, f_how_manyM, f_aheadM]) (j := 6) (f := f_how_manyM) (by show 4 < 5; decide) (by simp) (ixd_sub (c := 6) rfl rfl) rfl (List.mem_cons_of_mem _ (List.mem_cons_of_mem _ (List.mem_cons_of_mem _ (List.mem_cons_of_mem _ (List.mem_cons_of_mem _ (List.mem_cons_of_mem _ (List.mem_cons_of_mem _ (List.mem_cons_of_mem _ (List.mem_cons_of_mem _ (List.mem_cons_of_mem _ (List.mem_cons_of_mem _ (List.mem_cons_of_mem _ (List.mem_cons_of_mem _ (List.mem_cons_of_mem _ (List.mem_cons_of_mem _ List.mem_cons_self))))))))))))))) (fun ss => ?_)
      walk_at "w"
      exact ⟨a, 0, rfl, hb, w_eNoRow, w_iNoRow, rfl⟩
    · refine ss_tryTabX (fs := [f_pastR, f_movedR, f_throughL, f_shelvesP, f_row_of, f_own_wayM, f_how_manyM, f_aheadM]) (j := 7) (f := f_aheadM) (by show 4 < 5; decide) (by simp) (ixd_sub (c := 6) rfl rfl) rfl (List.mem_cons_of_mem _ (List.mem_cons_of_mem _ (List.mem_cons_of_mem _ (List.mem_cons_of_mem _ (List.mem_cons_of_mem _ (List.mem_cons_of_mem _ (List.mem_cons_of_mem _ (List.mem_cons_of_mem _ (List.mem_cons_of_mem _ (List.mem_cons_of_mem _ (List.mem_cons_of_mem _ (List.mem_cons_of_mem _ (List.mem_cons_of_mem _ (List.mem_cons_of_mem _ (List.mem_cons_of_mem _ (List.mem_cons_of_mem _ (List.mem_cons_of_mem _ (List.mem_cons_of_mem _ List.mem_cons_self)))))))))))))))))) (fun ss => ?_)
      walk_at "w"
      exact ⟨a, 0, rfl, hb, w_eNoRow, w_iNoRow, rfl⟩
  | mark hk =>
    obtain rfl | rfl | rfl | rfl : k = 10 ∨ k = 11 ∨ k = 12 ∨ k = 13 := by omega
    · refine ss_tryTabX (fs := [f_pastR, f_movedR, f_throughL, f_shelvesP, f_row_of, f_own_wayM, f_how_manyM, f_aheadM]) (j := 4) (f := f_row_of) (by show 4 < 5; decide) (by simp) (ixd_sub (c := 6) rfl rfl) rfl (List.mem_cons_of_mem _ (List.mem_cons_of_mem _ (List.mem_cons_of_mem _ (List.mem_cons_of_mem _ (List.mem_cons_of_mem _ (List.mem_cons_of_mem _ (List.mem_cons_of_mem _ (List.mem_cons_of_mem _ (List.mem_cons_of_mem _ List.mem_cons_self))))))))) (fun ss => ?_)
      walk_at "w"
      exact ⟨(), 4, rfl, trivial, w_eMarked, w_iMarked, rfl⟩
    · refine ss_tryTabX (fs := [f_pastR, f_movedR, f_throughL, f_shelvesP, f_row_of, f_own_wayM, f_how_manyM, f_aheadM]) (j := 5) (f := f_own_wayM) (by show 4 < 5; decide) (by simp) (ixd_sub (c := 6) rfl rfl) rfl (List.mem_cons_of_mem _ (List.mem_cons_of_mem _ (List.mem_cons_of_mem _ (List.mem_cons_of_mem _ (List.mem_cons_of_mem _ (List.mem_cons_of_mem _ (List.mem_cons_of_mem _ (List.mem_cons_of_mem _ (List.mem_cons_of_mem _ (List.mem_cons_of_mem _ (List.mem_cons_of_mem _ (List.mem_cons_of_mem _ (List.mem_cons_of_mem _ List.mem_cons_self))))))))))))) (fun ss => ?_)
      walk_at "w"
      exact ⟨(), 4, rfl, trivial, w_eMarked, w_iMarked, rfl⟩
    · refine ss_tryTabX (fs := [f_pastR, f_movedR, f_throughL, f_shelvesP, f_row_of, f_own_wayM, f_how_manyM, f_aheadM]) (j := 6) (f := f_how_manyM) (by show 4 < 5; decide) (by simp) (ixd_sub (c := 6) rfl rfl) rfl (List.mem_cons_of_mem _ (List.mem_cons_of_mem _ (List.mem_cons_of_mem _ (List.mem_cons_of_mem _ (List.mem_cons_of_mem _ (List.mem_cons_of_mem _ (List.mem_cons_of_mem _ (List.mem_cons_of_mem _ (List.mem_cons_of_mem _ (List.mem_cons_of_mem _ (List.mem_cons_of_mem _ (List.mem_cons_of_mem _ (List.mem_cons_of_mem _ (List.mem_cons_of_mem _ (List.mem_cons_of_mem _ (List.mem_cons_of_mem _ List.mem_cons_self)))))))))))))))) (fun ss => ?_)
      walk_at "w"
      exact ⟨(), 4, rfl, trivial, w_eMarked, w_iMarked, rfl⟩
    · refine ss_tryTabX (fs := [f_pastR, f_movedR, f_throughL, f_shelvesP, f_row_of, f_own_wayM, f_how_manyM, f_aheadM]) (j := 7) (f := f_aheadM) (by show 4 < 5; decide) (by simp) (ixd_sub (c := 6) rfl rfl) rfl (List.mem_cons_of_mem _ (List.mem_cons_of_mem _ (List.mem_cons_of_mem _ (List.mem_cons_of_mem _ (List.mem_cons_of_mem _ (List.mem_cons_of_mem _ (List.mem_cons_of_mem _ (List.mem_cons_of_mem _ (List.mem_cons_of_mem _ (List.mem_cons_of_mem _ (List.mem_cons_of_mem _ (List.mem_cons_of_mem _ (List.mem_cons_of_mem _ (List.mem_cons_of_mem _ (List.mem_cons_of_mem _ (List.mem_cons_of_mem _ (List.mem_cons_of_mem _ (List.mem_cons_of_mem _ (List.mem_cons_of_mem _ List.mem_cons_self))))))))))))))))))) (fun ss => ?_)
      walk_at "w"
      exact ⟨(), 4, rfl, trivial, w_eMarked, w_iMarked, rfl⟩
  | shelf hk hb =>
    obtain rfl | rfl : k = 6 ∨ k = 7 := by omega
    · refine ss_tryTabX (fs := [f_pastR, f_movedR, f_throughL, f_shelvesP, f_row_of, f_own_wayM, f_how_manyM, f_aheadM]) (j := 0) (f := f_pastR) (by show 4 < 5; decide) (by simp) (ixd_sub (c := 6) rfl rfl) rfl (List.mem_cons_of_mem _ List.mem_cons_self) (fun ss => ?_)
      walk_at "w"
      exact ⟨b, 1, rfl, hb, w_eNoShelf, w_iNoShelf, rfl⟩
    · refine ss_tryTabX (fs := [f_pastR, f_movedR, f_throughL, f_shelvesP, f_row_of, f_own_wayM, f_how_manyM, f_aheadM]) (j := 1) (f := f_movedR) (by show 4 < 5; decide) (by simp) (ixd_sub (c := 6) rfl rfl) rfl (List.mem_cons_of_mem _ (List.mem_cons_of_mem _ (List.mem_cons_of_mem _ List.mem_cons_self))) (fun ss => ?_)
      walk_at "w"
      exact ⟨b, 1, rfl, hb, w_eNoShelf, w_iNoShelf, rfl⟩
  | line8 hb =>
    refine ss_tryTabX (fs := [f_pastR, f_movedR, f_throughL, f_shelvesP, f_row_of, f_own_wayM, f_how_manyM, f_aheadM]) (j := 2) (f := f_throughL) (by show 4 < 5; decide) (by simp) (ixd_sub (c := 6) rfl rfl) rfl (List.mem_cons_of_mem _ (List.mem_cons_of_mem _ (List.mem_cons_of_mem _ (List.mem_cons_of_mem _ (List.mem_cons_of_mem _ List.mem_cons_self))))) (fun ss => ?_)
    walk_at "w"
    exact ⟨b, 2, rfl, hb, w_eNoLine, w_iNoLine, rfl⟩
  | line hk hk2 hb =>
    omega
  | places9 hb =>
    refine ss_tryTabX (fs := [f_pastR, f_movedR, f_throughL, f_shelvesP, f_row_of, f_own_wayM, f_how_manyM, f_aheadM]) (j := 3) (f := f_shelvesP) (by show 4 < 5; decide) (by simp) (ixd_sub (c := 6) rfl rfl) rfl (List.mem_cons_of_mem _ (List.mem_cons_of_mem _ (List.mem_cons_of_mem _ (List.mem_cons_of_mem _ (List.mem_cons_of_mem _ (List.mem_cons_of_mem _ (List.mem_cons_of_mem _ List.mem_cons_self))))))) (fun ss => ?_)
    walk_at "w"
    exact ⟨b, 3, rfl, hb, w_eNoPlaces, w_iNoPlaces, rfl⟩
  | places hk hb =>
    obtain rfl | rfl | rfl : k = 11 ∨ k = 12 ∨ k = 13 := by omega
    · refine ss_tryTabX (fs := [f_pastR, f_movedR, f_throughL, f_shelvesP, f_row_of, f_own_wayM, f_how_manyM, f_aheadM]) (j := 5) (f := f_own_wayM) (by show 4 < 5; decide) (by simp) (ixd_sub (c := 6) rfl rfl) rfl (List.mem_cons_of_mem _ (List.mem_cons_of_mem _ (List.mem_cons_of_mem _ (List.mem_cons_of_mem _ (List.mem_cons_of_mem _ (List.mem_cons_of_mem _ (List.mem_cons_of_mem _ (List.mem_cons_of_mem _ (List.mem_cons_of_mem _ (List.mem_cons_of_mem _ (List.mem_cons_of_mem _ (List.mem_cons_of_mem _ (List.mem_cons_of_mem _ (List.mem_cons_of_mem _ List.mem_cons_self)))))))))))))) (fun ss => ?_)
      walk_at "w"
      exact ⟨b, 3, rfl, hb, w_eNoPlaces, w_iNoPlaces, rfl⟩
    · refine ss_tryTabX (fs := [f_pastR, f_movedR, f_throughL, f_shelvesP, f_row_of, f_own_wayM, f_how_manyM, f_aheadM]) (j := 6) (f := f_how_manyM) (by show 4 < 5; decide) (by simp) (ixd_sub (c := 6) rfl rfl) rfl (List.mem_cons_of_mem _ (List.mem_cons_of_mem _ (List.mem_cons_of_mem _ (List.mem_cons_of_mem _ (List.mem_cons_of_mem _ (List.mem_cons_of_mem _ (List.mem_cons_of_mem _ (List.mem_cons_of_mem _ (List.mem_cons_of_mem _ (List.mem_cons_of_mem _ (List.mem_cons_of_mem _ (List.mem_cons_of_mem _ (List.mem_cons_of_mem _ (List.mem_cons_of_mem _ (List.mem_cons_of_mem _ (List.mem_cons_of_mem _ (List.mem_cons_of_mem _ List.mem_cons_self))))))))))))))))) (fun ss => ?_)
      walk_at "w"
      exact ⟨b, 3, rfl, hb, w_eNoPlaces, w_iNoPlaces, rfl⟩
    · refine ss_tryTabX (fs := [f_pastR, f_movedR, f_throughL, f_shelvesP, f_row_of, f_own_wayM, f_how_manyM, f_aheadM]) (j := 7) (f := f_aheadM) (by show 4 < 5; decide) (by simp) (ixd_sub (c := 6) rfl rfl) rfl (List.mem_cons_of_mem _ (List.mem_cons_of_mem _ (List.mem_cons_of_mem _ (List.mem_cons_of_mem _ (List.mem_cons_of_mem _ (List.mem_cons_of_mem _ (List.mem_cons_of_mem _ (List.mem_cons_of_mem _ (List.mem_cons_of_mem _ (List.mem_cons_of_mem _ (List.mem_cons_of_mem _ (List.mem_cons_of_mem _ (List.mem_cons_of_mem _ (List.mem_cons_of_mem _ (List.mem_cons_of_mem _ (List.mem_cons_of_mem _ (List.mem_cons_of_mem _ (List.mem_cons_of_mem _ (List.mem_cons_of_mem _ (List.mem_cons_of_mem _ List.mem_cons_self)))))))))))))))))))) (fun ss => ?_)
      walk_at "w"
      exact ⟨b, 3, rfl, hb, w_eNoPlaces, w_iNoPlaces, rfl⟩
  | places15 hb =>
    omega
  | many hb =>
    omega
  | counts hb =>
    refine ss_tryTabX (fs := [f_pastR, f_movedR, f_throughL, f_shelvesP, f_row_of, f_own_wayM, f_how_manyM, f_aheadM]) (j := 4) (f := f_row_of) (by show 4 < 5; decide) (by simp) (ixd_sub (c := 6) rfl rfl) rfl (List.mem_cons_of_mem _ (List.mem_cons_of_mem _ (List.mem_cons_of_mem _ (List.mem_cons_of_mem _ (List.mem_cons_of_mem _ (List.mem_cons_of_mem _ (List.mem_cons_of_mem _ (List.mem_cons_of_mem _ (List.mem_cons_of_mem _ (List.mem_cons_of_mem _ List.mem_cons_self)))))))))) (fun ss => ?_)
    walk_at "w"
    exact ⟨b, 5, rfl, hb, w_eNoCounts, w_iNoCounts, rfl⟩
  | ahead =>
    refine ss_tryTabX (fs := [f_pastR, f_movedR, f_throughL, f_shelvesP, f_row_of, f_own_wayM, f_how_manyM, f_aheadM]) (j := 7) (f := f_aheadM) (by show 4 < 5; decide) (by simp) (ixd_sub (c := 6) rfl rfl) rfl (List.mem_cons_of_mem _ (List.mem_cons_of_mem _ (List.mem_cons_of_mem _ (List.mem_cons_of_mem _ (List.mem_cons_of_mem _ (List.mem_cons_of_mem _ (List.mem_cons_of_mem _ (List.mem_cons_of_mem _ (List.mem_cons_of_mem _ (List.mem_cons_of_mem _ (List.mem_cons_of_mem _ (List.mem_cons_of_mem _ (List.mem_cons_of_mem _ (List.mem_cons_of_mem _ (List.mem_cons_of_mem _ (List.mem_cons_of_mem _ (List.mem_cons_of_mem _ (List.mem_cons_of_mem _ (List.mem_cons_of_mem _ (List.mem_cons_of_mem _ (List.mem_cons_of_mem _ List.mem_cons_self))))))))))))))))))))) (fun ss => ?_)
    walk_at "w"
    exact ⟨((List.range 12).map (fun i : Nat => (i : Int)), 9), 7, rfl, ⟨by decide, by decide, by decide, many12⟩, w_eTooMany, w_iTooMany, rfl⟩
  | rowOf =>
    refine ss_retD fun D ss => ?_
    refine vd_of (ve_callTabX (fs := [f_pastR, f_movedR, f_throughL, f_shelvesP, f_row_of, f_own_wayM, f_how_manyM, f_aheadM]) (j := 4) (f := f_row_of) (by simp) (ixd_sub (c := 6) rfl rfl) rfl (List.mem_cons_of_mem _ (List.mem_cons_of_mem _ (List.mem_cons_of_mem _ (List.mem_cons_of_mem _ (List.mem_cons_of_mem _ (List.mem_cons_of_mem _ (List.mem_cons_of_mem _ (List.mem_cons_of_mem _ (List.mem_cons_of_mem _ (List.mem_cons_of_mem _ (List.mem_cons_of_mem _ List.mem_cons_self))))))))))) ?_)
    walk_at "w"
    refine ⟨([3, 1, 2], [0, 1, 2]), rfl, ⟨by decide, by decide, rfl, fun i v h => by match i, h with | 0, h => (cases h; decide) | 1, h => (cases h; decide) | 2, h => (cases h; decide)⟩, ?_⟩
    intro d ed
    subst ed
    walk_at "w"
    exact congrArg (fun z : List Int => PyData.tuple (iL z)) rowF3
  | letting hk hk2 hb =>
    omega
  | let1 =>
    omega
  | let2 =>
    omega
  | mv hb =>
    omega
  | mv1 =>
    omega
  | mv2 =>
    omega
  | wrow hk hb =>
    omega
  | wmark hk =>
    omega
  | word hb =>
    omega
  | pls hb =>
    omega
  | pw =>
    omega
  | need =>
    omega
theorem ok_ask2 {f : Addr} {fd : FuncData} (D : Df K mg "_law_ask" s__law_ask ["_law_what", "_law_one", "_law_two", "_law_three"] f fd) {C_Marked : Addr} {C_NoPlaces : Addr} {C_NoRow : Addr} {C_TooMany : Addr} {f_can_comeM : Addr} {d_can_comeM : FuncData} (C_can_comeM : CalR P w K mg base 6 "can_come" ["row", "places"] (spR K (fun _ : Unit => [.dt rowM, .dt .none]) (fun _ => True) fun _ => C_Marked) f_can_comeM d_can_comeM) {f_can_comeP : Addr} {d_can_comeP : FuncData} (C_can_comeP : CalR P w K mg base 6 "can_come" ["row", "places"] (spR K (fun d : Dat => [.dt row3, .dt d]) (BadPl 0) fun _ => C_NoPlaces) f_can_comeP d_can_comeP) {f_can_comeR : Addr} {d_can_comeR : FuncData} (C_can_comeR : CalR P w K mg base 6 "can_come" ["row", "places"] (spR K (fun d : Dat => [.dt d, .dt .none]) (BadRow) fun _ => C_NoRow) f_can_comeR d_can_comeR) {f_sorted_byP : Addr} {d_sorted_byP : FuncData} (C_sorted_byP : CalR P w K mg base 4 "sorted_by" ["many", "places"] (spR K (fun d : Dat => [.dt (.int 3), .dt d]) (BadPl 0) fun _ => C_NoPlaces) f_sorted_byP d_sorted_byP) {f_sorted_byT : Addr} {d_sorted_byT : FuncData} (C_sorted_byT : CalR P w K mg base 3 "sorted_by" ["many", "places"] (spR K (fun d : Dat => [.dt d, .dt .none]) (BadMany) fun _ => C_TooMany) f_sorted_byT d_sorted_byT) {C_ShelfError : Addr} (g_ShelfError : mg "ShelfError" = some (.ref C_ShelfError)) {idx : Addr → Option Int} {f_w : Addr} {d_w : FuncData} (W_which : Xa.FnE P w K mg base 1 f_w d_w ["_law_e"] (spE idx)) (w_g : mg "_law_which" = some (.ref f_w)) (w_k : PySem.W.keepIn K (.ref f_w) = true) (w_b : Binds K d_w ["_law_e"] []) (w_eMarked : PySem.W.exmOne K (.ref C_Marked) (.ref C_ShelfError) = some true) (w_iMarked : idx C_Marked = some 4) (w_eNoPlaces : PySem.W.exmOne K (.ref C_NoPlaces) (.ref C_ShelfError) = some true) (w_iNoPlaces : idx C_NoPlaces = some 3) (w_eNoRow : PySem.W.exmOne K (.ref C_NoRow) (.ref C_ShelfError) = some true) (w_iNoRow : idx C_NoRow = some 0) (w_eTooMany : PySem.W.exmOne K (.ref C_TooMany) (.ref C_ShelfError) = some true) (w_iTooMany : idx C_TooMany = some 7) : Cal P w K mg base 7 "_law_ask" ["_law_what", "_law_one", "_law_two", "_law_three"] (spF K refA (refG 14 16) refV) f fd := by
  cases C_can_comeM.g.symm.trans C_can_comeP.g
  cases C_can_comeM.g.symm.trans C_can_comeR.g
  cases C_sorted_byP.g.symm.trans C_sorted_byT.g
  refine D.cal (ok_G D.F sc__law_ask refA_len (by decide) fun cdv A outer s H E hr => ⟨_, (pss_one (L2N.ps_try_as (i := 4) (ts := fun a cl d => tRet (tCall (spE idx a cl d) [] E0 (tCons (tVar 4) tNil))) rfl rfl sc__law_ask.nd rfl rfl ⟨rfl, by decide, .inl g_ShelfError⟩ Xa.takes0N (fun W pn xe tk _ => (pss_cons (ps_if (pt_cmpR op_lt (pv 0) pe_int (nomark _)) (pss_one ps_never) pss_nil) (pss_cons (ps_if (pt_cmpR op_lt (pv 0) pe_int (nomark _)) (pss_one ps_never) pss_nil) (pss_cons (ps_if (pt_cmpR op_lt (pv 0) pe_int (nomark _)) (pss_one (ps_ret (Xa.pe_callAny (E := fun σ => WE W σ) (Xa.ccons (Xa.calW C_can_comeR.G (hr.mono (by decide)) C_can_comeR.kp C_can_comeR.b tk) (Xa.ccons (Xa.calW C_can_comeM.G (hr.mono (by decide)) C_can_comeM.kp C_can_comeM.b tk) (Xa.ccons (Xa.calW C_can_comeP.G (hr.mono (by decide)) C_can_comeP.kp C_can_comeP.b tk) (Xa.ccons (Xa.calW C_sorted_byP.G (hr.mono (by decide)) C_sorted_byP.kp C_sorted_byP.b tk) (Xa.ccons (Xa.calW C_sorted_byT.G (hr.mono (by decide)) C_sorted_byT.kp C_sorted_byT.b tk) Xa.cnil))))) (pe_ix (ix_listK (K := K) rfl) (pe_lst (pa_cons (pe_glob (v := .ref f_can_comeM) (by rfl) C_can_comeM.g rfl) (pa_cons (pe_glob (v := .ref f_sorted_byP) (by rfl) C_sorted_byP.g rfl) pa_nil))) (pe_op op_sub (pv 0) pe_int) (fun _ _ => rfl)) (pa_cons (pv 1) (pa_cons (pv 2) pa_nil))))) pss_nil) (pss_cons ps_never (pss_cons ps_never (pss_cons ps_never (pss_one ps_never)))))))) (fun a oe cls d pn hz hf => (pss_one (ps_ret (Xa.pe_callE (p := (a, oe)) (cls := cls) (d := d) W_which (L2H.RoomH.mono (Ld.roomX hr _) (by decide)) ⟨rfl, hf.choose, hf.choose_spec, hz.2.2 _ hf.choose_spec⟩ List.mem_cons_self hz (by rfl) w_g w_k w_b (pa_cons (pv 4) pa_nil))))))), fun x hp => ?_⟩)
  obtain ⟨k, a, b, c, v⟩ := x
  obtain ⟨hp, h0, h1⟩ := hp
  have hp : RefR k a b c v := hp
  dsimp only at h0 h1
  show VSs K [.dt (.int k), .dt a, .dt b, .dt c, .no] _ _
  refine ss_trySkip (fun ss => ?_) ?_
  · walk_at "w"
    exact ⟨decide_eq_false (by omega), rfl⟩
  refine ss_trySkip (fun ss => ?_) ?_
  · walk_at "w"
    exact ⟨decide_eq_false (by omega), rfl⟩
  refine ss_tryTake (fun ss => ?_) ?_
  · walk_at "w"
    exact ⟨decide_eq_true (by omega), rfl⟩
  cases hp with
  | row hk hn hb =>
    obtain rfl : k = 14 := by omega
    refine ss_tryTabX (fs := [f_can_comeM, f_sorted_byP]) (j := 0) (f := f_can_comeM) (by show 4 < 5; decide) (by simp) (ixd_sub (c := 14) rfl rfl) rfl List.mem_cons_self (fun ss => ?_)
    walk_at "w"
    exact ⟨a, 0, rfl, hb, w_eNoRow, w_iNoRow, rfl⟩
  | mark hk =>
    obtain rfl : k = 14 := by omega
    refine ss_tryTabX (fs := [f_can_comeM, f_sorted_byP]) (j := 0) (f := f_can_comeM) (by show 4 < 5; decide) (by simp) (ixd_sub (c := 14) rfl rfl) rfl (List.mem_cons_of_mem _ List.mem_cons_self) (fun ss => ?_)
    walk_at "w"
    exact ⟨(), 4, rfl, trivial, w_eMarked, w_iMarked, rfl⟩
  | shelf hk hb =>
    omega
  | line8 hb =>
    omega
  | line hk hk2 hb =>
    omega
  | places9 hb =>
    omega
  | places hk hb =>
    obtain rfl : k = 14 := by omega
    refine ss_tryTabX (fs := [f_can_comeM, f_sorted_byP]) (j := 0) (f := f_can_comeM) (by show 4 < 5; decide) (by simp) (ixd_sub (c := 14) rfl rfl) rfl (List.mem_cons_of_mem _ (List.mem_cons_of_mem _ List.mem_cons_self)) (fun ss => ?_)
    walk_at "w"
    exact ⟨b, 3, rfl, hb, w_eNoPlaces, w_iNoPlaces, rfl⟩
  | places15 hb =>
    refine ss_tryTabX (fs := [f_can_comeM, f_sorted_byP]) (j := 1) (f := f_sorted_byP) (by show 4 < 5; decide) (by simp) (ixd_sub (c := 14) rfl rfl) rfl (List.mem_cons_of_mem _ (List.mem_cons_of_mem _ (List.mem_cons_of_mem _ List.mem_cons_self))) (fun ss => ?_)
    walk_at "w"
    exact ⟨b, 3, rfl, hb, w_eNoPlaces, w_iNoPlaces, rfl⟩
  | many hb =>
    refine ss_tryTabX (fs := [f_can_comeM, f_sorted_byP]) (j := 1) (f := f_sorted_byP) (by show 4 < 5; decide) (by simp) (ixd_sub (c := 14) rfl rfl) rfl (List.mem_cons_of_mem _ (List.mem_cons_of_mem _ (List.mem_cons_of_mem _ (List.mem_cons_of_mem _ List.mem_cons_self)))) (fun ss => ?_)
    walk_at "w"
    exact ⟨a, 7, rfl, hb, w_eTooMany, w_iTooMany, rfl⟩
  | counts hb =>
    omega
  | ahead =>
    omega
  | rowOf =>
    omega
  | letting hk hk2 hb =>
    omega
  | let1 =>
    omega
  | let2 =>
    omega
  | mv hb =>
    omega
  | mv1 =>
    omega
  | mv2 =>
    omega
  | wrow hk hb =>
    omega
  | wmark hk =>
    omega
  | word hb =>
    omega
  | pls hb =>
    omega
  | pw =>
    omega
  | need =>
    omega
theorem ok_ask3 {f : Addr} {fd : FuncData} (D : Df K mg "_law_ask" s__law_ask ["_law_what", "_law_one", "_law_two", "_law_three"] f fd) {C_Marked : Addr} {C_NoLetting : Addr} {C_NoPlaces : Addr} {C_NoRow : Addr} {f_comes_out : Addr} {d_comes_out : FuncData} (C_comes_out : Cal P w K mg base 5 "comes_out" ["row", "places", "letting"] (spF K (fun p : List Int × Nat × List Dat => [.dt (.tuple (iL p.1)), .dt (.int p.2.1), .dt (.tuple p.2.2)]) (fun p => p.1.length ≤ 24 ∧ p.1.Nodup ∧ p.2.1 ≤ 9 ∧ LetSh (.tuple p.2.2) ∧ isLetD p.1 p.2.1 (.tuple p.2.2) = true) fun p => .tuple (p.2.2.filter isI)) f_comes_out d_comes_out) {f_comes_outM : Addr} {d_comes_outM : FuncData} (C_comes_outM : CalR P w K mg base 5 "comes_out" ["row", "places", "letting"] (spR K (fun _ : Unit => [.dt rowM, .dt .none, .dt .none]) (fun _ => True) fun _ => C_Marked) f_comes_outM d_comes_outM) {f_comes_outN : Addr} {d_comes_outN : FuncData} (C_comes_outN : CalR P w K mg base 5 "comes_out" ["row", "places", "letting"] (spR K (fun d : Dat => [.dt row3, .dt (.int 1), .dt d]) (BadLet) fun _ => C_NoLetting) f_comes_outN d_comes_outN) {f_comes_outP : Addr} {d_comes_outP : FuncData} (C_comes_outP : CalR P w K mg base 5 "comes_out" ["row", "places", "letting"] (spR K (fun d : Dat => [.dt row3, .dt d, .dt .none]) (BadPl 0) fun _ => C_NoPlaces) f_comes_outP d_comes_outP) {f_comes_outR : Addr} {d_comes_outR : FuncData} (C_comes_outR : CalR P w K mg base 5 "comes_out" ["row", "places", "letting"] (spR K (fun d : Dat => [.dt d, .dt .none, .dt .none]) (BadRow) fun _ => C_NoRow) f_comes_outR d_comes_outR) {f_gainedM : Addr} {d_gainedM : FuncData} (C_gainedM : CalR P w K mg base 6 "gained" ["row", "places", "letting"] (spR K (fun _ : Unit => [.dt rowM, .dt .none, .dt .none]) (fun _ => True) fun _ => C_Marked) f_gainedM d_gainedM) {f_gainedN : Addr} {d_gainedN : FuncData} (C_gainedN : CalR P w K mg base 6 "gained" ["row", "places", "letting"] (spR K (fun d : Dat => [.dt row3, .dt (.int 1), .dt d]) (BadLet) fun _ => C_NoLetting) f_gainedN d_gainedN) {f_gainedP : Addr} {d_gainedP : FuncData} (C_gainedP : CalR P w K mg base 6 "gained" ["row", "places", "letting"] (spR K (fun d : Dat => [.dt row3, .dt d, .dt .none]) (BadPl 0) fun _ => C_NoPlaces) f_gainedP d_gainedP) {f_gainedR : Addr} {d_gainedR : FuncData} (C_gainedR : CalR P w K mg base 6 "gained" ["row", "places", "letting"] (spR K (fun d : Dat => [.dt d, .dt .none, .dt .none]) (BadRow) fun _ => C_NoRow) f_gainedR d_gainedR) {C_ShelfError : Addr} (g_ShelfError : mg "ShelfError" = some (.ref C_ShelfError)) {idx : Addr → Option Int} {f_w : Addr} {d_w : FuncData} (W_which : Xa.FnE P w K mg base 1 f_w d_w ["_law_e"] (spE idx)) (w_g : mg "_law_which" = some (.ref f_w)) (w_k : PySem.W.keepIn K (.ref f_w) = true) (w_b : Binds K d_w ["_law_e"] []) (w_eMarked : PySem.W.exmOne K (.ref C_Marked) (.ref C_ShelfError) = some true) (w_iMarked : idx C_Marked = some 4) (w_eNoLetting : PySem.W.exmOne K (.ref C_NoLetting) (.ref C_ShelfError) = some true) (w_iNoLetting : idx C_NoLetting = some 6) (w_eNoPlaces : PySem.W.exmOne K (.ref C_NoPlaces) (.ref C_ShelfError) = some true) (w_iNoPlaces : idx C_NoPlaces = some 3) (w_eNoRow : PySem.W.exmOne K (.ref C_NoRow) (.ref C_ShelfError) = some true) (w_iNoRow : idx C_NoRow = some 0) : Cal P w K mg base 7 "_law_ask" ["_law_what", "_law_one", "_law_two", "_law_three"] (spF K refA (refG 16 18) refV) f fd := by
  cases C_comes_out.g.symm.trans C_comes_outM.g
  cases C_comes_out.g.symm.trans C_comes_outN.g
  cases C_comes_out.g.symm.trans C_comes_outP.g
  cases C_comes_out.g.symm.trans C_comes_outR.g
  cases C_gainedM.g.symm.trans C_gainedN.g
  cases C_gainedM.g.symm.trans C_gainedP.g
  cases C_gainedM.g.symm.trans C_gainedR.g
  refine D.cal (ok_G D.F sc__law_ask refA_len (by decide) fun cdv A outer s H E hr => ⟨_, (pss_one (L2N.ps_try_as (i := 4) (ts := fun a cl d => tRet (tCall (spE idx a cl d) [] E0 (tCons (tVar 4) tNil))) rfl rfl sc__law_ask.nd rfl rfl ⟨rfl, by decide, .inl g_ShelfError⟩ Xa.takes0N (fun W pn xe tk _ => (pss_cons (ps_if (pt_cmpR op_lt (pv 0) pe_int (nomark _)) (pss_one ps_never) pss_nil) (pss_cons (ps_if (pt_cmpR op_lt (pv 0) pe_int (nomark _)) (pss_one ps_never) pss_nil) (pss_cons (ps_if (pt_cmpR op_lt (pv 0) pe_int (nomark _)) (pss_one ps_never) pss_nil) (pss_cons (ps_if (pt_cmpR op_lt (pv 0) pe_int (nomark _)) (pss_one (ps_ret (Xa.pe_callAny (E := fun σ => WE W σ) (Xa.ccons (Xa.calW C_comes_outR.G (hr.mono (by decide)) C_comes_outR.kp C_comes_outR.b tk) (Xa.ccons (Xa.calW C_comes_outM.G (hr.mono (by decide)) C_comes_outM.kp C_comes_outM.b tk) (Xa.ccons (Xa.calW C_comes_outP.G (hr.mono (by decide)) C_comes_outP.kp C_comes_outP.b tk) (Xa.ccons (Xa.calW C_comes_outN.G (hr.mono (by decide)) C_comes_outN.kp C_comes_outN.b tk) (Xa.ccons (Xa.cal0 C_comes_out.G (hr.mono (by decide)) C_comes_out.kp C_comes_out.b) (Xa.ccons (Xa.calW C_gainedR.G (hr.mono (by decide)) C_gainedR.kp C_gainedR.b tk) (Xa.ccons (Xa.calW C_gainedM.G (hr.mono (by decide)) C_gainedM.kp C_gainedM.b tk) (Xa.ccons (Xa.calW C_gainedP.G (hr.mono (by decide)) C_gainedP.kp C_gainedP.b tk) (Xa.ccons (Xa.calW C_gainedN.G (hr.mono (by decide)) C_gainedN.kp C_gainedN.b tk) Xa.cnil))))))))) (pe_ix (ix_listK (K := K) rfl) (pe_lst (pa_cons (pe_glob (v := .ref f_comes_out) (by rfl) C_comes_out.g rfl) (pa_cons (pe_glob (v := .ref f_gainedM) (by rfl) C_gainedM.g rfl) pa_nil))) (pe_op op_sub (pv 0) pe_int) (fun _ _ => rfl)) (pa_cons (pv 1) (pa_cons (pv 2) (pa_cons (pv 3) pa_nil)))))) pss_nil) (pss_cons ps_never (pss_cons ps_never (pss_one ps_never)))))))) (fun a oe cls d pn hz hf => (pss_one (ps_ret (Xa.pe_callE (p := (a, oe)) (cls := cls) (d := d) W_which (L2H.RoomH.mono (Ld.roomX hr _) (by decide)) ⟨rfl, hf.choose, hf.choose_spec, hz.2.2 _ hf.choose_spec⟩ List.mem_cons_self hz (by rfl) w_g w_k w_b (pa_cons (pv 4) pa_nil))))))), fun x hp => ?_⟩)
  obtain ⟨k, a, b, c, v⟩ := x
  obtain ⟨hp, h0, h1⟩ := hp
  have hp : RefR k a b c v := hp
  dsimp only at h0 h1
  show VSs K [.dt (.int k), .dt a, .dt b, .dt c, .no] _ _
  refine ss_trySkip (fun ss => ?_) ?_
  · walk_at "w"
    exact ⟨decide_eq_false (by omega), rfl⟩
  refine ss_trySkip (fun ss => ?_) ?_
  · walk_at "w"
    exact ⟨decide_eq_false (by omega), rfl⟩
  refine ss_trySkip (fun ss => ?_) ?_
  · walk_at "w"
    exact ⟨decide_eq_false (by omega), rfl⟩
  refine ss_tryTake (fun ss => ?_) ?_
  · walk_at "w"
    exact ⟨decide_eq_true (by omega), rfl⟩
  cases hp with
  | row hk hn hb =>
    obtain rfl | rfl : k = 16 ∨ k = 17 := by omega
    · refine ss_tryTabX (fs := [f_comes_out, f_gainedM]) (j := 0) (f := f_comes_out) (by show 4 < 5; decide) (by simp) (ixd_sub (c := 16) rfl rfl) rfl List.mem_cons_self (fun ss => ?_)
      walk_at "w"
      exact ⟨a, 0, rfl, hb, w_eNoRow, w_iNoRow, rfl⟩
    · refine ss_tryTabX (fs := [f_comes_out, f_gainedM]) (j := 1) (f := f_gainedM) (by show 4 < 5; decide) (by simp) (ixd_sub (c := 16) rfl rfl) rfl (List.mem_cons_of_mem _ (List.mem_cons_of_mem _ (List.mem_cons_of_mem _ (List.mem_cons_of_mem _ (List.mem_cons_of_mem _ List.mem_cons_self))))) (fun ss => ?_)
      walk_at "w"
      exact ⟨a, 0, rfl, hb, w_eNoRow, w_iNoRow, rfl⟩
  | mark hk =>
    obtain rfl | rfl : k = 16 ∨ k = 17 := by omega
    · refine ss_tryTabX (fs := [f_comes_out, f_gainedM]) (j := 0) (f := f_comes_out) (by show 4 < 5; decide) (by simp) (ixd_sub (c := 16) rfl rfl) rfl (List.mem_cons_of_mem _ List.mem_cons_self) (fun ss => ?_)
      walk_at "w"
      exact ⟨(), 4, rfl, trivial, w_eMarked, w_iMarked, rfl⟩
    · refine ss_tryTabX (fs := [f_comes_out, f_gainedM]) (j := 1) (f := f_gainedM) (by show 4 < 5; decide) (by simp) (ixd_sub (c := 16) rfl rfl) rfl (List.mem_cons_of_mem _ (List.mem_cons_of_mem _ (List.mem_cons_of_mem _ (List.mem_cons_of_mem _ (List.mem_cons_of_mem _ (List.mem_cons_of_mem _ List.mem_cons_self)))))) (fun ss => ?_)
      walk_at "w"
      exact ⟨(), 4, rfl, trivial, w_eMarked, w_iMarked, rfl⟩
  | shelf hk hb =>
    omega
  | line8 hb =>
    omega
  | line hk hk2 hb =>
    omega
  | places9 hb =>
    omega
  | places hk hb =>
    obtain rfl | rfl : k = 16 ∨ k = 17 := by omega
    · refine ss_tryTabX (fs := [f_comes_out, f_gainedM]) (j := 0) (f := f_comes_out) (by show 4 < 5; decide) (by simp) (ixd_sub (c := 16) rfl rfl) rfl (List.mem_cons_of_mem _ (List.mem_cons_of_mem _ List.mem_cons_self)) (fun ss => ?_)
      walk_at "w"
      exact ⟨b, 3, rfl, hb, w_eNoPlaces, w_iNoPlaces, rfl⟩
    · refine ss_tryTabX (fs := [f_comes_out, f_gainedM]) (j := 1) (f := f_gainedM) (by show 4 < 5; decide) (by simp) (ixd_sub (c := 16) rfl rfl) rfl (List.mem_cons_of_mem _ (List.mem_cons_of_mem _ (List.mem_cons_of_mem _ (List.mem_cons_of_mem _ (List.mem_cons_of_mem _ (List.mem_cons_of_mem _ (List.mem_cons_of_mem _ List.mem_cons_self))))))) (fun ss => ?_)
      walk_at "w"
      exact ⟨b, 3, rfl, hb, w_eNoPlaces, w_iNoPlaces, rfl⟩
  | places15 hb =>
    omega
  | many hb =>
    omega
  | counts hb =>
    omega
  | ahead =>
    omega
  | rowOf =>
    omega
  | letting hk hk2 hb =>
    obtain rfl | rfl : k = 16 ∨ k = 17 := by omega
    · refine ss_tryTabX (fs := [f_comes_out, f_gainedM]) (j := 0) (f := f_comes_out) (by show 4 < 5; decide) (by simp) (ixd_sub (c := 16) rfl rfl) rfl (List.mem_cons_of_mem _ (List.mem_cons_of_mem _ (List.mem_cons_of_mem _ List.mem_cons_self))) (fun ss => ?_)
      walk_at "w"
      exact ⟨c, 6, rfl, hb, w_eNoLetting, w_iNoLetting, rfl⟩
    · refine ss_tryTabX (fs := [f_comes_out, f_gainedM]) (j := 1) (f := f_gainedM) (by show 4 < 5; decide) (by simp) (ixd_sub (c := 16) rfl rfl) rfl (List.mem_cons_of_mem _ (List.mem_cons_of_mem _ (List.mem_cons_of_mem _ (List.mem_cons_of_mem _ (List.mem_cons_of_mem _ (List.mem_cons_of_mem _ (List.mem_cons_of_mem _ (List.mem_cons_of_mem _ List.mem_cons_self)))))))) (fun ss => ?_)
      walk_at "w"
      exact ⟨c, 6, rfl, hb, w_eNoLetting, w_iNoLetting, rfl⟩
  | let1 =>
    refine ss_retD fun D ss => ?_
    refine vd_of (ve_callTabX (fs := [f_comes_out, f_gainedM]) (j := 0) (f := f_comes_out) (by simp) (ixd_sub (c := 16) rfl rfl) rfl (List.mem_cons_of_mem _ (List.mem_cons_of_mem _ (List.mem_cons_of_mem _ (List.mem_cons_of_mem _ List.mem_cons_self)))) ?_)
    walk_at "w"
    refine ⟨([3, 1, 2], 1, [onD, onD, .int 1, onD, .int 2, .int 3]), rfl, ⟨by decide, by decide, by decide, ⟨by decide, fun r hr d hd => (by cases hr; exact List.all_eq_true.mp (show ([onD, onD, .int 1, onD, .int 2, .int 3] : List Dat).all SeqAt.shaped = true by decide +kernel) d hd)⟩, by decide +kernel⟩, ?_⟩
    intro d ed
    subst ed
    walk_at "w"
    rfl
  | let2 =>
    refine ss_retD fun D ss => ?_
    refine vd_of (ve_callTabX (fs := [f_comes_out, f_gainedM]) (j := 0) (f := f_comes_out) (by simp) (ixd_sub (c := 16) rfl rfl) rfl (List.mem_cons_of_mem _ (List.mem_cons_of_mem _ (List.mem_cons_of_mem _ (List.mem_cons_of_mem _ List.mem_cons_self)))) ?_)
    walk_at "w"
    refine ⟨([3, 1, 2], 2, [onD, onD, onD, .int 1, .int 2, .int 3]), rfl, ⟨by decide, by decide, by decide, ⟨by decide, fun r hr d hd => (by cases hr; exact List.all_eq_true.mp (show ([onD, onD, onD, .int 1, .int 2, .int 3] : List Dat).all SeqAt.shaped = true by decide +kernel) d hd)⟩, by decide +kernel⟩, ?_⟩
    intro d ed
    subst ed
    walk_at "w"
    rfl
  | mv hb =>
    omega
  | mv1 =>
    omega
  | mv2 =>
    omega
  | wrow hk hb =>
    omega
  | wmark hk =>
    omega
  | word hb =>
    omega
  | pls hb =>
    omega
  | pw =>
    omega
  | need =>
    omega
theorem ok_ask4 {f : Addr} {fd : FuncData} (D : Df K mg "_law_ask" s__law_ask ["_law_what", "_law_one", "_law_two", "_law_three"] f fd) {C_Marked : Addr} {C_NoMove : Addr} {C_NoRow : Addr} {f_move : Addr} {d_move : FuncData} (C_move : Cal P w K mg base 5 "move" ["row", "one", "other"] (spF K (fun p : List Int × Nat × Nat => [.dt (.tuple (iL p.1)), .dt (.int p.2.1), .dt (.int p.2.2)]) (fun p => p.1.length ≤ 24 ∧ p.1.Nodup ∧ p.2.1 < p.1.length ∧ p.2.2 < p.1.length) fun p => .tuple (iL (mvN p.1 p.2.1 p.2.2))) f_move d_move) {f_moveM : Addr} {d_moveM : FuncData} (C_moveM : CalR P w K mg base 5 "move" ["row", "one", "other"] (spR K (fun _ : Unit => [.dt rowM, .dt .none, .dt .none]) (fun _ => True) fun _ => C_Marked) f_moveM d_moveM) {f_moveR : Addr} {d_moveR : FuncData} (C_moveR : CalR P w K mg base 5 "move" ["row", "one", "other"] (spR K (fun d : Dat => [.dt d, .dt .none, .dt .none]) (BadRow) fun _ => C_NoRow) f_moveR d_moveR) {f_moveV : Addr} {d_moveV : FuncData} (C_moveV : CalR P w K mg base 5 "move" ["row", "one", "other"] (spR K (fun p : Dat × Dat => [.dt row3, .dt p.1, .dt p.2]) (BadMv) fun _ => C_NoMove) f_moveV d_moveV) {C_ShelfError : Addr} (g_ShelfError : mg "ShelfError" = some (.ref C_ShelfError)) {idx : Addr → Option Int} {f_w : Addr} {d_w : FuncData} (W_which : Xa.FnE P w K mg base 1 f_w d_w ["_law_e"] (spE idx)) (w_g : mg "_law_which" = some (.ref f_w)) (w_k : PySem.W.keepIn K (.ref f_w) = true) (w_b : Binds K d_w ["_law_e"] []) (w_eMarked : PySem.W.exmOne K (.ref C_Marked) (.ref C_ShelfError) = some true) (w_iMarked : idx C_Marked = some 4) (w_eNoMove : PySem.W.exmOne K (.ref C_NoMove) (.ref C_ShelfError) = some true) (w_iNoMove : idx C_NoMove = some 8) (w_eNoRow : PySem.W.exmOne K (.ref C_NoRow) (.ref C_ShelfError) = some true) (w_iNoRow : idx C_NoRow = some 0) : Cal P w K mg base 6 "_law_ask" ["_law_what", "_law_one", "_law_two", "_law_three"] (spF K refA (refG 18 19) refV) f fd := by
  cases C_move.g.symm.trans C_moveM.g
  cases C_move.g.symm.trans C_moveR.g
  cases C_move.g.symm.trans C_moveV.g
  refine D.cal (ok_G D.F sc__law_ask refA_len (by decide) fun cdv A outer s H E hr => ⟨_, (pss_one (L2N.ps_try_as (i := 4) (ts := fun a cl d => tRet (tCall (spE idx a cl d) [] E0 (tCons (tVar 4) tNil))) rfl rfl sc__law_ask.nd rfl rfl ⟨rfl, by decide, .inl g_ShelfError⟩ Xa.takes0N (fun W pn xe tk _ => (pss_cons (ps_if (pt_cmpR op_lt (pv 0) pe_int (nomark _)) (pss_one ps_never) pss_nil) (pss_cons (ps_if (pt_cmpR op_lt (pv 0) pe_int (nomark _)) (pss_one ps_never) pss_nil) (pss_cons (ps_if (pt_cmpR op_lt (pv 0) pe_int (nomark _)) (pss_one ps_never) pss_nil) (pss_cons (ps_if (pt_cmpR op_lt (pv 0) pe_int (nomark _)) (pss_one ps_never) pss_nil) (pss_cons (ps_if (pt_cmpR (op_eqDK (K := K) rfl hr.units) (pv 0) pe_int (nomark _)) (pss_one (ps_ret (Xa.pe_callAny (E := fun σ => WE W σ) (Xa.ccons (Xa.calW C_moveR.G (hr.mono (by decide)) C_moveR.kp C_moveR.b tk) (Xa.ccons (Xa.calW C_moveM.G (hr.mono (by decide)) C_moveM.kp C_moveM.b tk) (Xa.ccons (Xa.calW C_moveV.G (hr.mono (by decide)) C_moveV.kp C_moveV.b tk) (Xa.ccons (Xa.cal0 C_move.G (hr.mono (by decide)) C_move.kp C_move.b) Xa.cnil)))) (pe_glob (v := .ref f_move) (by rfl) C_move.g rfl) (pa_cons (pv 1) (pa_cons (pv 2) (pa_cons (pv 3) pa_nil)))))) pss_nil) (pss_cons ps_never (pss_one ps_never)))))))) (fun a oe cls d pn hz hf => (pss_one (ps_ret (Xa.pe_callE (p := (a, oe)) (cls := cls) (d := d) W_which (L2H.RoomH.mono (Ld.roomX hr _) (by decide)) ⟨rfl, hf.choose, hf.choose_spec, hz.2.2 _ hf.choose_spec⟩ List.mem_cons_self hz (by rfl) w_g w_k w_b (pa_cons (pv 4) pa_nil))))))), fun x hp => ?_⟩)
  obtain ⟨k, a, b, c, v⟩ := x
  obtain ⟨hp, h0, h1⟩ := hp
  have hp : RefR k a b c v := hp
  dsimp only at h0 h1
  show VSs K [.dt (.int k), .dt a, .dt b, .dt c, .no] _ _
  refine ss_trySkip (fun ss => ?_) ?_
  · walk_at "w"
    exact ⟨decide_eq_false (by omega), rfl⟩
  refine ss_trySkip (fun ss => ?_) ?_
  · walk_at "w"
    exact ⟨decide_eq_false (by omega), rfl⟩
  refine ss_trySkip (fun ss => ?_) ?_
  · walk_at "w"
    exact ⟨decide_eq_false (by omega), rfl⟩
  refine ss_trySkip (fun ss => ?_) ?_
  · walk_at "w"
    exact ⟨decide_eq_false (by omega), rfl⟩
  refine ss_tryTake (fun ss => ?_) ?_
  · walk_at "w"
    exact ⟨decide_eq_true (by omega), rfl⟩
  cases hp with
  | row hk hn hb =>
    obtain rfl : k = 18 := by omega
    refine ss_tryRef (by show 4 < 5; decide) List.mem_cons_self (fun ss => ?_)
    walk_at "w"
    exact ⟨a, 0, rfl, hb, w_eNoRow, w_iNoRow, rfl⟩
  | mark hk =>
    obtain rfl : k = 18 := by omega
    refine ss_tryRef (by show 4 < 5; decide) (List.mem_cons_of_mem _ List.mem_cons_self) (fun ss => ?_)
    walk_at "w"
    exact ⟨(), 4, rfl, trivial, w_eMarked, w_iMarked, rfl⟩
  | shelf hk hb =>
    omega
  | line8 hb =>
    omega
  | line hk hk2 hb =>
    omega
  | places9 hb =>
    omega
  | places hk hb =>
    omega
  | places15 hb =>
    omega
  | many hb =>
    omega
  | counts hb =>
    omega
  | ahead =>
    omega
  | rowOf =>
    omega
  | letting hk hk2 hb =>
    omega
  | let1 =>
    omega
  | let2 =>
    omega
  | mv hb =>
    refine ss_tryRef (by show 4 < 5; decide) (List.mem_cons_of_mem _ (List.mem_cons_of_mem _ List.mem_cons_self)) (fun ss => ?_)
    walk_at "w"
    exact ⟨(b, c), 8, rfl, hb, w_eNoMove, w_iNoMove, rfl⟩
  | mv1 =>
    refine ss_retD fun D ss => ?_
    refine vd_of (ve_callRef (List.mem_cons_of_mem _ (List.mem_cons_of_mem _ (List.mem_cons_of_mem _ List.mem_cons_self))) ?_)
    walk_at "w"
    refine ⟨([3, 1, 2], 0, 2), rfl, ⟨by decide, by decide, by decide, by decide⟩, ?_⟩
    intro d ed
    subst ed
    walk_at "w"
    rfl
  | mv2 =>
    refine ss_retD fun D ss => ?_
    refine vd_of (ve_callRef (List.mem_cons_of_mem _ (List.mem_cons_of_mem _ (List.mem_cons_of_mem _ List.mem_cons_self))) ?_)
    walk_at "w"
    refine ⟨([3, 1, 2], 2, 2), rfl, ⟨by decide, by decide, by decide, by decide⟩, ?_⟩
    intro d ed
    subst ed
    walk_at "w"
    rfl
  | wrow hk hb =>
    omega
  | wmark hk =>
    omega
  | word hb =>
    omega
  | pls hb =>
    omega
  | pw =>
    omega
  | need =>
    omega
theorem ok_ask5 {f : Addr} {fd : FuncData} (D : Df K mg "_law_ask" s__law_ask ["_law_what", "_law_one", "_law_two", "_law_three"] f fd) {C_Marked : Addr} {C_NoPlaces : Addr} {C_NoRow : Addr} {C_NoShelf : Addr} {f_needed : Addr} {d_needed : FuncData} (C_needed : Cal P w K mg base 5 "needed" ["row"] (spF K (fun N : List Int => [.dt (.tuple (iL N))]) (fun N => N.length ≤ 24 ∧ N.Nodup) fun N => .list (iL ((ndN N).map Int.ofNat))) f_needed d_needed) {f_neededM : Addr} {d_neededM : FuncData} (C_neededM : CalR P w K mg base 5 "needed" ["row"] (spR K (fun _ : Unit => [.dt rowM]) (fun _ => True) fun _ => C_Marked) f_neededM d_neededM) {f_neededR : Addr} {d_neededR : FuncData} (C_neededR : CalR P w K mg base 5 "needed" ["row"] (spR K (fun d : Dat => [.dt d]) (BadRow) fun _ => C_NoRow) f_neededR d_neededR) {f_past_with : Addr} {d_past_with : FuncData} (C_past_with : Cal P w K mg base 5 "past_with" ["row", "word", "places"] (spF K (fun p : Bool × List Int × List Nat => [.dt (.tuple (iL p.2.1)), .dt (.str (wd p.1)), .dt (.tuple (iL (p.2.2.map Int.ofNat)))]) (fun p => p.2.1.length ≤ 24 ∧ p.2.1.Nodup ∧ p.2.2.length = p.2.1.length ∧ ∀ m ∈ p.2.2, m ≤ 9) fun p => .tuple (iL (tm p.1 (lp ((tm p.1 p.2.1).zip p.2.2) [])))) f_past_with d_past_with) {f_past_withM : Addr} {d_past_withM : FuncData} (C_past_withM : CalR P w K mg base 5 "past_with" ["row", "word", "places"] (spR K (fun _ : Unit => [.dt rowM, .dt .none, .dt .none]) (fun _ => True) fun _ => C_Marked) f_past_withM d_past_withM) {f_past_withP : Addr} {d_past_withP : FuncData} (C_past_withP : CalR P w K mg base 5 "past_with" ["row", "word", "places"] (spR K (fun d : Dat => [.dt row3, .dt (.str "light"), .dt d]) (BadPls) fun _ => C_NoPlaces) f_past_withP d_past_withP) {f_past_withR : Addr} {d_past_withR : FuncData} (C_past_withR : CalR P w K mg base 5 "past_with" ["row", "word", "places"] (spR K (fun d : Dat => [.dt d, .dt .none, .dt .none]) (BadRow) fun _ => C_NoRow) f_past_withR d_past_withR) {f_past_withS : Addr} {d_past_withS : FuncData} (C_past_withS : CalR P w K mg base 5 "past_with" ["row", "word", "places"] (spR K (fun d : Dat => [.dt row3, .dt d, .dt .none]) (BadWord) fun _ => C_NoShelf) f_past_withS d_past_withS) {C_ShelfError : Addr} (g_ShelfError : mg "ShelfError" = some (.ref C_ShelfError)) {idx : Addr → Option Int} {f_w : Addr} {d_w : FuncData} (W_which : Xa.FnE P w K mg base 1 f_w d_w ["_law_e"] (spE idx)) (w_g : mg "_law_which" = some (.ref f_w)) (w_k : PySem.W.keepIn K (.ref f_w) = true) (w_b : Binds K d_w ["_law_e"] []) (w_eMarked : PySem.W.exmOne K (.ref C_Marked) (.ref C_ShelfError) = some true) (w_iMarked : idx C_Marked = some 4) (w_eNoPlaces : PySem.W.exmOne K (.ref C_NoPlaces) (.ref C_ShelfError) = some true) (w_iNoPlaces : idx C_NoPlaces = some 3) (w_eNoRow : PySem.W.exmOne K (.ref C_NoRow) (.ref C_ShelfError) = some true) (w_iNoRow : idx C_NoRow = some 0) (w_eNoShelf : PySem.W.exmOne K (.ref C_NoShelf) (.ref C_ShelfError) = some true) (w_iNoShelf : idx C_NoShelf = some 1) : Cal P w K mg base 6 "_law_ask" ["_law_what", "_law_one", "_law_two", "_law_three"] (spF K refA (refG 22 100) refV) f fd := by
  cases C_past_with.g.symm.trans C_past_withM.g
  cases C_past_with.g.symm.trans C_past_withP.g
  cases C_past_with.g.symm.trans C_past_withR.g
  cases C_past_with.g.symm.trans C_past_withS.g
  cases C_needed.g.symm.trans C_neededM.g
  cases C_needed.g.symm.trans C_neededR.g
  refine D.cal (ok_G D.F sc__law_ask refA_len (by decide) fun cdv A outer s H E hr => ⟨_, (pss_one (L2N.ps_try_as (i := 4) (ts := fun a cl d => tRet (tCall (spE idx a cl d) [] E0 (tCons (tVar 4) tNil))) rfl rfl sc__law_ask.nd rfl rfl ⟨rfl, by decide, .inl g_ShelfError⟩ Xa.takes0N (fun W pn xe tk _ => (pss_cons (ps_if (pt_cmpR op_lt (pv 0) pe_int (nomark _)) (pss_one ps_never) pss_nil) (pss_cons (ps_if (pt_cmpR op_lt (pv 0) pe_int (nomark _)) (pss_one ps_never) pss_nil) (pss_cons (ps_if (pt_cmpR op_lt (pv 0) pe_int (nomark _)) (pss_one ps_never) pss_nil) (pss_cons (ps_if (pt_cmpR op_lt (pv 0) pe_int (nomark _)) (pss_one ps_never) pss_nil) (pss_cons (ps_if (pt_cmpR (op_eqDK (K := K) rfl hr.units) (pv 0) pe_int (nomark _)) (pss_one ps_never) pss_nil) (pss_cons (ps_if (pt_cmpR op_gt (pv 0) pe_int (nomark _)) (pss_one (ps_ret (pe_ifExp (pt_cmpR (op_eqDK (K := K) rfl hr.units) (pv 0) pe_int (nomark _)) (Xa.pe_callAny (E := fun σ => WE W σ) (Xa.ccons (Xa.calW C_past_withR.G (hr.mono (by decide)) C_past_withR.kp C_past_withR.b tk) (Xa.ccons (Xa.calW C_past_withM.G (hr.mono (by decide)) C_past_withM.kp C_past_withM.b tk) (Xa.ccons (Xa.calW C_past_withS.G (hr.mono (by decide)) C_past_withS.kp C_past_withS.b tk) (Xa.ccons (Xa.calW C_past_withP.G (hr.mono (by decide)) C_past_withP.kp C_past_withP.b tk) (Xa.ccons (Xa.cal0 C_past_with.G (hr.mono (by decide)) C_past_with.kp C_past_with.b) Xa.cnil))))) (pe_glob (v := .ref f_past_with) (by rfl) C_past_with.g rfl) (pa_cons (pv 1) (pa_cons (pv 2) (pa_cons (pv 3) pa_nil)))) (Xa.pe_callAny (E := fun σ => WE W σ) (Xa.ccons (Xa.calW C_neededR.G (hr.mono (by decide)) C_neededR.kp C_neededR.b tk) (Xa.ccons (Xa.calW C_neededM.G (hr.mono (by decide)) C_neededM.kp C_neededM.b tk) (Xa.ccons (Xa.cal0 C_needed.G (hr.mono (by decide)) C_needed.kp C_needed.b) Xa.cnil))) (pe_glob (v := .ref f_needed) (by rfl) C_needed.g rfl) (pa_cons (pv 1) pa_nil))))) pss_nil) (pss_one ps_never)))))))) (fun a oe cls d pn hz hf => (pss_one (ps_ret (Xa.pe_callE (p := (a, oe)) (cls := cls) (d := d) W_which (L2H.RoomH.mono (Ld.roomX hr _) (by decide)) ⟨rfl, hf.choose, hf.choose_spec, hz.2.2 _ hf.choose_spec⟩ List.mem_cons_self hz (by rfl) w_g w_k w_b (pa_cons (pv 4) pa_nil))))))), fun x hp => ?_⟩)
  obtain ⟨k, a, b, c, v⟩ := x
  obtain ⟨hp, h0, h1⟩ := hp
  have hp : RefR k a b c v := hp
  dsimp only at h0 h1
  show VSs K [.dt (.int k), .dt a, .dt b, .dt c, .no] _ _
  refine ss_trySkip (fun ss => ?_) ?_
  · walk_at "w"
    exact ⟨decide_eq_false (by omega), rfl⟩
  refine ss_trySkip (fun ss => ?_) ?_
  · walk_at "w"
    exact ⟨decide_eq_false (by omega), rfl⟩
  refine ss_trySkip (fun ss => ?_) ?_
  · walk_at "w"
    exact ⟨decide_eq_false (by omega), rfl⟩
  refine ss_trySkip (fun ss => ?_) ?_
  · walk_at "w"
    exact ⟨decide_eq_false (by omega), rfl⟩
  refine ss_trySkip (fun ss => ?_) ?_
  · walk_at "w"
    exact ⟨decide_eq_false (by omega), rfl⟩
  refine ss_tryTake (fun ss => ?_) ?_
  · walk_at "w"
    exact ⟨decide_eq_true (by omega), rfl⟩
  cases hp with
  | row hk hn hb =>
    omega
  | mark hk =>
    omega
  | shelf hk hb =>
    omega
  | line8 hb =>
    omega
  | line hk hk2 hb =>
    omega
  | places9 hb =>
    omega
  | places hk hb =>
    omega
  | places15 hb =>
    omega
  | many hb =>
    omega
  | counts hb =>
    omega
  | ahead =>
    omega
  | rowOf =>
    omega
  | letting hk hk2 hb =>
    omega
  | let1 =>
    omega
  | let2 =>
    omega
  | mv hb =>
    omega
  | mv1 =>
    omega
  | mv2 =>
    omega
  | wrow hk hb =>
    obtain rfl | rfl : k = 22 ∨ k = 23 := by omega
    · refine ss_tryIfE true (fun ss => ?_) (fun e => ?_) (fun e => ?_)
      · walk_at "w"
        exact ⟨by decide, rfl⟩
      · refine ss_tryRef (by show 4 < 5; decide) List.mem_cons_self (fun ss => ?_)
        walk_at "w"
        exact ⟨a, 0, rfl, hb, w_eNoRow, w_iNoRow, rfl⟩
      · cases e
    · refine ss_tryIfE false (fun ss => ?_) (fun e => ?_) (fun e => ?_)
      · walk_at "w"
        exact ⟨by decide, rfl⟩
      · cases e
      · refine ss_tryRef (by show 4 < 5; decide) List.mem_cons_self (fun ss => ?_)
        walk_at "w"
        exact ⟨a, 0, rfl, hb, w_eNoRow, w_iNoRow, rfl⟩
  | wmark hk =>
    obtain rfl | rfl : k = 22 ∨ k = 23 := by omega
    · refine ss_tryIfE true (fun ss => ?_) (fun e => ?_) (fun e => ?_)
      · walk_at "w"
        exact ⟨by decide, rfl⟩
      · refine ss_tryRef (by show 4 < 5; decide) (List.mem_cons_of_mem _ List.mem_cons_self) (fun ss => ?_)
        walk_at "w"
        exact ⟨(), 4, rfl, trivial, w_eMarked, w_iMarked, rfl⟩
      · cases e
    · refine ss_tryIfE false (fun ss => ?_) (fun e => ?_) (fun e => ?_)
      · walk_at "w"
        exact ⟨by decide, rfl⟩
      · cases e
      · refine ss_tryRef (by show 4 < 5; decide) (List.mem_cons_of_mem _ List.mem_cons_self) (fun ss => ?_)
        walk_at "w"
        exact ⟨(), 4, rfl, trivial, w_eMarked, w_iMarked, rfl⟩
  | word hb =>
    refine ss_tryIfE true (fun ss => ?_) (fun e => ?_) (fun e => ?_)
    · walk_at "w"
      exact ⟨by decide, rfl⟩
    · refine ss_tryRef (by show 4 < 5; decide) (List.mem_cons_of_mem _ (List.mem_cons_of_mem _ List.mem_cons_self)) (fun ss => ?_)
      walk_at "w"
      exact ⟨b, 1, rfl, hb, w_eNoShelf, w_iNoShelf, rfl⟩
    · cases e
  | pls hb =>
    refine ss_tryIfE true (fun ss => ?_) (fun e => ?_) (fun e => ?_)
    · walk_at "w"
      exact ⟨by decide, rfl⟩
    · refine ss_tryRef (by show 4 < 5; decide) (List.mem_cons_of_mem _ (List.mem_cons_of_mem _ (List.mem_cons_of_mem _ List.mem_cons_self))) (fun ss => ?_)
      walk_at "w"
      exact ⟨c, 3, rfl, hb, w_eNoPlaces, w_iNoPlaces, rfl⟩
    · cases e
  | pw =>
    refine ss_tryIfE true (fun ss => ?_) (fun e => ?_) (fun e => ?_)
    · walk_at "w"
      exact ⟨by decide, rfl⟩
    · refine ss_retD fun D ss => ?_
      refine vd_of (ve_callRef (List.mem_cons_of_mem _ (List.mem_cons_of_mem _ (List.mem_cons_of_mem _ (List.mem_cons_of_mem _ List.mem_cons_self)))) ?_)
      walk_at "w"
      refine ⟨(false, [3, 1, 2], [0, 9, 1]), rfl, ⟨by decide, by decide, by decide, by decide⟩, ?_⟩
      intro d ed
      subst ed
      walk_at "w"
      exact congrArg (fun z : List Int => PyData.tuple (iL z)) lp3
    · cases e
  | need =>
    refine ss_tryIfE false (fun ss => ?_) (fun e => ?_) (fun e => ?_)
    · walk_at "w"
      exact ⟨by decide, rfl⟩
    · cases e
    · refine ss_retD fun D ss => ?_
      refine vd_of (ve_callRef (List.mem_cons_of_mem _ (List.mem_cons_of_mem _ List.mem_cons_self)) ?_)
      walk_at "w"
      refine ⟨[3, 1, 2], rfl, ⟨by decide, by decide⟩, ?_⟩
      intro d ed
      subst ed
      walk_at "w"
      exact congrArg (fun z : List Int => PyData.list (iL z)) (show (ndN [3, 1, 2]).map Int.ofNat = [1, 1, 0] by decide +kernel)
theorem ok_ask6 {f : Addr} {fd : FuncData} {C_Line : Addr} (T_Line : LnC K C_Line) (D : Df K mg "_law_ask" s__law_ask ["_law_what", "_law_one", "_law_two", "_law_three"] f fd) {C_NoLine : Addr} {f_Line___init__R : Addr} {d_Line___init__R : FuncData} (C_Line___init__R : CalMR P w K mg base 7 C_Line "__init__" ["self", "shelves"] (spInitR K C_Line BadLine C_NoLine) f_Line___init__R d_Line___init__R) {f_line_textL : Addr} {d_line_textL : FuncData} (C_line_textL : CalR P w K mg base 7 "line_text" ["line"] (spR K (fun d : Dat => [.dt d]) (BadLine) fun _ => C_NoLine) f_line_textL d_line_textL) {f_mergedL : Addr} {d_mergedL : FuncData} (C_mergedL : CalR P w K mg base 7 "merged" ["line"] (spR K (fun d : Dat => [.dt d]) (BadLine) fun _ => C_NoLine) f_mergedL d_mergedL) (M_Line : Mk K C_Line f_Line___init__R) (g_Line : mg "Line" = some (.ref C_Line)) {C_ShelfError : Addr} (g_ShelfError : mg "ShelfError" = some (.ref C_ShelfError)) {idx : Addr → Option Int} {f_w : Addr} {d_w : FuncData} (W_which : Xa.FnE P w K mg base 1 f_w d_w ["_law_e"] (spE idx)) (w_g : mg "_law_which" = some (.ref f_w)) (w_k : PySem.W.keepIn K (.ref f_w) = true) (w_b : Binds K d_w ["_law_e"] []) (w_eNoLine : PySem.W.exmOne K (.ref C_NoLine) (.ref C_ShelfError) = some true) (w_iNoLine : idx C_NoLine = some 2) : Cal P w K mg base 9 "_law_ask" ["_law_what", "_law_one", "_law_two", "_law_three"] (spF K refA (refG 19 22) refV) f fd := by

  refine D.cal (ok_G D.F sc__law_ask refA_len (by decide) fun cdv A outer s H E hr => ⟨_, (pss_one (L2N.ps_try_as (i := 4) (ts := fun a cl d => tRet (tCall (spE idx a cl d) [] E0 (tCons (tVar 4) tNil))) rfl rfl sc__law_ask.nd rfl rfl ⟨rfl, by decide, .inl g_ShelfError⟩ Xa.takes0N (fun W pn xe tk _ => (pss_cons (ps_if (pt_cmpR op_lt (pv 0) pe_int (nomark _)) (pss_one ps_never) pss_nil) (pss_cons (ps_if (pt_cmpR op_lt (pv 0) pe_int (nomark _)) (pss_one ps_never) pss_nil) (pss_cons (ps_if (pt_cmpR op_lt (pv 0) pe_int (nomark _)) (pss_one ps_never) pss_nil) (pss_cons (ps_if (pt_cmpR op_lt (pv 0) pe_int (nomark _)) (pss_one ps_never) pss_nil) (pss_cons (ps_if (pt_cmpR (op_eqDK (K := K) rfl hr.units) (pv 0) pe_int (nomark _)) (pss_one ps_never) pss_nil) (pss_cons (ps_if (pt_cmpR op_gt (pv 0) pe_int (nomark _)) (pss_one ps_never) pss_nil) (pss_one (ps_ret (pe_ifExp (pt_cmpR (op_eqDK (K := K) rfl hr.units) (pv 0) pe_int (nomark _)) (Xa.pe_makeS M_Line C_Line___init__R.G (hr.mono (by decide)) (by rfl) g_Line C_Line___init__R.b (fun σ => L2N.passAt tk σ) (pa_cons (pv 1) pa_nil)) (Xa.pe_callAny (E := fun σ => WE W σ) (Xa.ccons (Xa.calW C_mergedL.G (hr.mono (by decide)) C_mergedL.kp C_mergedL.b tk) (Xa.ccons (Xa.calW C_line_textL.G (hr.mono (by decide)) C_line_textL.kp C_line_textL.b tk) Xa.cnil)) (pe_ix (ix_listK (K := K) rfl) (pe_lst (pa_cons (pe_glob (v := .ref f_mergedL) (by rfl) C_mergedL.g rfl) (pa_cons (pe_glob (v := .ref f_line_textL) (by rfl) C_line_textL.g rfl) pa_nil))) (pe_op op_sub (pv 0) pe_int) (fun _ _ => rfl)) (pa_cons (pv 1) pa_nil)))))))))))) (fun a oe cls d pn hz hf => (pss_one (ps_ret (Xa.pe_callE (p := (a, oe)) (cls := cls) (d := d) W_which (L2H.RoomH.mono (Ld.roomX hr _) (by decide)) ⟨rfl, hf.choose, hf.choose_spec, hz.2.2 _ hf.choose_spec⟩ List.mem_cons_self hz (by rfl) w_g w_k w_b (pa_cons (pv 4) pa_nil))))))), fun x hp => ?_⟩)
  obtain ⟨k, a, b, c, v⟩ := x
  obtain ⟨hp, h0, h1⟩ := hp
  have hp : RefR k a b c v := hp
  dsimp only at h0 h1
  show VSs K [.dt (.int k), .dt a, .dt b, .dt c, .no] _ _
  refine ss_trySkip (fun ss => ?_) ?_
  · walk_at "w"
    exact ⟨decide_eq_false (by omega), rfl⟩
  refine ss_trySkip (fun ss => ?_) ?_
  · walk_at "w"
    exact ⟨decide_eq_false (by omega), rfl⟩
  refine ss_trySkip (fun ss => ?_) ?_
  · walk_at "w"
    exact ⟨decide_eq_false (by omega), rfl⟩
  refine ss_trySkip (fun ss => ?_) ?_
  · walk_at "w"
    exact ⟨decide_eq_false (by omega), rfl⟩
  refine ss_trySkip (fun ss => ?_) ?_
  · walk_at "w"
    exact ⟨decide_eq_false (by omega), rfl⟩
  refine ss_trySkip (fun ss => ?_) ?_
  · walk_at "w"
    exact ⟨decide_eq_false (by omega), rfl⟩
  cases hp with
  | row hk hn hb =>
    omega
  | mark hk =>
    omega
  | shelf hk hb =>
    omega
  | line8 hb =>
    omega
  | line hk hk2 hb =>
    obtain rfl | rfl | rfl : k = 19 ∨ k = 20 ∨ k = 21 := by omega
    · refine ss_tryIfE true (fun ss => ?_) (fun e => ?_) (fun e => ?_)
      · walk_at "w"
        exact ⟨by decide, rfl⟩
      · refine ss_tryMake (by show 4 < 5; decide) (fun ss => ?_)
        walk_at "w"
        exact ⟨a, 2, rfl, hb, w_eNoLine, w_iNoLine, rfl⟩
      · cases e
    · refine ss_tryIfE false (fun ss => ?_) (fun e => ?_) (fun e => ?_)
      · walk_at "w"
        exact ⟨by decide, rfl⟩
      · cases e
      · refine ss_tryTabX (fs := [f_mergedL, f_line_textL]) (j := 0) (f := f_mergedL) (by show 4 < 5; decide) (by simp) (ixd_sub (c := 20) rfl rfl) rfl List.mem_cons_self (fun ss => ?_)
        walk_at "w"
        exact ⟨a, 2, rfl, hb, w_eNoLine, w_iNoLine, rfl⟩
    · refine ss_tryIfE false (fun ss => ?_) (fun e => ?_) (fun e => ?_)
      · walk_at "w"
        exact ⟨by decide, rfl⟩
      · cases e
      · refine ss_tryTabX (fs := [f_mergedL, f_line_textL]) (j := 1) (f := f_line_textL) (by show 4 < 5; decide) (by simp) (ixd_sub (c := 20) rfl rfl) rfl (List.mem_cons_of_mem _ List.mem_cons_self) (fun ss => ?_)
        walk_at "w"
        exact ⟨a, 2, rfl, hb, w_eNoLine, w_iNoLine, rfl⟩
  | places9 hb =>
    omega
  | places hk hb =>
    omega
  | places15 hb =>
    omega
  | many hb =>
    omega
  | counts hb =>
    omega
  | ahead =>
    omega
  | rowOf =>
    omega
  | letting hk hk2 hb =>
    omega
  | let1 =>
    omega
  | let2 =>
    omega
  | mv hb =>
    omega
  | mv1 =>
    omega
  | mv2 =>
    omega
  | wrow hk hb =>
    omega
  | wmark hk =>
    omega
  | word hb =>
    omega
  | pls hb =>
    omega
  | pw =>
    omega
  | need =>
    omega
theorem ok__law_ask {f : Addr} {fd : FuncData} (C_ask0 : Cal P w K mg base 6 "_law_ask" ["_law_what", "_law_one", "_law_two", "_law_three"] (spF K refA (refG 0 6) refV) f fd) (C_ask1 : Cal P w K mg base 8 "_law_ask" ["_law_what", "_law_one", "_law_two", "_law_three"] (spF K refA (refG 6 14) refV) f fd) (C_ask2 : Cal P w K mg base 7 "_law_ask" ["_law_what", "_law_one", "_law_two", "_law_three"] (spF K refA (refG 14 16) refV) f fd) (C_ask3 : Cal P w K mg base 7 "_law_ask" ["_law_what", "_law_one", "_law_two", "_law_three"] (spF K refA (refG 16 18) refV) f fd) (C_ask4 : Cal P w K mg base 6 "_law_ask" ["_law_what", "_law_one", "_law_two", "_law_three"] (spF K refA (refG 18 19) refV) f fd) (C_ask5 : Cal P w K mg base 6 "_law_ask" ["_law_what", "_law_one", "_law_two", "_law_three"] (spF K refA (refG 22 100) refV) f fd) (C_ask6 : Cal P w K mg base 9 "_law_ask" ["_law_what", "_law_one", "_law_two", "_law_three"] (spF K refA (refG 19 22) refV) f fd) : Cal P w K mg base 9 "_law_ask" ["_law_what", "_law_one", "_law_two", "_law_three"] (spF K refA refP refV) f fd := ⟨FnOk.imp (FnOk_or (FnOk_or (FnOk_or (FnOk_or (FnOk_or (FnOk_or (C_ask0.G.mono (by decide)) (C_ask1.G.mono (by decide))) (C_ask2.G.mono (by decide))) (C_ask3.G.mono (by decide))) (C_ask4.G.mono (by decide))) (C_ask5.G.mono (by decide))) (C_ask6.G.mono (by decide))) fun _ _ _ _ => ref_un, C_ask0.g, C_ask0.kp, C_ask0.b⟩
theorem ok__law_places_refused {f : Addr} {fd : FuncData} (D : Df K mg "_law_places_refused" s__law_places_refused ["_law_row"] f fd) {f__law_ask : Addr} {d__law_ask : FuncData} (C__law_ask : Cal P w K mg base 9 "_law_ask" ["_law_what", "_law_one", "_law_two", "_law_three"] (spF K refA refP refV) f__law_ask d__law_ask) (m_list : mg "list" = none) (m_range : mg "range" = none) (m_tuple : mg "tuple" = none) : Cal P w K mg base 10 "_law_places_refused" ["_law_row"] (spF K (fun _ : Unit => [.dt row3]) (fun _ => True) fun _ => .bool true) f fd := by
  refine D.cal (ok_G D.F sc__law_places_refused (fun _ => rfl) (by decide) fun cdv A outer s H E hr => ⟨_, (pss_cons (ps_for PassesOwn.never rfl (pi_list (pe_lst (pa_cons pe_non (pa_cons (pe_un un_neg pe_int) (pa_cons pe_int (pa_cons pe_str (pa_cons pe_bl pa_nil))))))) (pg_name (i := 1) sc__law_places_refused.nd rfl (by first | exact Or.inl rfl | exact Or.inr rfl)) (pss_cons (ps_stop (ps_if (pt_cmpR (op_neD hr.units) (pe_lc (own := [("_law_what", 3)]) rfl sc__law_places_refused.nd (pi_tup (pe_tupF (pa_cons pe_int (pa_cons pe_int (pa_cons pe_int (pa_cons pe_int (pa_cons pe_int (pa_cons pe_int (pa_cons pe_int pa_nil))))))))) (blkOk_by (own := [("_law_what", 3)]) (N := ["_law_row", "_law_bad_one", "_law_some", "_law_what"]) (sc := (defScope s__law_places_refused)) (by decide +kernel)) (fun _ _ _ _ _ => (pg_name (i := 3) sc__law_places_refused.nd rfl (by first | exact Or.inl rfl | exact Or.inr rfl))) (fun _ _ _ _ _ => pts_nil) (fun _ _ _ _ _ => (pe_call C__law_ask.G (hr.mono (by decide)) (by rfl) C__law_ask.g C__law_ask.kp C__law_ask.b .nil pass0 (pa_cons (pv 3) (pa_cons (pv 0) (pa_cons (pv 1) (pa_cons pe_non pa_nil))))))) (pe_op op_rep (pe_lst (pa_cons (pe_tupF (pa_cons pe_str (pa_cons pe_int pa_nil))) pa_nil)) pe_int) (nomark _)) (pss_one (ps_ret pe_bl)) pss_nil))
      (pss_one (ps_stop (ps_if (pt_cmpR (op_neD hr.units) (pe_call C__law_ask.G (hr.mono (by decide)) (by rfl) C__law_ask.g C__law_ask.kp C__law_ask.b .nil pass0 (pa_cons pe_int (pa_cons pe_int (pa_cons (pv 1) (pa_cons pe_non pa_nil))))) (pe_tupF (pa_cons pe_str (pa_cons pe_int pa_nil))) (nomark _)) (pss_one (ps_ret pe_bl)) pss_nil)))))
      (pss_cons (ps_stop (ps_if (pt_cmpR (op_neD hr.units) (pe_call C__law_ask.G (hr.mono (by decide)) (by rfl) C__law_ask.g C__law_ask.kp C__law_ask.b .nil pass0 (pa_cons pe_int (pa_cons (pv 0) (pa_cons pe_int (pa_cons pe_non pa_nil))))) (pe_tupF (pa_cons pe_str (pa_cons pe_int pa_nil))) (nomark _)) (pss_one (ps_ret pe_bl)) pss_nil))
      (pss_cons (ps_for PassesOwn.never rfl (pi_list (pe_lst (pa_cons pe_non (pa_cons (pe_un un_neg pe_int) (pa_cons pe_int (pa_cons pe_str (pa_cons pe_bl pa_nil))))))) (pg_name (i := 1) sc__law_places_refused.nd rfl (by first | exact Or.inl rfl | exact Or.inr rfl)) (pss_one (ps_stop (ps_if (pt_cmpR (op_neD hr.units) (pe_call C__law_ask.G (hr.mono (by decide)) (by rfl) C__law_ask.g C__law_ask.kp C__law_ask.b .nil pass0 (pa_cons pe_int (pa_cons (pv 1) (pa_cons pe_non (pa_cons pe_non pa_nil))))) (pe_tupF (pa_cons pe_str (pa_cons pe_int pa_nil))) (nomark _)) (pss_one (ps_ret pe_bl)) pss_nil))))
      (pss_cons (ps_set (i := 2) sc__law_places_refused.nd rfl (Or.inl rfl) (pe_lst (pa_cons pe_non (pa_cons (pe_tupF (pa_cons pe_int (pa_cons pe_int (pa_cons pe_int pa_nil)))) (pa_cons (pe_lst (pa_cons pe_int (pa_cons pe_int pa_nil))) (pa_cons (pe_lst (pa_cons pe_int (pa_cons pe_int (pa_cons pe_int (pa_cons pe_int pa_nil))))) (pa_cons (pe_lst (pa_cons pe_int (pa_cons pe_int (pa_cons pe_int pa_nil)))) (pa_cons (pe_lst (pa_cons pe_int (pa_cons pe_int (pa_cons pe_int pa_nil)))) (pa_cons (pe_lst (pa_cons pe_int (pa_cons pe_int (pa_cons (pe_un un_neg pe_int) pa_nil)))) (pa_cons (pe_lst (pa_cons pe_int (pa_cons pe_int (pa_cons pe_int pa_nil)))) (pa_cons (pe_lst (pa_cons pe_int (pa_cons pe_bl (pa_cons pe_int pa_nil)))) pa_nil)))))))))))
      (pss_cons (ps_for PassesOwn.never rfl (pi_list (pe_op op_cat (pv 2) (pe_lst (pa_cons (pe_lst (pa_cons pe_int (pa_cons pe_str (pa_cons pe_int pa_nil)))) pa_nil)))) (pg_name (i := 1) sc__law_places_refused.nd rfl (by first | exact Or.inl rfl | exact Or.inr rfl)) (pss_one (ps_stop (ps_if (pt_cmpR (op_neD hr.units) (pe_call C__law_ask.G (hr.mono (by decide)) (by rfl) C__law_ask.g C__law_ask.kp C__law_ask.b .nil pass0 (pa_cons pe_int (pa_cons (pv 0) (pa_cons (pv 1) (pa_cons pe_non pa_nil))))) (pe_tupF (pa_cons pe_str (pa_cons pe_int pa_nil))) (nomark _)) (pss_one (ps_ret pe_bl)) pss_nil))))
      (pss_cons (ps_stop (ps_if (pt_cmpR (op_neD hr.units) (pe_call C__law_ask.G (hr.mono (by decide)) (by rfl) C__law_ask.g C__law_ask.kp C__law_ask.b .nil pass0 (pa_cons pe_int (pa_cons (pe_callTy cl_tupleF (by rfl) m_tuple (by decide +kernel) (pa_cons (pe_listRg rfl (by rfl) m_list (prg_1 (by rfl) m_range pe_int)) pa_nil)) (pa_cons pe_int (pa_cons pe_non pa_nil))))) (pe_tupF (pa_cons pe_str (pa_cons pe_int pa_nil))) (nomark _)) (pss_one (ps_ret pe_bl)) pss_nil))
      (pss_one (ps_ret (pe_cmpR (op_eqD hr.units) (pe_call C__law_ask.G (hr.mono (by decide)) (by rfl) C__law_ask.g C__law_ask.kp C__law_ask.b .nil pass0 (pa_cons pe_int (pa_cons (pv 0) (pa_cons (pe_lst (pa_cons pe_int (pa_cons pe_int (pa_cons pe_int pa_nil)))) (pa_cons pe_non pa_nil))))) (pe_tupF (pa_cons pe_int (pa_cons pe_int (pa_cons pe_int pa_nil)))) (nomark _)))))))))), fun x hp => ?_⟩)
  walk_at "s"
  walk_at "w"
  refine ss_for (fun i Γ => ∃ q : Cell, Γ = [.dt row3, q, .no, .no]) fun ss => ?_
  walk_at "w"
  refine ⟨fun i d Γ2 hd ⟨q, ec⟩ => ?_, fun Γ2 ⟨q1, ec⟩ => ?_⟩
  · subst ec
    have h0 := bPl (allB (chk := chPl 0) (by decide +kernel) hd)
    have h1 := bPl (allB (chk := chPl 1) (by decide +kernel) hd)
    walk_at "w"
    walk_at "s"
    refine ss_same ?_ ?_
    · refine ss_if fun ss => ?_
      refine vt_cutT false ?_ ?_
      · walk_at "w"
        apply ve_lcT (vs := [3]) (fun k : Nat => PyData.int k) [9, 11, 12, 13, 14, 16, 17] (fun _ => true) (fun _ => rfd 3) (by walk_at "n")
        walk_at "w"
        refine ⟨rfl, by simp, gl_lt (by decide), fun k hk => ⟨_, tg_name (by decide), fun acc srcs => ?_⟩, ?_⟩
        · walk_at "s"
          walk_at "w"
          refine ⟨rfl, fun _ => ?_, fun _ => rfl⟩
          walk_at "w"
          refine ⟨(k, row3, d, .none, rfd 3), rfl, (by
            have hk2 : k = 9 ∨ (11 ≤ k ∧ k ≤ 14 ∨ 16 ≤ k ∧ k ≤ 17) := (by simp at hk; omega)
            rcases hk2 with rfl | h
            · exact .places9 h1
            · exact .places h h0), ?_⟩
          walk_at "w"
          exact ⟨rfl, rfl⟩
        rw [fil_true]
        walk_at "w"
        refine r2_rep (.inr rfl) (by decide) (by decide) (gl_le (by decide)) ?_
        refine r2_neD rd_fr rd_fr (by decide +kernel) (by decide +kernel) ?_
        rw [show PyData.eqv (.list (List.map (fun _ : Nat => rfd 3) [9, 11, 12, 13, 14, 16, 17])) (.list (List.replicate (7 : Int).toNat [PyData.tuple [.str "refused", .int 3]]).flatten) = true by decide +kernel]
        walk_at "w"
        exact ⟨rfl, rfl⟩
      · refine ⟨fun e => (by cases e), fun _ => ?_⟩
        walk_at "w"
    walk_at "w"
    walk_at "s"
    refine ss_same ?_ ?_
    · refine ss_if fun ss => ?_
      refine vt_cutT false ?_ ?_
      · walk_at "w"
        refine ⟨(15, .int 3, d, .none, rfd 3), rfl, .places15 h0, ?_⟩
        walk_at "w"
        refine r2_neD rd_dt rd_dt (by show SeqAt.shaped (rfd 3) = true; decide +kernel) (by decide +kernel) ?_
        rw [show PyData.eqv (refV (15, .int 3, d, .none, rfd 3)) (.tuple [.str "refused", .int 3]) = true by show PyData.eqv (rfd 3) (rfd 3) = true; decide +kernel]
        walk_at "w"
        exact ⟨rfl, rfl⟩
      · refine ⟨fun e => (by cases e), fun _ => ?_⟩
        walk_at "w"
    walk_at "w"
    exact ⟨_, rfl⟩
  subst ec
  walk_at "w"
  walk_at "s"
  refine ss_same ?_ ?_
  · refine ss_if fun ss => ?_
    refine vt_cutT false ?_ ?_
    · walk_at "w"
      refine ⟨(9, row3, .int 0, .none, rfd 3), rfl, .places9 (bPl (by decide +kernel)), ?_⟩
      walk_at "w"
      refine r2_neD rd_dt rd_dt (by show SeqAt.shaped (rfd 3) = true; decide +kernel) (by decide +kernel) ?_
      rw [show PyData.eqv (refV (9, row3, .int 0, .none, rfd 3)) (.tuple [.str "refused", .int 3]) = true by show PyData.eqv (rfd 3) (rfd 3) = true; decide +kernel]
      walk_at "w"
      exact ⟨rfl, rfl⟩
    · refine ⟨fun e => (by cases e), fun _ => ?_⟩
      walk_at "w"
  walk_at "w"
  refine ss_for (fun i Γ => ∃ q : Cell, Γ = [.dt row3, q, .no, .no]) fun ss => ?_
  walk_at "w"
  refine ⟨fun i d Γ2 hd ⟨q, ec⟩ => ?_, fun Γ2 ⟨q2, ec⟩ => ?_⟩
  · subst ec
    have h0 := bMany (allB (chk := chMany) (by decide +kernel) hd)
    walk_at "w"
    walk_at "s"
    refine ss_same ?_ ?_
    · refine ss_if fun ss => ?_
      refine vt_cutT false ?_ ?_
      · walk_at "w"
        refine ⟨(15, d, .none, .none, rfd 7), rfl, .many h0, ?_⟩
        walk_at "w"
        refine r2_neD rd_dt rd_dt (by show SeqAt.shaped (rfd 7) = true; decide +kernel) (by decide +kernel) ?_
        rw [show PyData.eqv (refV (15, d, .none, .none, rfd 7)) (.tuple [.str "refused", .int 7]) = true by show PyData.eqv (rfd 7) (rfd 7) = true; decide +kernel]
        walk_at "w"
        exact ⟨rfl, rfl⟩
      · refine ⟨fun e => (by cases e), fun _ => ?_⟩
        walk_at "w"
    walk_at "w"
    exact ⟨_, rfl⟩
  subst ec
  walk_at "w"
  walk_at "s"
  walk_at "w"
  refine ss_for (fun i Γ => ∃ q : Cell, Γ = [.dt row3, q, .ow badCs, .no]) fun ss => ?_
  walk_at "w"
  refine r2_catR (rd_ow rfl) rd_fr (gl_le (by decide)) ?_
  walk_at "w"
  refine ⟨fun i d Γ2 hd ⟨q, ec⟩ => ?_, fun Γ2 ⟨q3, ec⟩ => ?_⟩
  · subst ec
    have h0 := bCnt (allB (chk := chCnt) (by decide +kernel) hd)
    walk_at "w"
    walk_at "s"
    refine ss_same ?_ ?_
    · refine ss_if fun ss => ?_
      refine vt_cutT false ?_ ?_
      · walk_at "w"
        refine ⟨(10, row3, d, .none, rfd 5), rfl, .counts h0, ?_⟩
        walk_at "w"
        refine r2_neD rd_dt rd_dt (by show SeqAt.shaped (rfd 5) = true; decide +kernel) (by decide +kernel) ?_
        rw [show PyData.eqv (refV (10, row3, d, .none, rfd 5)) (.tuple [.str "refused", .int 5]) = true by show PyData.eqv (rfd 5) (rfd 5) = true; decide +kernel]
        walk_at "w"
        exact ⟨rfl, rfl⟩
      · refine ⟨fun e => (by cases e), fun _ => ?_⟩
        walk_at "w"
    walk_at "w"
    exact ⟨_, rfl⟩
  subst ec
  walk_at "w"
  walk_at "s"
  refine ss_same ?_ ?_
  · refine ss_if fun ss => ?_
    refine vt_cutT false ?_ ?_
    · walk_at "w"
      refine ⟨by decide, ?_⟩
      walk_at "w"
      refine ⟨(13, row12, .int 9, .none, rfd 7), rfl, .ahead, ?_⟩
      walk_at "w"
      refine r2_neD rd_dt rd_dt (by show SeqAt.shaped (rfd 7) = true; decide +kernel) (by decide +kernel) ?_
      rw [show PyData.eqv (refV (13, row12, .int 9, .none, rfd 7)) (.tuple [.str "refused", .int 7]) = true by show PyData.eqv (rfd 7) (rfd 7) = true; decide +kernel]
      walk_at "w"
      exact ⟨rfl, rfl⟩
    · refine ⟨fun e => (by cases e), fun _ => ?_⟩
      walk_at "w"
  walk_at "w"
  refine ⟨(10, row3, .list [.int 0, .int 1, .int 2], .none, .tuple [.int 3, .int 2, .int 1]), rfl, .rowOf, ?_⟩
  walk_at "w"
  refine r2_eqD rd_dt rd_dt (by show SeqAt.shaped (.tuple [.int 3, .int 2, .int 1]) = true; decide +kernel) (by decide +kernel) ?_
  walk_at "w"
  exact congrArg PyData.bool (by show PyData.eqv (.tuple [.int 3, .int 2, .int 1]) (.tuple [.int 3, .int 2, .int 1]) = true; decide +kernel)
theorem ok__law_deeds_refused {f : Addr} {fd : FuncData} (D : Df K mg "_law_deeds_refused" s__law_deeds_refused ["_law_row"] f fd) {f__law_ask : Addr} {d__law_ask : FuncData} (C__law_ask : Cal P w K mg base 9 "_law_ask" ["_law_what", "_law_one", "_law_two", "_law_three"] (spF K refA refP refV) f__law_ask d__law_ask) : Cal P w K mg base 10 "_law_deeds_refused" ["_law_row"] (spF K (fun _ : Unit => [.dt row3]) (fun _ => True) fun _ => .bool true) f fd := by
  refine D.cal (ok_G D.F sc__law_deeds_refused (fun _ => rfl) (by decide) fun cdv A outer s H E hr => ⟨_, (pss_cons (ps_set (i := 1) sc__law_deeds_refused.nd rfl (Or.inl rfl) (pe_lst (pa_cons pe_non (pa_cons (pe_tupF pa_nil) (pa_cons (pe_lst (pa_cons pe_str (pa_cons pe_int pa_nil))) (pa_cons (pe_tupF (pa_cons pe_str (pa_cons pe_int (pa_cons pe_str (pa_cons pe_int (pa_cons pe_str pa_nil)))))) (pa_cons (pe_tupF (pa_cons pe_str (pa_cons pe_str (pa_cons pe_str (pa_cons pe_int (pa_cons pe_int (pa_cons pe_int pa_nil))))))) (pa_cons (pe_tupF (pa_cons pe_str (pa_cons pe_int (pa_cons pe_int (pa_cons pe_str (pa_cons pe_int (pa_cons pe_str pa_nil))))))) pa_nil))))))))
      (pss_cons (ps_expr (pe_bm PySem.F.plainAttrs_list PySem.F.slot_list_extend PySem.F.type_list_extend mt_extend (pv 1) (pa_cons (pe_lst (pa_cons (pe_tupF (pa_cons pe_str (pa_cons pe_int (pa_cons pe_str (pa_cons pe_int (pa_cons pe_str (pa_cons pe_int pa_nil))))))) (pa_cons (pe_tupF (pa_cons pe_int (pa_cons pe_str (pa_cons pe_str (pa_cons pe_int (pa_cons pe_str (pa_cons pe_int pa_nil))))))) (pa_cons (pe_tupF (pa_cons pe_str (pa_cons pe_int (pa_cons pe_str (pa_cons pe_int (pa_cons pe_str (pa_cons pe_str pa_nil))))))) pa_nil)))) pa_nil)))
      (pss_cons (ps_expr (pe_bm PySem.F.plainAttrs_list PySem.F.slot_list_extend PySem.F.type_list_extend mt_extend (pv 1) (pa_cons (pe_lst (pa_cons (pe_tupF (pa_cons pe_str (pa_cons pe_int (pa_cons pe_str (pa_cons pe_bl (pa_cons pe_str (pa_cons pe_int pa_nil))))))) (pa_cons (pe_tupF (pa_cons pe_str (pa_cons pe_int (pa_cons pe_str (pa_cons pe_int (pa_cons pe_str (pa_cons pe_int pa_nil))))))) (pa_cons (pe_tupF (pa_cons pe_str (pa_cons pe_int (pa_cons pe_str (pa_cons pe_int (pa_cons pe_str (pa_cons pe_int pa_nil))))))) pa_nil)))) pa_nil)))
      (pss_cons (ps_for PassesOwn.never rfl (pi_list (pe_op op_cat (pv 1) (pe_lst (pa_cons (pe_tupF (pa_cons pe_str (pa_cons pe_str (pa_cons pe_int (pa_cons pe_int (pa_cons pe_str (pa_cons pe_int (pa_cons pe_int pa_nil)))))))) (pa_cons (pe_tupF (pa_cons pe_str (pa_cons pe_str (pa_cons pe_int (pa_cons pe_str (pa_cons pe_str (pa_cons pe_int pa_nil))))))) pa_nil))))) (pg_name (i := 2) sc__law_deeds_refused.nd rfl (by first | exact Or.inl rfl | exact Or.inr rfl)) (pss_one (ps_stop (ps_if (pt_cmpR (op_neD hr.units) (pe_lc (own := [("_law_what", 5)]) rfl sc__law_deeds_refused.nd (pi_tup (pe_tupF (pa_cons pe_int (pa_cons pe_int pa_nil)))) (blkOk_by (own := [("_law_what", 5)]) (N := ["_law_row", "_law_some", "_law_bad_one", "_law_one", "_law_other", "_law_what"]) (sc := (defScope s__law_deeds_refused)) (by decide +kernel)) (fun _ _ _ _ _ => (pg_name (i := 5) sc__law_deeds_refused.nd rfl (by first | exact Or.inl rfl | exact Or.inr rfl))) (fun _ _ _ _ _ => pts_nil) (fun _ _ _ _ _ => (pe_call C__law_ask.G (hr.mono (by decide)) (by rfl) C__law_ask.g C__law_ask.kp C__law_ask.b .nil pass0 (pa_cons (pv 5) (pa_cons (pv 0) (pa_cons pe_int (pa_cons (pv 2) pa_nil))))))) (pe_op op_rep (pe_lst (pa_cons (pe_tupF (pa_cons pe_str (pa_cons pe_int pa_nil))) pa_nil)) pe_int) (nomark _)) (pss_one (ps_ret pe_bl)) pss_nil))))
      (pss_cons (ps_stop (ps_if (pt_cmpR (op_neD hr.units) (pe_call C__law_ask.G (hr.mono (by decide)) (by rfl) C__law_ask.g C__law_ask.kp C__law_ask.b .nil pass0 (pa_cons pe_int (pa_cons (pv 0) (pa_cons pe_int (pa_cons (pe_tupF (pa_cons pe_str (pa_cons pe_str (pa_cons pe_int (pa_cons pe_str (pa_cons pe_int (pa_cons pe_int pa_nil))))))) pa_nil))))) (pe_tupF (pa_cons pe_int (pa_cons pe_int (pa_cons pe_int pa_nil)))) (nomark _)) (pss_one (ps_ret pe_bl)) pss_nil))
      (pss_cons (ps_stop (ps_if (pt_cmpR (op_neD hr.units) (pe_call C__law_ask.G (hr.mono (by decide)) (by rfl) C__law_ask.g C__law_ask.kp C__law_ask.b .nil pass0 (pa_cons pe_int (pa_cons (pv 0) (pa_cons pe_int (pa_cons (pe_tupF (pa_cons pe_str (pa_cons pe_str (pa_cons pe_str (pa_cons pe_int (pa_cons pe_int (pa_cons pe_int pa_nil))))))) pa_nil))))) (pe_tupF (pa_cons pe_int (pa_cons pe_int (pa_cons pe_int pa_nil)))) (nomark _)) (pss_one (ps_ret pe_bl)) pss_nil))
      (pss_cons (ps_for PassesOwn.never rfl (pi_list (pe_lst (pa_cons (pe_tupF (pa_cons pe_non (pa_cons pe_int pa_nil))) (pa_cons (pe_tupF (pa_cons pe_int (pa_cons pe_int pa_nil))) (pa_cons (pe_tupF (pa_cons (pe_un un_neg pe_int) (pa_cons pe_int pa_nil))) (pa_cons (pe_tupF (pa_cons pe_int (pa_cons pe_int pa_nil))) (pa_cons (pe_tupF (pa_cons pe_bl (pa_cons pe_int pa_nil))) (pa_cons (pe_tupF (pa_cons pe_int (pa_cons pe_str pa_nil))) pa_nil)))))))) (pg_tup (n := 2) rfl (pgs_cons (pg_name (i := 3) sc__law_deeds_refused.nd rfl (by first | exact Or.inl rfl | exact Or.inr rfl)) (pgs_cons (pg_name (i := 4) sc__law_deeds_refused.nd rfl (by first | exact Or.inl rfl | exact Or.inr rfl)) pgs_nil))) (pss_one (ps_stop (ps_if (pt_cmpR (op_neD hr.units) (pe_call C__law_ask.G (hr.mono (by decide)) (by rfl) C__law_ask.g C__law_ask.kp C__law_ask.b .nil pass0 (pa_cons pe_int (pa_cons (pv 0) (pa_cons (pv 3) (pa_cons (pv 4) pa_nil))))) (pe_tupF (pa_cons pe_str (pa_cons pe_int pa_nil))) (nomark _)) (pss_one (ps_ret pe_bl)) pss_nil))))
      (pss_one (ps_ret (pe_and (pe_cmpR (op_eqD hr.units) (pe_call C__law_ask.G (hr.mono (by decide)) (by rfl) C__law_ask.g C__law_ask.kp C__law_ask.b .nil pass0 (pa_cons pe_int (pa_cons (pv 0) (pa_cons pe_int (pa_cons pe_int pa_nil))))) (pe_tupF (pa_cons pe_int (pa_cons pe_int (pa_cons pe_int pa_nil)))) (nomark _)) (pe_one (pe_cmpR (op_eqD hr.units) (pe_call C__law_ask.G (hr.mono (by decide)) (by rfl) C__law_ask.g C__law_ask.kp C__law_ask.b .nil pass0 (pa_cons pe_int (pa_cons (pv 0) (pa_cons pe_int (pa_cons pe_int pa_nil))))) (pv 0) (nomark _))))))))))))), fun x hp => ?_⟩)
  walk_at "s"
  walk_at "w"
  walk_at "s"
  walk_at "w"
  refine ⟨_, _, rfl, isl_ow rfl, gl_le (by decide), ?_⟩
  walk_at "w"
  walk_at "s"
  walk_at "w"
  refine ⟨_, _, rfl, isl_ow rfl, gl_le (by decide), ?_⟩
  walk_at "s"
  walk_at "w"
  refine ss_for (fun i Γ => ∃ q : Cell, Γ = [.dt row3, .ow badLs, q, .no, .no, .no]) fun ss => ?_
  walk_at "w"
  refine r2_catR (rd_ow rfl) rd_fr (gl_le (by decide)) ?_
  walk_at "w"
  refine ⟨fun i d Γ2 hd ⟨q, ec⟩ => ?_, fun Γ2 ⟨q0, ec⟩ => ?_⟩
  · subst ec
    have h0 := bLet (allB (chk := chLet) (by decide +kernel) hd)
    walk_at "w"
    walk_at "s"
    refine ss_same ?_ ?_
    · refine ss_if fun ss => ?_
      refine vt_cutT false ?_ ?_
      · walk_at "w"
        apply ve_lcT (vs := [5]) (fun k : Nat => PyData.int k) [16, 17] (fun _ => true) (fun _ => rfd 6) (by walk_at "n")
        walk_at "w"
        refine ⟨rfl, by simp, gl_lt (by decide), fun k hk => ⟨_, tg_name (by decide), fun acc srcs => ?_⟩, ?_⟩
        · walk_at "s"
          walk_at "w"
          refine ⟨rfl, fun _ => ?_, fun _ => rfl⟩
          walk_at "w"
          refine ⟨(k, row3, .int 1, d, rfd 6), rfl, (by
            have hk2 : k = 16 ∨ k = 17 := (by simpa using hk)
            exact .letting (by omega) (by omega) h0), ?_⟩
          walk_at "w"
          exact ⟨rfl, rfl⟩
        rw [fil_true]
        walk_at "w"
        refine r2_rep (.inr rfl) (by decide) (by decide) (gl_le (by decide)) ?_
        refine r2_neD rd_fr rd_fr (by decide +kernel) (by decide +kernel) ?_
        rw [show PyData.eqv (.list (List.map (fun _ : Nat => rfd 6) [16, 17])) (.list (List.replicate (2 : Int).toNat [PyData.tuple [.str "refused", .int 6]]).flatten) = true by decide +kernel]
        walk_at "w"
        exact ⟨rfl, rfl⟩
      · refine ⟨fun e => (by cases e), fun _ => ?_⟩
        walk_at "w"
    walk_at "w"
    exact ⟨_, rfl⟩
  subst ec
  walk_at "w"
  walk_at "s"
  refine ss_same ?_ ?_
  · refine ss_if fun ss => ?_
    refine vt_cutT false ?_ ?_
    · walk_at "w"
      refine ⟨(16, row3, .int 1, .tuple [onD, onD, .int 1, onD, .int 2, .int 3], .tuple [.int 1, .int 2, .int 3]), rfl, .let1, ?_⟩
      walk_at "w"
      refine r2_neD rd_dt rd_dt (by show SeqAt.shaped (.tuple [.int 1, .int 2, .int 3]) = true; decide +kernel) (by decide +kernel) ?_
      rw [show PyData.eqv (refV (16, row3, .int 1, .tuple [onD, onD, .int 1, onD, .int 2, .int 3], .tuple [.int 1, .int 2, .int 3])) (.tuple [.int 1, .int 2, .int 3]) = true by show PyData.eqv (.tuple [.int 1, .int 2, .int 3]) (.tuple [.int 1, .int 2, .int 3]) = true; decide +kernel]
      walk_at "w"
      exact ⟨rfl, rfl⟩
    · refine ⟨fun e => (by cases e), fun _ => ?_⟩
      walk_at "w"
  walk_at "w"
  walk_at "s"
  refine ss_same ?_ ?_
  · refine ss_if fun ss => ?_
    refine vt_cutT false ?_ ?_
    · walk_at "w"
      refine ⟨(16, row3, .int 2, .tuple [onD, onD, onD, .int 1, .int 2, .int 3], .tuple [.int 1, .int 2, .int 3]), rfl, .let2, ?_⟩
      walk_at "w"
      refine r2_neD rd_dt rd_dt (by show SeqAt.shaped (.tuple [.int 1, .int 2, .int 3]) = true; decide +kernel) (by decide +kernel) ?_
      rw [show PyData.eqv (refV (16, row3, .int 2, .tuple [onD, onD, onD, .int 1, .int 2, .int 3], .tuple [.int 1, .int 2, .int 3])) (.tuple [.int 1, .int 2, .int 3]) = true by show PyData.eqv (.tuple [.int 1, .int 2, .int 3]) (.tuple [.int 1, .int 2, .int 3]) = true; decide +kernel]
      walk_at "w"
      exact ⟨rfl, rfl⟩
    · refine ⟨fun e => (by cases e), fun _ => ?_⟩
      walk_at "w"
  walk_at "w"
  walk_at "s"
  walk_at "w"
  refine ss_for (fun i Γ => ∃ q1 q2 : Cell, Γ = [.dt row3, .ow badLs, q0, q1, q2, .no]) fun ss => ?_
  walk_at "w"
  refine ⟨⟨_, _, rfl⟩, fun i d Γ2 hd ⟨q1, q2, ec⟩ => ?_, fun Γ2 ⟨q1, q2, ec⟩ => ?_⟩
  · subst ec
    obtain ⟨a, b, rfl, hb⟩ := bMv (allB (chk := chMv) (by decide +kernel) hd)
    walk_at "w"
    walk_at "s"
    refine ss_same ?_ ?_
    · refine ss_if fun ss => ?_
      refine vt_cutT false ?_ ?_
      · walk_at "w"
        refine ⟨(18, row3, a, b, rfd 8), rfl, .mv hb, ?_⟩
        walk_at "w"
        refine r2_neD rd_dt rd_dt (by show SeqAt.shaped (rfd 8) = true; decide +kernel) (by decide +kernel) ?_
        rw [show PyData.eqv (refV (18, row3, a, b, rfd 8)) (.tuple [.str "refused", .int 8]) = true by show PyData.eqv (rfd 8) (rfd 8) = true; decide +kernel]
        walk_at "w"
        exact ⟨rfl, rfl⟩
      · refine ⟨fun e => (by cases e), fun _ => ?_⟩
        walk_at "w"
    walk_at "w"
    exact ⟨_, _, rfl⟩
  subst ec
  walk_at "w"
  refine ⟨(18, row3, .int 0, .int 2, .tuple [.int 1, .int 2, .int 3]), rfl, .mv1, ?_⟩
  walk_at "w"
  refine r2_eqD rd_dt rd_dt (by show SeqAt.shaped (.tuple [.int 1, .int 2, .int 3]) = true; decide +kernel) (by decide +kernel) ?_
  rw [show PyData.eqv (refV (18, row3, .int 0, .int 2, .tuple [.int 1, .int 2, .int 3])) (.tuple [.int 1, .int 2, .int 3]) = true by show PyData.eqv (.tuple [.int 1, .int 2, .int 3]) (.tuple [.int 1, .int 2, .int 3]) = true; decide +kernel]
  walk_at "w"
  walk_at "w"
  refine ⟨(18, row3, .int 2, .int 2, row3), rfl, .mv2, ?_⟩
  walk_at "w"
  refine r2_eqD rd_dt rd_dt (by show SeqAt.shaped (row3) = true; decide +kernel) (by decide +kernel) ?_
  rw [show PyData.eqv (refV (18, row3, .int 2, .int 2, row3)) (row3) = true by show PyData.eqv (row3) (row3) = true; decide +kernel]
  walk_at "w"
theorem ok__law_with_refused {f : Addr} {fd : FuncData} (D : Df K mg "_law_with_refused" s__law_with_refused ["_law_row"] f fd) {f__law_ask : Addr} {d__law_ask : FuncData} (C__law_ask : Cal P w K mg base 9 "_law_ask" ["_law_what", "_law_one", "_law_two", "_law_three"] (spF K refA refP refV) f__law_ask d__law_ask) : Cal P w K mg base 10 "_law_with_refused" ["_law_row"] (spF K (fun _ : Unit => [.dt row3]) (fun _ => True) fun _ => .bool true) f fd := by
  refine D.cal (ok_G D.F sc__law_with_refused (fun _ => rfl) (by decide) fun cdv A outer s H E hr => ⟨_, (pss_cons (ps_for PassesOwn.never rfl (pi_list (pe_lst (pa_cons pe_non (pa_cons (pe_tupF (pa_cons pe_int (pa_cons pe_int pa_nil))) (pa_cons (pe_lst (pa_cons pe_int pa_nil)) (pa_cons (pe_tupF (pa_cons pe_int (pa_cons pe_bl pa_nil))) pa_nil)))))) (pg_name (i := 1) sc__law_with_refused.nd rfl (by first | exact Or.inl rfl | exact Or.inr rfl)) (pss_one (ps_stop (ps_if (pt_cmpR (op_neD hr.units) (pe_lc (own := [("_law_what", 2)]) rfl sc__law_with_refused.nd (pi_tup (pe_tupF (pa_cons pe_int (pa_cons pe_int pa_nil)))) (blkOk_by (own := [("_law_what", 2)]) (N := ["_law_row", "_law_bad_one", "_law_what"]) (sc := (defScope s__law_with_refused)) (by decide +kernel)) (fun _ _ _ _ _ => (pg_name (i := 2) sc__law_with_refused.nd rfl (by first | exact Or.inl rfl | exact Or.inr rfl))) (fun _ _ _ _ _ => pts_nil) (fun _ _ _ _ _ => (pe_call C__law_ask.G (hr.mono (by decide)) (by rfl) C__law_ask.g C__law_ask.kp C__law_ask.b .nil pass0 (pa_cons (pv 2) (pa_cons (pv 1) (pa_cons pe_non (pa_cons pe_non pa_nil))))))) (pe_op op_rep (pe_lst (pa_cons (pe_tupF (pa_cons pe_str (pa_cons pe_int pa_nil))) pa_nil)) pe_int) (nomark _)) (pss_one (ps_ret pe_bl)) pss_nil))))
      (pss_cons (ps_stop (ps_if (pt_cmpR (op_neD hr.units) (pe_lc (own := [("_law_what", 2)]) rfl sc__law_with_refused.nd (pi_tup (pe_tupF (pa_cons pe_int (pa_cons pe_int pa_nil)))) (blkOk_by (own := [("_law_what", 2)]) (N := ["_law_row", "_law_bad_one", "_law_what"]) (sc := (defScope s__law_with_refused)) (by decide +kernel)) (fun _ _ _ _ _ => (pg_name (i := 2) sc__law_with_refused.nd rfl (by first | exact Or.inl rfl | exact Or.inr rfl))) (fun _ _ _ _ _ => pts_nil) (fun _ _ _ _ _ => (pe_call C__law_ask.G (hr.mono (by decide)) (by rfl) C__law_ask.g C__law_ask.kp C__law_ask.b .nil pass0 (pa_cons (pv 2) (pa_cons (pe_tupF (pa_cons pe_int (pa_cons pe_non pa_nil))) (pa_cons pe_non (pa_cons pe_non pa_nil))))))) (pe_op op_rep (pe_lst (pa_cons (pe_tupF (pa_cons pe_str (pa_cons pe_int pa_nil))) pa_nil)) pe_int) (nomark _)) (pss_one (ps_ret pe_bl)) pss_nil))
      (pss_cons (ps_for PassesOwn.never rfl (pi_list (pe_lst (pa_cons pe_non (pa_cons pe_str (pa_cons (pe_tupF (pa_cons pe_str (pa_cons pe_int pa_nil))) (pa_cons pe_int (pa_cons pe_str (pa_cons (pe_lst (pa_cons pe_str pa_nil)) pa_nil)))))))) (pg_name (i := 1) sc__law_with_refused.nd rfl (by first | exact Or.inl rfl | exact Or.inr rfl)) (pss_one (ps_stop (ps_if (pt_cmpR (op_neD hr.units) (pe_call C__law_ask.G (hr.mono (by decide)) (by rfl) C__law_ask.g C__law_ask.kp C__law_ask.b .nil pass0 (pa_cons pe_int (pa_cons (pv 0) (pa_cons (pv 1) (pa_cons pe_non pa_nil))))) (pe_tupF (pa_cons pe_str (pa_cons pe_int pa_nil))) (nomark _)) (pss_one (ps_ret pe_bl)) pss_nil))))
      (pss_cons (ps_for PassesOwn.never rfl (pi_list (pe_lst (pa_cons pe_non (pa_cons (pe_tupF pa_nil) (pa_cons (pe_lst (pa_cons pe_int (pa_cons pe_int (pa_cons pe_int pa_nil)))) (pa_cons (pe_tupF (pa_cons pe_int (pa_cons pe_int pa_nil))) (pa_cons (pe_op op_repF (pe_tupF (pa_cons pe_int pa_nil)) pe_int) (pa_cons (pe_tupF (pa_cons pe_int (pa_cons pe_int (pa_cons (pe_un un_neg pe_int) pa_nil)))) (pa_cons (pe_tupF (pa_cons pe_int (pa_cons pe_int (pa_cons pe_int pa_nil)))) (pa_cons (pe_tupF (pa_cons pe_int (pa_cons pe_bl (pa_cons pe_int pa_nil)))) (pa_cons (pe_tupF (pa_cons pe_int (pa_cons pe_str (pa_cons pe_int pa_nil)))) (pa_cons pe_int pa_nil)))))))))))) (pg_name (i := 1) sc__law_with_refused.nd rfl (by first | exact Or.inl rfl | exact Or.inr rfl)) (pss_one (ps_stop (ps_if (pt_cmpR (op_neD hr.units) (pe_call C__law_ask.G (hr.mono (by decide)) (by rfl) C__law_ask.g C__law_ask.kp C__law_ask.b .nil pass0 (pa_cons pe_int (pa_cons (pv 0) (pa_cons pe_str (pa_cons (pv 1) pa_nil))))) (pe_tupF (pa_cons pe_str (pa_cons pe_int pa_nil))) (nomark _)) (pss_one (ps_ret pe_bl)) pss_nil))))
      (pss_one (ps_ret (pe_and (pe_cmpR (op_eqD hr.units) (pe_call C__law_ask.G (hr.mono (by decide)) (by rfl) C__law_ask.g C__law_ask.kp C__law_ask.b .nil pass0 (pa_cons pe_int (pa_cons (pv 0) (pa_cons pe_str (pa_cons (pe_tupF (pa_cons pe_int (pa_cons pe_int (pa_cons pe_int pa_nil)))) pa_nil))))) (pe_tupF (pa_cons pe_int (pa_cons pe_int (pa_cons pe_int pa_nil)))) (nomark _)) (pe_one (pe_cmpR (op_eqD hr.units) (pe_call C__law_ask.G (hr.mono (by decide)) (by rfl) C__law_ask.g C__law_ask.kp C__law_ask.b .nil pass0 (pa_cons pe_int (pa_cons (pv 0) (pa_cons pe_non (pa_cons pe_non pa_nil))))) (pe_lst (pa_cons pe_int (pa_cons pe_int (pa_cons pe_int pa_nil)))) (nomark _)))))))))), fun x hp => ?_⟩)
  walk_at "s"
  walk_at "w"
  refine ss_for (fun i Γ => ∃ q : Cell, Γ = [.dt row3, q, .no]) fun ss => ?_
  walk_at "w"
  refine ⟨fun i d Γ2 hd ⟨q, ec⟩ => ?_, fun Γ2 ⟨q1, ec⟩ => ?_⟩
  · subst ec
    have h0 := bRow (allB (chk := chRow) (by decide +kernel) hd)
    walk_at "w"
    walk_at "s"
    refine ss_same ?_ ?_
    · refine ss_if fun ss => ?_
      refine vt_cutT false ?_ ?_
      · walk_at "w"
        apply ve_lcT (vs := [2]) (fun k : Nat => PyData.int k) [22, 23] (fun _ => true) (fun _ => rfd 0) (by walk_at "n")
        walk_at "w"
        refine ⟨rfl, by simp, gl_lt (by decide), fun k hk => ⟨_, tg_name (by decide), fun acc srcs => ?_⟩, ?_⟩
        · walk_at "s"
          walk_at "w"
          refine ⟨rfl, fun _ => ?_, fun _ => rfl⟩
          walk_at "w"
          refine ⟨(k, d, .none, .none, rfd 0), rfl, (by
            have hk2 : k = 22 ∨ k = 23 := (by simpa using hk)
            exact .wrow hk2 h0), ?_⟩
          walk_at "w"
          exact ⟨rfl, rfl⟩
        rw [fil_true]
        walk_at "w"
        refine r2_rep (.inr rfl) (by decide) (by decide) (gl_le (by decide)) ?_
        refine r2_neD rd_fr rd_fr (by decide +kernel) (by decide +kernel) ?_
        rw [show PyData.eqv (.list (List.map (fun _ : Nat => rfd 0) [22, 23])) (.list (List.replicate (2 : Int).toNat [PyData.tuple [.str "refused", .int 0]]).flatten) = true by decide +kernel]
        walk_at "w"
        exact ⟨rfl, rfl⟩
      · refine ⟨fun e => (by cases e), fun _ => ?_⟩
        walk_at "w"
    walk_at "w"
    exact ⟨_, rfl⟩
  subst ec
  walk_at "w"
  walk_at "s"
  refine ss_same ?_ ?_
  · refine ss_if fun ss => ?_
    refine vt_cutT false ?_ ?_
    · walk_at "w"
      apply ve_lcT (vs := [2]) (fun k : Nat => PyData.int k) [22, 23] (fun _ => true) (fun _ => rfd 4) (by walk_at "n")
      walk_at "w"
      refine ⟨rfl, by simp, gl_lt (by decide), fun k hk => ⟨_, tg_name (by decide), fun acc srcs => ?_⟩, ?_⟩
      · walk_at "s"
        walk_at "w"
        refine ⟨rfl, fun _ => ?_, fun _ => rfl⟩
        walk_at "w"
        refine ⟨(k, rowM, .none, .none, rfd 4), rfl, (by
          have hk2 : k = 22 ∨ k = 23 := (by simpa using hk)
          exact .wmark hk2), ?_⟩
        walk_at "w"
        exact ⟨rfl, rfl⟩
      rw [fil_true]
      walk_at "w"
      refine r2_rep (.inr rfl) (by decide) (by decide) (gl_le (by decide)) ?_
      refine r2_neD rd_fr rd_fr (by decide +kernel) (by decide +kernel) ?_
      rw [show PyData.eqv (.list (List.map (fun _ : Nat => rfd 4) [22, 23])) (.list (List.replicate (2 : Int).toNat [PyData.tuple [.str "refused", .int 4]]).flatten) = true by decide +kernel]
      walk_at "w"
      exact ⟨rfl, rfl⟩
    · refine ⟨fun e => (by cases e), fun _ => ?_⟩
      walk_at "w"
  walk_at "w"
  refine ss_for (fun i Γ => ∃ q : Cell, Γ = [.dt row3, q, .no]) fun ss => ?_
  walk_at "w"
  refine ⟨fun i d Γ2 hd ⟨q, ec⟩ => ?_, fun Γ2 ⟨q2, ec⟩ => ?_⟩
  · subst ec
    have h0 := bWord (allB (chk := chWord) (by decide +kernel) hd)
    walk_at "w"
    walk_at "s"
    refine ss_same ?_ ?_
    · refine ss_if fun ss => ?_
      refine vt_cutT false ?_ ?_
      · walk_at "w"
        refine ⟨(22, row3, d, .none, rfd 1), rfl, .word h0, ?_⟩
        walk_at "w"
        refine r2_neD rd_dt rd_dt (by show SeqAt.shaped (rfd 1) = true; decide +kernel) (by decide +kernel) ?_
        rw [show PyData.eqv (refV (22, row3, d, .none, rfd 1)) (.tuple [.str "refused", .int 1]) = true by show PyData.eqv (rfd 1) (rfd 1) = true; decide +kernel]
        walk_at "w"
        exact ⟨rfl, rfl⟩
      · refine ⟨fun e => (by cases e), fun _ => ?_⟩
        walk_at "w"
    walk_at "w"
    exact ⟨_, rfl⟩
  subst ec
  walk_at "w"
  refine ss_for (fun i Γ => ∃ q : Cell, Γ = [.dt row3, q, .no]) fun ss => ?_
  walk_at "w"
  refine r2_repT (by simp) (by decide) (by decide) (by simp) ?_
  walk_at "w"
  refine ⟨fun i d Γ2 hd ⟨q, ec⟩ => ?_, fun Γ2 ⟨q3, ec⟩ => ?_⟩
  · subst ec
    have h0 := bPls (allB (chk := chPls) (by decide +kernel) hd)
    walk_at "w"
    walk_at "s"
    refine ss_same ?_ ?_
    · refine ss_if fun ss => ?_
      refine vt_cutT false ?_ ?_
      · walk_at "w"
        refine ⟨(22, row3, .str "light", d, rfd 3), rfl, .pls h0, ?_⟩
        walk_at "w"
        refine r2_neD rd_dt rd_dt (by show SeqAt.shaped (rfd 3) = true; decide +kernel) (by decide +kernel) ?_
        rw [show PyData.eqv (refV (22, row3, .str "light", d, rfd 3)) (.tuple [.str "refused", .int 3]) = true by show PyData.eqv (rfd 3) (rfd 3) = true; decide +kernel]
        walk_at "w"
        exact ⟨rfl, rfl⟩
      · refine ⟨fun e => (by cases e), fun _ => ?_⟩
        walk_at "w"
    walk_at "w"
    exact ⟨_, rfl⟩
  subst ec
  walk_at "w"
  refine ⟨(22, row3, .str "heavy", .tuple [.int 0, .int 9, .int 1], .tuple [.int 3, .int 2, .int 1]), rfl, .pw, ?_⟩
  walk_at "w"
  refine r2_eqD rd_dt rd_dt (by show SeqAt.shaped (.tuple [.int 3, .int 2, .int 1]) = true; decide +kernel) (by decide +kernel) ?_
  rw [show PyData.eqv (refV (22, row3, .str "heavy", .tuple [.int 0, .int 9, .int 1], .tuple [.int 3, .int 2, .int 1])) (.tuple [.int 3, .int 2, .int 1]) = true by show PyData.eqv (.tuple [.int 3, .int 2, .int 1]) (.tuple [.int 3, .int 2, .int 1]) = true; decide +kernel]
  walk_at "w"
  walk_at "w"
  refine ⟨(23, row3, .none, .none, .list [.int 1, .int 1, .int 0]), rfl, .need, ?_⟩
  walk_at "w"
  refine r2_eqD rd_dt rd_fr (by show SeqAt.shaped (.list [.int 1, .int 1, .int 0]) = true; decide +kernel) (by decide +kernel) ?_
  rw [show PyData.eqv (refV (23, row3, .none, .none, .list [.int 1, .int 1, .int 0])) (.list [.int 1, .int 1, .int 0]) = true by show PyData.eqv (.list [.int 1, .int 1, .int 0]) (.list [.int 1, .int 1, .int 0]) = true; decide +kernel]
  walk_at "w"
theorem ok_law {f : Addr} {fd : FuncData} (D : Df K mg "law" s_law ["_law_script"] f fd) {f__law_ask : Addr} {d__law_ask : FuncData} (C__law_ask : Cal P w K mg base 9 "_law_ask" ["_law_what", "_law_one", "_law_two", "_law_three"] (spF K refA refP refV) f__law_ask d__law_ask) {f__law_deeds_refused : Addr} {d__law_deeds_refused : FuncData} (C__law_deeds_refused : Cal P w K mg base 10 "_law_deeds_refused" ["_law_row"] (spF K (fun _ : Unit => [.dt row3]) (fun _ => True) fun _ => .bool true) f__law_deeds_refused d__law_deeds_refused) {f__law_places_refused : Addr} {d__law_places_refused : FuncData} (C__law_places_refused : Cal P w K mg base 10 "_law_places_refused" ["_law_row"] (spF K (fun _ : Unit => [.dt row3]) (fun _ => True) fun _ => .bool true) f__law_places_refused d__law_places_refused) {f__law_with_refused : Addr} {d__law_with_refused : FuncData} (C__law_with_refused : Cal P w K mg base 10 "_law_with_refused" ["_law_row"] (spF K (fun _ : Unit => [.dt row3]) (fun _ => True) fun _ => .bool true) f__law_with_refused d__law_with_refused) {f_is_lineO : Addr} {d_is_lineO : FuncData} (C_is_lineO : Cal P w K mg base 5 "is_line" ["thing"] (spF K (fun d : Dat => [.dt d]) (fun d => okDD d = true) fun d => .bool (isLineD d)) f_is_lineO d_is_lineO) {f_is_rowO : Addr} {d_is_rowO : FuncData} (C_is_rowO : Cal P w K mg base 2 "is_row" ["thing"] (spF K (fun d : Dat => [.dt d]) (fun d => okD d = true) fun d => .bool (isRowD d)) f_is_rowO d_is_rowO) {f_is_shelfO : Addr} {d_is_shelfO : FuncData} (C_is_shelfO : Cal P w K mg base 4 "is_shelf" ["thing"] (spF K (fun d : Dat => [.dt d]) (fun d => okD d = true) fun d => .bool (isShelfD d)) f_is_shelfO d_is_shelfO) (m_list : mg "list" = none) (m_range : mg "range" = none) (m_tuple : mg "tuple" = none) : Cal P w K mg base 11 "law" ["_law_script"] (spF K (fun ns : List Int => [.sc ns]) (fun ns => ns.length ≤ 63) fun _ => .bool true) f fd := by
  refine D.cal (ok_G D.F sc_law (fun _ => rfl) (by decide) fun cdv A outer s H E hr => ⟨_, (pss_cons (ps_set (i := 1) sc_law.nd rfl (Or.inl rfl) (pe_lst pa_nil))
      (pss_cons (ps_set (i := 2) sc_law.nd rfl (Or.inr rfl) (pe_tupF (pa_cons pe_int (pa_cons pe_int (pa_cons pe_int pa_nil)))))
      (pss_cons (ps_set (i := 3) sc_law.nd rfl (Or.inl rfl) (pe_lst (pa_cons pe_non (pa_cons pe_int (pa_cons (pe_lst (pa_cons pe_int (pa_cons pe_int pa_nil))) (pa_cons (pe_tupF (pa_cons pe_int (pa_cons pe_int pa_nil))) (pa_cons (pe_tupF (pa_cons pe_int (pa_cons pe_str pa_nil))) (pa_cons (pe_tupF (pa_cons pe_int (pa_cons pe_bl pa_nil))) (pa_cons (pe_tupF (pa_cons (pe_tupF (pa_cons pe_int pa_nil)) pa_nil)) (pa_cons (pe_callTy cl_tupleF (by rfl) m_tuple (by decide +kernel) (pa_cons (pe_listRg rfl (by rfl) m_list (prg_1 (by rfl) m_range pe_int)) pa_nil)) (pa_cons pe_str pa_nil)))))))))))
      (pss_cons (ps_for PassesOwn.never rfl (pi_list (pe_op op_cat (pv 3) (pe_lst (pa_cons (pe_tupF (pa_cons pe_non (pa_cons pe_int (pa_cons pe_non (pa_cons pe_int pa_nil))))) pa_nil)))) (pg_name (i := 4) sc_law.nd rfl (by first | exact Or.inl rfl | exact Or.inr rfl)) (pss_cons (ps_stop (ps_if (pt_cmpR oi_notB (pe_call C_is_rowO.G (hr.mono (by decide)) (by rfl) C_is_rowO.g C_is_rowO.kp C_is_rowO.b .nil pass0 (pa_cons (pv 4) pa_nil)) pe_bl (nomark _)) (pss_one (ps_ret pe_bl)) pss_nil))
      (pss_one (ps_stop (ps_if (pt_cmpR (op_neD hr.units) (pe_lc (own := [("_law_what", 5)]) rfl sc_law.nd (pi_range1 (by rfl) m_range (pa_cons pe_int pa_nil)) (blkOk_by (own := [("_law_what", 5)]) (N := ["_law_script", "_law_town", "_law_row", "_law_some", "_law_bad_one", "_law_what"]) (sc := (defScope s_law)) (by decide +kernel)) (fun _ _ _ _ _ => (pg_name (i := 5) sc_law.nd rfl (by first | exact Or.inl rfl | exact Or.inr rfl))) (fun _ _ _ _ _ => (pts_one (pt_cmpR (op_neDK (K := K) rfl hr.units) (pv 5) pe_int (nomark _)))) (fun _ _ _ _ _ => (pe_call C__law_ask.G (hr.mono (by decide)) (by rfl) C__law_ask.g C__law_ask.kp C__law_ask.b .nil pass0 (pa_cons (pv 5) (pa_cons (pv 4) (pa_cons pe_non (pa_cons pe_non pa_nil))))))) (pe_op op_rep (pe_lst (pa_cons (pe_tupF (pa_cons pe_str (pa_cons pe_int pa_nil))) pa_nil)) pe_int) (nomark _)) (pss_one (ps_ret pe_bl)) pss_nil)))))
      (pss_cons (ps_stop (ps_if (pt_stop (PW.pt (pw_or (pt_cmpR oi_notB (pe_call C_is_rowO.G (hr.mono (by decide)) (by rfl) C_is_rowO.g C_is_rowO.kp C_is_rowO.b .nil pass0 (pa_cons (pe_tupF (pa_cons pe_non (pa_cons pe_non pa_nil))) pa_nil)) pe_bl (nomark _)) (pw_or (pt_cmpR oi_notB (pe_call C_is_rowO.G (hr.mono (by decide)) (by rfl) C_is_rowO.g C_is_rowO.kp C_is_rowO.b .nil pass0 (pa_cons (pe_tupF pa_nil) pa_nil)) pe_bl (nomark _)) (pw_or1 (pt_cmpR oi_notB (pe_call C_is_rowO.G (hr.mono (by decide)) (by rfl) C_is_rowO.g C_is_rowO.kp C_is_rowO.b .nil pass0 (pa_cons (pe_callTy cl_tupleF (by rfl) m_tuple (by decide +kernel) (pa_cons (pe_listRg rfl (by rfl) m_list (prg_1 (by rfl) m_range pe_int)) pa_nil)) pa_nil)) pe_bl (nomark _))))))) (pss_one (ps_ret pe_bl)) pss_nil))
      (pss_cons (ps_for PassesOwn.never rfl (pi_tup (pe_tupF (pa_cons pe_int (pa_cons pe_int (pa_cons pe_int (pa_cons pe_int (pa_cons pe_int (pa_cons pe_int (pa_cons pe_int (pa_cons pe_int (pa_cons pe_int pa_nil))))))))))) (pg_name (i := 5) sc_law.nd rfl (by first | exact Or.inl rfl | exact Or.inr rfl)) (pss_one (ps_stop (ps_if (pt_cmpR (op_neD hr.units) (pe_call C__law_ask.G (hr.mono (by decide)) (by rfl) C__law_ask.g C__law_ask.kp C__law_ask.b .nil pass0 (pa_cons (pv 5) (pa_cons (pe_tupF (pa_cons pe_int (pa_cons pe_non pa_nil))) (pa_cons pe_non (pa_cons pe_non pa_nil))))) (pe_tupF (pa_cons pe_str (pa_cons pe_int pa_nil))) (nomark _)) (pss_one (ps_ret pe_bl)) pss_nil))))
      (pss_cons (ps_set (i := 3) sc_law.nd rfl (Or.inl rfl) (pe_lst (pa_cons pe_non (pa_cons (pe_tupF pa_nil) (pa_cons (pe_tupF (pa_cons pe_str pa_nil)) (pa_cons (pe_lst (pa_cons pe_str (pa_cons pe_int pa_nil))) (pa_cons (pe_tupF (pa_cons pe_str (pa_cons pe_int pa_nil))) (pa_cons (pe_tupF (pa_cons pe_str (pa_cons (pe_un un_neg pe_int) pa_nil))) (pa_cons (pe_tupF (pa_cons pe_str (pa_cons pe_int pa_nil))) (pa_cons (pe_tupF (pa_cons pe_str (pa_cons pe_bl pa_nil))) pa_nil))))))))))
      (pss_cons (ps_for PassesOwn.never rfl (pi_list (pe_op op_cat (pv 3) (pe_lst (pa_cons (pe_tupF (pa_cons pe_str (pa_cons pe_str pa_nil))) pa_nil)))) (pg_name (i := 4) sc_law.nd rfl (by first | exact Or.inl rfl | exact Or.inr rfl)) (pss_cons (ps_stop (ps_if (pt_stop (PW.pt (pw_or (pt_cmpR oi_notB (pe_call C_is_shelfO.G (hr.mono (by decide)) (by rfl) C_is_shelfO.g C_is_shelfO.kp C_is_shelfO.b .nil pass0 (pa_cons (pv 4) pa_nil)) pe_bl (nomark _)) (pw_or1 (pt_cmpR oi_notB (pe_call C_is_lineO.G (hr.mono (by decide)) (by rfl) C_is_lineO.g C_is_lineO.kp C_is_lineO.b .nil pass0 (pa_cons (pe_tupF (pa_cons (pv 4) pa_nil)) pa_nil)) pe_bl (nomark _)))))) (pss_one (ps_ret pe_bl)) pss_nil))
      (pss_cons (ps_stop (ps_if (pt_cmpR (op_neD hr.units) (pe_lc (own := [("_law_what", 5)]) rfl sc_law.nd (pi_tup (pe_tupF (pa_cons pe_int (pa_cons pe_int pa_nil)))) (blkOk_by (own := [("_law_what", 5)]) (N := ["_law_script", "_law_town", "_law_row", "_law_some", "_law_bad_one", "_law_what"]) (sc := (defScope s_law)) (by decide +kernel)) (fun _ _ _ _ _ => (pg_name (i := 5) sc_law.nd rfl (by first | exact Or.inl rfl | exact Or.inr rfl))) (fun _ _ _ _ _ => pts_nil) (fun _ _ _ _ _ => (pe_call C__law_ask.G (hr.mono (by decide)) (by rfl) C__law_ask.g C__law_ask.kp C__law_ask.b .nil pass0 (pa_cons (pv 5) (pa_cons (pv 2) (pa_cons (pv 4) (pa_cons pe_non pa_nil))))))) (pe_op op_rep (pe_lst (pa_cons (pe_tupF (pa_cons pe_str (pa_cons pe_int pa_nil))) pa_nil)) pe_int) (nomark _)) (pss_one (ps_ret pe_bl)) pss_nil))
      (pss_one (ps_stop (ps_if (pt_cmpR (op_neD hr.units) (pe_call C__law_ask.G (hr.mono (by decide)) (by rfl) C__law_ask.g C__law_ask.kp C__law_ask.b .nil pass0 (pa_cons pe_int (pa_cons (pv 2) (pa_cons (pe_tupF (pa_cons (pv 4) pa_nil)) (pa_cons pe_non pa_nil))))) (pe_tupF (pa_cons pe_str (pa_cons pe_int pa_nil))) (nomark _)) (pss_one (ps_ret pe_bl)) pss_nil))))))
      (pss_cons (ps_for PassesOwn.never rfl (pi_list (pe_lst (pa_cons pe_non (pa_cons (pe_lst (pa_cons (pe_tupF (pa_cons pe_str (pa_cons pe_int pa_nil))) pa_nil)) (pa_cons (pe_tupF (pa_cons pe_str (pa_cons pe_int pa_nil))) (pa_cons (pe_op op_repF (pe_tupF (pa_cons (pe_tupF (pa_cons pe_str (pa_cons pe_int pa_nil))) pa_nil)) pe_int) (pa_cons pe_int pa_nil))))))) (pg_name (i := 4) sc_law.nd rfl (by first | exact Or.inl rfl | exact Or.inr rfl)) (pss_cons (ps_stop (ps_if (pt_stop (PW.pt (pw_or (pt_cmpR oi_notB (pe_call C_is_lineO.G (hr.mono (by decide)) (by rfl) C_is_lineO.g C_is_lineO.kp C_is_lineO.b .nil pass0 (pa_cons (pv 4) pa_nil)) pe_bl (nomark _)) (pw_or1 (pt_cmpR (op_neD hr.units) (pe_call C__law_ask.G (hr.mono (by decide)) (by rfl) C__law_ask.g C__law_ask.kp C__law_ask.b .nil pass0 (pa_cons pe_int (pa_cons (pv 2) (pa_cons (pv 4) (pa_cons pe_non pa_nil))))) (pe_tupF (pa_cons pe_str (pa_cons pe_int pa_nil))) (nomark _)))))) (pss_one (ps_ret pe_bl)) pss_nil))
      (pss_one (ps_stop (ps_if (pt_cmpR (op_neD hr.units) (pe_lc (own := [("_law_what", 5)]) rfl sc_law.nd (pi_tup (pe_tupF (pa_cons pe_int (pa_cons pe_int (pa_cons pe_int pa_nil))))) (blkOk_by (own := [("_law_what", 5)]) (N := ["_law_script", "_law_town", "_law_row", "_law_some", "_law_bad_one", "_law_what"]) (sc := (defScope s_law)) (by decide +kernel)) (fun _ _ _ _ _ => (pg_name (i := 5) sc_law.nd rfl (by first | exact Or.inl rfl | exact Or.inr rfl))) (fun _ _ _ _ _ => pts_nil) (fun _ _ _ _ _ => (pe_call C__law_ask.G (hr.mono (by decide)) (by rfl) C__law_ask.g C__law_ask.kp C__law_ask.b .nil pass0 (pa_cons (pv 5) (pa_cons (pv 4) (pa_cons pe_non (pa_cons pe_non pa_nil))))))) (pe_op op_rep (pe_lst (pa_cons (pe_tupF (pa_cons pe_str (pa_cons pe_int pa_nil))) pa_nil)) pe_int) (nomark _)) (pss_one (ps_ret pe_bl)) pss_nil)))))
      (pss_one (ps_ret (pe_and (pe_call C__law_places_refused.G (hr.mono (by decide)) (by rfl) C__law_places_refused.g C__law_places_refused.kp C__law_places_refused.b .nil pass0 (pa_cons (pv 2) pa_nil)) (pe_and (pe_call C__law_deeds_refused.G (hr.mono (by decide)) (by rfl) C__law_deeds_refused.g C__law_deeds_refused.kp C__law_deeds_refused.b .nil pass0 (pa_cons (pv 2) pa_nil)) (pe_one (pe_call C__law_with_refused.G (hr.mono (by decide)) (by rfl) C__law_with_refused.g C__law_with_refused.kp C__law_with_refused.b .nil pass0 (pa_cons (pv 2) pa_nil)))))))))))))))), fun x hp => ?_⟩)
  walk_at "s"
  walk_at "w"
  refine ⟨by decide, ?_⟩
  walk_at "w"
  walk_at "s"
  walk_at "w"
  refine ss_for (fun i Γ => ∃ q : Cell, Γ = [.sc x, .ow [], .dt row3, .ow badRs, q, .no]) fun ss => ?_
  walk_at "w"
  refine r2_catR (rd_ow rfl) rd_fr (gl_le (by decide)) ?_
  walk_at "w"
  refine ⟨fun i d Γ2 hd ⟨q, ec⟩ => ?_, fun Γ2 ⟨q1, ec⟩ => ?_⟩
  · subst ec
    have h0 := bRow (allB (chk := chRow) (by decide +kernel) hd)
    walk_at "w"
    walk_at "s"
    refine ss_same ?_ ?_
    · refine ss_if fun ss => ?_
      refine vt_cutT false ?_ ?_
      · walk_at "w"
        refine ⟨d, rfl, h0.1, ?_⟩
        rw [h0.2]
        walk_at "w"
        exact ⟨rfl, rfl⟩
      · refine ⟨fun e => (by cases e), fun _ => ?_⟩
        walk_at "w"
    walk_at "w"
    walk_at "s"
    refine ss_same ?_ ?_
    · refine ss_if fun ss => ?_
      refine vt_cutT false ?_ ?_
      · walk_at "w"
        apply ve_lcT (vs := [5]) (fun k : Nat => PyData.int k) (List.range 19) (fun k : Nat => !decide ((k : Int) = 15)) (fun _ => rfd 0) (by walk_at "n")
        walk_at "w"
        refine ⟨by decide, by decide, rfl, by simp, gl_lt (by decide), fun k hk => ⟨_, tg_name (by decide), fun acc srcs => ?_⟩, ?_⟩
        · walk_at "s"
          walk_at "w"
          refine ⟨rfl, fun hk15 => ?_, fun _ => rfl⟩
          walk_at "w"
          refine ⟨(k, d, .none, .none, rfd 0), rfl, (by
            have h15 : ¬ (k : Int) = 15 := (by simpa using hk15)
            exact .row (List.mem_range.mp hk) (by omega) h0), ?_⟩
          walk_at "w"
          exact ⟨rfl, rfl⟩
        rw [show (List.range 19).filter (fun k : Nat => !decide ((k : Int) = 15)) = ks18 by decide +kernel]
        walk_at "w"
        refine r2_rep (.inr rfl) (by decide) (by decide) (gl_le (by decide)) ?_
        refine r2_neD rd_fr rd_fr (by decide +kernel) (by decide +kernel) ?_
        rw [show PyData.eqv (.list (List.map (fun _ : Nat => rfd 0) ks18)) (.list (List.replicate (18 : Int).toNat [PyData.tuple [.str "refused", .int 0]]).flatten) = true by decide +kernel]
        walk_at "w"
        exact ⟨rfl, rfl⟩
      · refine ⟨fun e => (by cases e), fun _ => ?_⟩
        walk_at "w"
    walk_at "w"
    exact ⟨_, rfl⟩
  subst ec
  walk_at "w"
  walk_at "s"
  refine ss_same ?_ ?_
  · refine ss_if fun ss => ?_
    refine vt_cutT false ?_ ?_
    · refine vt_stop ?_
      walk_at "w"
      refine ⟨.tuple [.none, .none], rfl, by decide +kernel, ?_⟩
      rw [show isRowD (.tuple [.none, .none]) = true by decide +kernel]
      walk_at "w"
      refine ⟨.tuple [], rfl, by decide +kernel, ?_⟩
      rw [show isRowD (.tuple []) = true by decide +kernel]
      walk_at "w"
      refine ⟨by decide, ?_⟩
      walk_at "w"
      refine ⟨.tuple ((List.range 24).map fun i => .int (i : Nat)), rfl, by decide +kernel, ?_⟩
      rw [show isRowD (.tuple ((List.range 24).map fun i => .int (i : Nat))) = true by decide +kernel]
      walk_at "w"
      exact ⟨rfl, rfl⟩
    · refine ⟨fun e => (by cases e), fun _ => ?_⟩
      walk_at "w"
  walk_at "w"
  refine ss_for (fun i Γ => ∃ q : Cell, Γ = [.sc x, .ow [], .dt row3, .ow badRs, q1, q]) fun ss => ?_
  walk_at "w"
  refine ⟨fun i d Γ2 hd ⟨q, ec⟩ => ?_, fun Γ2 ⟨q2, ec⟩ => ?_⟩
  · subst ec
    obtain ⟨k, rfl, hk⟩ := bMk (allB (chk := chMk) (by decide +kernel) hd)
    walk_at "w"
    walk_at "s"
    refine ss_same ?_ ?_
    · refine ss_if fun ss => ?_
      refine vt_cutT false ?_ ?_
      · walk_at "w"
        refine ⟨(k, rowM, .none, .none, rfd 4), rfl, .mark hk, ?_⟩
        walk_at "w"
        refine r2_neD rd_dt rd_dt (by show SeqAt.shaped (rfd 4) = true; decide +kernel) (by decide +kernel) ?_
        rw [show PyData.eqv (refV (k, rowM, .none, .none, rfd 4)) (.tuple [.str "refused", .int 4]) = true by show PyData.eqv (rfd 4) (rfd 4) = true; decide +kernel]
        walk_at "w"
        exact ⟨rfl, rfl⟩
      · refine ⟨fun e => (by cases e), fun _ => ?_⟩
        walk_at "w"
    walk_at "w"
    exact ⟨_, rfl⟩
  subst ec
  refine ss_forget 5 ?_
  walk_at "s"
  walk_at "w"
  walk_at "s"
  walk_at "w"
  refine ss_for (fun i Γ => ∃ q : Cell, Γ = [.sc x, .ow [], .dt row3, .ow badSs, q, .no]) fun ss => ?_
  walk_at "w"
  refine r2_catR (rd_ow rfl) rd_fr (gl_le (by decide)) ?_
  walk_at "w"
  refine ⟨fun i d Γ2 hd ⟨q, ec⟩ => ?_, fun Γ2 ⟨q3, ec⟩ => ?_⟩
  · subst ec
    have h0 := bShelf (allB (chk := chShelf) (by decide +kernel) hd)
    have h1 := bLn1 (allB (chk := chLn1) (by decide +kernel) hd)
    walk_at "w"
    walk_at "s"
    refine ss_same ?_ ?_
    · refine ss_if fun ss => ?_
      refine vt_cutT false ?_ ?_
      · refine vt_stop ?_
        walk_at "w"
        refine ⟨d, rfl, h0.1, ?_⟩
        rw [h0.2]
        walk_at "w"
        refine ⟨.tuple [d], rfl, h1.1, ?_⟩
        rw [h1.2]
        walk_at "w"
        exact ⟨rfl, rfl⟩
      · refine ⟨fun e => (by cases e), fun _ => ?_⟩
        walk_at "w"
    walk_at "w"
    walk_at "s"
    refine ss_same ?_ ?_
    · refine ss_if fun ss => ?_
      refine vt_cutT false ?_ ?_
      · walk_at "w"
        apply ve_lcT (vs := [5]) (fun k : Nat => PyData.int k) [6, 7] (fun _ => true) (fun _ => rfd 1) (by walk_at "n")
        walk_at "w"
        refine ⟨rfl, by simp, gl_lt (by decide), fun k hk => ⟨_, tg_name (by decide), fun acc srcs => ?_⟩, ?_⟩
        · walk_at "s"
          walk_at "w"
          refine ⟨rfl, fun _ => ?_, fun _ => rfl⟩
          walk_at "w"
          refine ⟨(k, row3, d, .none, rfd 1), rfl, (by
            have hk2 : k = 6 ∨ k = 7 := (by simpa using hk)
            exact .shelf hk2 h0), ?_⟩
          walk_at "w"
          exact ⟨rfl, rfl⟩
        rw [fil_true]
        walk_at "w"
        refine r2_rep (.inr rfl) (by decide) (by decide) (gl_le (by decide)) ?_
        refine r2_neD rd_fr rd_fr (by decide +kernel) (by decide +kernel) ?_
        rw [show PyData.eqv (.list (List.map (fun _ : Nat => rfd 1) [6, 7])) (.list (List.replicate (2 : Int).toNat [PyData.tuple [.str "refused", .int 1]]).flatten) = true by decide +kernel]
        walk_at "w"
        exact ⟨rfl, rfl⟩
      · refine ⟨fun e => (by cases e), fun _ => ?_⟩
        walk_at "w"
    walk_at "w"
    walk_at "s"
    refine ss_same ?_ ?_
    · refine ss_if fun ss => ?_
      refine vt_cutT false ?_ ?_
      · walk_at "w"
        refine ⟨(8, row3, .tuple [d], .none, rfd 2), rfl, .line8 h1, ?_⟩
        walk_at "w"
        refine r2_neD rd_dt rd_dt (by show SeqAt.shaped (rfd 2) = true; decide +kernel) (by decide +kernel) ?_
        rw [show PyData.eqv (refV (8, row3, .tuple [d], .none, rfd 2)) (.tuple [.str "refused", .int 2]) = true by show PyData.eqv (rfd 2) (rfd 2) = true; decide +kernel]
        walk_at "w"
        exact ⟨rfl, rfl⟩
      · refine ⟨fun e => (by cases e), fun _ => ?_⟩
        walk_at "w"
    walk_at "w"
    exact ⟨_, rfl⟩
  subst ec
  walk_at "w"
  refine ss_for (fun i Γ => ∃ q : Cell, Γ = [.sc x, .ow [], .dt row3, .ow badSs, q, .no]) fun ss => ?_
  walk_at "w"
  refine r2_repT (by simp) (by decide) (by decide) (by simp) ?_
  walk_at "w"
  refine ⟨fun i d Γ2 hd ⟨q, ec⟩ => ?_, fun Γ2 ⟨q4, ec⟩ => ?_⟩
  · subst ec
    have h0 := bLine (allB (chk := chLine) (by decide +kernel) hd)
    walk_at "w"
    walk_at "s"
    refine ss_same ?_ ?_
    · refine ss_if fun ss => ?_
      refine vt_cutT false ?_ ?_
      · refine vt_stop ?_
        walk_at "w"
        refine ⟨d, rfl, h0.1, ?_⟩
        rw [h0.2]
        walk_at "w"
        refine ⟨(8, row3, d, .none, rfd 2), rfl, .line8 h0, ?_⟩
        walk_at "w"
        refine r2_neD rd_dt rd_dt (by show SeqAt.shaped (rfd 2) = true; decide +kernel) (by decide +kernel) ?_
        rw [show PyData.eqv (refV (8, row3, d, .none, rfd 2)) (.tuple [.str "refused", .int 2]) = true by show PyData.eqv (rfd 2) (rfd 2) = true; decide +kernel]
        walk_at "w"
        exact ⟨rfl, rfl⟩
      · refine ⟨fun e => (by cases e), fun _ => ?_⟩
        walk_at "w"
    walk_at "w"
    walk_at "s"
    refine ss_same ?_ ?_
    · refine ss_if fun ss => ?_
      refine vt_cutT false ?_ ?_
      · walk_at "w"
        apply ve_lcT (vs := [5]) (fun k : Nat => PyData.int k) [19, 20, 21] (fun _ => true) (fun _ => rfd 2) (by walk_at "n")
        walk_at "w"
        refine ⟨rfl, by simp, gl_lt (by decide), fun k hk => ⟨_, tg_name (by decide), fun acc srcs => ?_⟩, ?_⟩
        · walk_at "s"
          walk_at "w"
          refine ⟨rfl, fun _ => ?_, fun _ => rfl⟩
          walk_at "w"
          refine ⟨(k, d, .none, .none, rfd 2), rfl, (by
            have hk2 : k = 19 ∨ k = 20 ∨ k = 21 := (by simpa using hk)
            exact .line (by omega) (by omega) h0), ?_⟩
          walk_at "w"
          exact ⟨rfl, rfl⟩
        rw [fil_true]
        walk_at "w"
        refine r2_rep (.inr rfl) (by decide) (by decide) (gl_le (by decide)) ?_
        refine r2_neD rd_fr rd_fr (by decide +kernel) (by decide +kernel) ?_
        rw [show PyData.eqv (.list (List.map (fun _ : Nat => rfd 2) [19, 20, 21])) (.list (List.replicate (3 : Int).toNat [PyData.tuple [.str "refused", .int 2]]).flatten) = true by decide +kernel]
        walk_at "w"
        exact ⟨rfl, rfl⟩
      · refine ⟨fun e => (by cases e), fun _ => ?_⟩
        walk_at "w"
    walk_at "w"
    exact ⟨_, rfl⟩
  subst ec
  walk_at "w"
  refine ⟨(), rfl, trivial, ?_⟩
  walk_at "w"
  refine ⟨(), rfl, trivial, ?_⟩
  walk_at "w"
  refine ⟨(), rfl, trivial, ?_⟩
  walk_at "w"
end
set_option maxHeartbeats 0 in
theorem factsL {P : Program} {w : World} {K : PySem.W.Frag} {h : Heap} {mg : Str → Option Value} {f : Addr} (X : K.In h) (G : h.Ns mainGlobals mg) (hfa : mg ("law" : Str) = some (.ref f)) (c : He.SaysX faL fnL exL K) :
    ∃ fd : FuncData, (∀ (s : Shared) (v : Value), BindsTo s fd ⟨[v], []⟩ [("_law_script", v)]) ∧ ∀ base : Heap, K.In base → base.Ns mainGlobals mg → FnOk P w K mg base CX0 11 f fd ["_law_script"] (spF K (fun ns : List Int => [.sc ns]) (fun ns => ns.length ≤ 63) fun _ => .bool true) := by
  have cX := c
  have c := cX.d
  obtain ⟨e_is_whole, F_is_whole⟩ := c.def_ 0 (d := d_is_whole) rfl
  have g_is_whole := He.glo_ok X G (c.fact 0 (f := .glo "is_whole") rfl)
  obtain ⟨e_is_whole_within, F_is_whole_within⟩ := c.def_ 1 (d := d_is_whole_within) rfl
  have g_is_whole_within := He.glo_ok X G (c.fact 1 (f := .glo "is_whole_within") rfl)
  obtain ⟨e__numbers_of, F__numbers_of⟩ := c.def_ 2 (d := d__numbers_of) rfl
  have g__numbers_of := He.glo_ok X G (c.fact 2 (f := .glo "_numbers_of") rfl)
  obtain ⟨e_is_row, F_is_row⟩ := c.def_ 3 (d := d_is_row) rfl
  have g_is_row := He.glo_ok X G (c.fact 3 (f := .glo "is_row") rfl)
  obtain ⟨e__is_word, F__is_word⟩ := c.def_ 4 (d := d__is_word) rfl
  have g__is_word := He.glo_ok X G (c.fact 4 (f := .glo "_is_word") rfl)
  obtain ⟨e__is_places, F__is_places⟩ := c.def_ 5 (d := d__is_places) rfl
  have g__is_places := He.glo_ok X G (c.fact 5 (f := .glo "_is_places") rfl)
  obtain ⟨e_is_shelf, F_is_shelf⟩ := c.def_ 6 (d := d_is_shelf) rfl
  have g_is_shelf := He.glo_ok X G (c.fact 6 (f := .glo "is_shelf") rfl)
  obtain ⟨e_is_line, F_is_line⟩ := c.def_ 7 (d := d_is_line) rfl
  have g_is_line := He.glo_ok X G (c.fact 7 (f := .glo "is_line") rfl)
  obtain ⟨e__are_places, F__are_places⟩ := c.def_ 8 (d := d__are_places) rfl
  have g__are_places := He.glo_ok X G (c.fact 8 (f := .glo "_are_places") rfl)
  obtain ⟨e__are_counts, F__are_counts⟩ := c.def_ 9 (d := d__are_counts) rfl
  have g__are_counts := He.glo_ok X G (c.fact 9 (f := .glo "_are_counts") rfl)
  obtain ⟨e__is_on, F__is_on⟩ := c.def_ 10 (d := d__is_on) rfl
  have g__is_on := He.glo_ok X G (c.fact 10 (f := .glo "_is_on") rfl)
  obtain ⟨e__is_letting, F__is_letting⟩ := c.def_ 11 (d := d__is_letting) rfl
  have g__is_letting := He.glo_ok X G (c.fact 11 (f := .glo "_is_letting") rfl)
  obtain ⟨e_check_row, F_check_row⟩ := c.def_ 12 (d := d_check_row) rfl
  have g_check_row := He.glo_ok X G (c.fact 12 (f := .glo "check_row") rfl)
  obtain ⟨e_check_unmarked, F_check_unmarked⟩ := c.def_ 13 (d := d_check_unmarked) rfl
  have g_check_unmarked := He.glo_ok X G (c.fact 13 (f := .glo "check_unmarked") rfl)
  obtain ⟨e_check_places, F_check_places⟩ := c.def_ 14 (d := d_check_places) rfl
  have g_check_places := He.glo_ok X G (c.fact 14 (f := .glo "check_places") rfl)
  obtain ⟨e_row_of, F_row_of⟩ := c.def_ 15 (d := d_row_of) rfl
  have g_row_of := He.glo_ok X G (c.fact 15 (f := .glo "row_of") rfl)
  obtain ⟨e_let_on, F_let_on⟩ := c.def_ 16 (d := d_let_on) rfl
  have g_let_on := He.glo_ok X G (c.fact 16 (f := .glo "let_on") rfl)
  obtain ⟨e__let_past, F__let_past⟩ := c.def_ 17 (d := d__let_past) rfl
  have g__let_past := He.glo_ok X G (c.fact 17 (f := .glo "_let_past") rfl)
  obtain ⟨e_past_with, F_past_with⟩ := c.def_ 18 (d := d_past_with) rfl
  have g_past_with := He.glo_ok X G (c.fact 18 (f := .glo "past_with") rfl)
  obtain ⟨e_comes_out, F_comes_out⟩ := c.def_ 19 (d := d_comes_out) rfl
  have g_comes_out := He.glo_ok X G (c.fact 19 (f := .glo "comes_out") rfl)
  obtain ⟨e__needed_at, F__needed_at⟩ := c.def_ 20 (d := d__needed_at) rfl
  have g__needed_at := He.glo_ok X G (c.fact 20 (f := .glo "_needed_at") rfl)
  obtain ⟨e_needed, F_needed⟩ := c.def_ 21 (d := d_needed) rfl
  have g_needed := He.glo_ok X G (c.fact 21 (f := .glo "needed") rfl)
  obtain ⟨e__put_at, F__put_at⟩ := c.def_ 22 (d := d__put_at) rfl
  have g__put_at := He.glo_ok X G (c.fact 22 (f := .glo "_put_at") rfl)
  obtain ⟨e_move, F_move⟩ := c.def_ 23 (d := d_move) rfl
  have g_move := He.glo_ok X G (c.fact 23 (f := .glo "move") rfl)
  obtain ⟨e__greater_ahead, F__greater_ahead⟩ := c.def_ 24 (d := d__greater_ahead) rfl
  have g__greater_ahead := He.glo_ok X G (c.fact 24 (f := .glo "_greater_ahead") rfl)
  obtain ⟨e_counts, F_counts⟩ := c.def_ 25 (d := d_counts) rfl
  have g_counts := He.glo_ok X G (c.fact 25 (f := .glo "counts") rfl)
  obtain ⟨e__can_have, F__can_have⟩ := c.def_ 26 (d := d__can_have) rfl
  have g__can_have := He.glo_ok X G (c.fact 26 (f := .glo "_can_have") rfl)
  obtain ⟨e__counts_ahead, F__counts_ahead⟩ := c.def_ 27 (d := d__counts_ahead) rfl
  have g__counts_ahead := He.glo_ok X G (c.fact 27 (f := .glo "_counts_ahead") rfl)
  obtain ⟨e_how_many, F_how_many⟩ := c.def_ 28 (d := d_how_many) rfl
  have g_how_many := He.glo_ok X G (c.fact 28 (f := .glo "how_many") rfl)
  obtain ⟨e_stretches, F_stretches⟩ := c.def_ 29 (d := d_stretches) rfl
  have g_stretches := He.glo_ok X G (c.fact 29 (f := .glo "stretches") rfl)
  obtain ⟨e_places, F_places⟩ := c.def_ 30 (d := d_places) rfl
  have g_places := He.glo_ok X G (c.fact 30 (f := .glo "places") rfl)
  obtain ⟨e_row_text, F_row_text⟩ := c.def_ 31 (d := d_row_text) rfl
  have g_row_text := He.glo_ok X G (c.fact 31 (f := .glo "row_text") rfl)
  obtain ⟨e_mended, F_mended⟩ := c.def_ 32 (d := d_mended) rfl
  have g_mended := He.glo_ok X G (c.fact 32 (f := .glo "mended") rfl)
  obtain ⟨e_past, F_past⟩ := c.def_ 33 (d := d_past) rfl
  have g_past := He.glo_ok X G (c.fact 33 (f := .glo "past") rfl)
  obtain ⟨e_moved, F_moved⟩ := c.def_ 34 (d := d_moved) rfl
  have g_moved := He.glo_ok X G (c.fact 34 (f := .glo "moved") rfl)
  obtain ⟨e_through, F_through⟩ := c.def_ 35 (d := d_through) rfl
  have g_through := He.glo_ok X G (c.fact 35 (f := .glo "through") rfl)
  obtain ⟨e_shelves, F_shelves⟩ := c.def_ 36 (d := d_shelves) rfl
  have g_shelves := He.glo_ok X G (c.fact 36 (f := .glo "shelves") rfl)
  obtain ⟨e_own_way, F_own_way⟩ := c.def_ 37 (d := d_own_way) rfl
  have g_own_way := He.glo_ok X G (c.fact 37 (f := .glo "own_way") rfl)
  obtain ⟨e_ahead, F_ahead⟩ := c.def_ 38 (d := d_ahead) rfl
  have g_ahead := He.glo_ok X G (c.fact 38 (f := .glo "ahead") rfl)
  obtain ⟨e_can_come, F_can_come⟩ := c.def_ 39 (d := d_can_come) rfl
  have g_can_come := He.glo_ok X G (c.fact 39 (f := .glo "can_come") rfl)
  obtain ⟨e_gained, F_gained⟩ := c.def_ 40 (d := d_gained) rfl
  have g_gained := He.glo_ok X G (c.fact 40 (f := .glo "gained") rfl)
  obtain ⟨e_near_counts, F_near_counts⟩ := c.def_ 41 (d := d_near_counts) rfl
  have g_near_counts := He.glo_ok X G (c.fact 41 (f := .glo "near_counts") rfl)
  obtain ⟨e__check_shelf, F__check_shelf⟩ := c.def_ 42 (d := d__check_shelf) rfl
  have g__check_shelf := He.glo_ok X G (c.fact 42 (f := .glo "_check_shelf") rfl)
  obtain ⟨e_check_line, F_check_line⟩ := c.def_ 43 (d := d_check_line) rfl
  have g_check_line := He.glo_ok X G (c.fact 43 (f := .glo "check_line") rfl)
  obtain ⟨e_merged, F_merged⟩ := c.def_ 44 (d := d_merged) rfl
  have g_merged := He.glo_ok X G (c.fact 44 (f := .glo "merged") rfl)
  obtain ⟨e_line_text, F_line_text⟩ := c.def_ 45 (d := d_line_text) rfl
  have g_line_text := He.glo_ok X G (c.fact 45 (f := .glo "line_text") rfl)
  obtain ⟨e_sorted_by, F_sorted_by⟩ := c.def_ 46 (d := d_sorted_by) rfl
  have g_sorted_by := He.glo_ok X G (c.fact 46 (f := .glo "sorted_by") rfl)
  obtain ⟨e_Line___init__, F_Line___init__⟩ := c.def_ 47 (d := d_Line___init__) rfl
  obtain ⟨e__law_ask, F__law_ask⟩ := c.def_ 48 (d := d__law_ask) rfl
  have g__law_ask := He.glo_ok X G (c.fact 47 (f := .glo "_law_ask") rfl)
  obtain ⟨e__law_places_refused, F__law_places_refused⟩ := c.def_ 49 (d := d__law_places_refused) rfl
  have g__law_places_refused := He.glo_ok X G (c.fact 48 (f := .glo "_law_places_refused") rfl)
  obtain ⟨e__law_deeds_refused, F__law_deeds_refused⟩ := c.def_ 50 (d := d__law_deeds_refused) rfl
  have g__law_deeds_refused := He.glo_ok X G (c.fact 49 (f := .glo "_law_deeds_refused") rfl)
  obtain ⟨e__law_with_refused, F__law_with_refused⟩ := c.def_ 51 (d := d__law_with_refused) rfl
  have g__law_with_refused := He.glo_ok X G (c.fact 50 (f := .glo "_law_with_refused") rfl)
  obtain ⟨e_law, F_law⟩ := c.def_ 52 (d := d_law) rfl
  have g_law := He.glo_ok X G (c.fact 51 (f := .glo "law") rfl)
  obtain ⟨e__law_which, F__law_which⟩ := c.def_ 53 (d := d__law_which) rfl
  have g__law_which := He.glo_ok X G (c.fact 52 (f := .glo "_law_which") rfl)
  have m_ValueError := He.free_ok X G (c.fact 53 (f := .free "ValueError") rfl)
  have m_all := He.free_ok X G (c.fact 54 (f := .free "all") rfl)
  have m_bool := He.free_ok X G (c.fact 55 (f := .free "bool") rfl)
  have m_dict := He.free_ok X G (c.fact 56 (f := .free "dict") rfl)
  have m_enumerate := He.free_ok X G (c.fact 57 (f := .free "enumerate") rfl)
  have m_int := He.free_ok X G (c.fact 58 (f := .free "int") rfl)
  have m_isinstance := He.free_ok X G (c.fact 59 (f := .free "isinstance") rfl)
  have m_len := He.free_ok X G (c.fact 60 (f := .free "len") rfl)
  have m_list := He.free_ok X G (c.fact 61 (f := .free "list") rfl)
  have m_max := He.free_ok X G (c.fact 62 (f := .free "max") rfl)
  have m_min := He.free_ok X G (c.fact 63 (f := .free "min") rfl)
  have m_range := He.free_ok X G (c.fact 64 (f := .free "range") rfl)
  have m_set := He.free_ok X G (c.fact 65 (f := .free "set") rfl)
  have m_sorted := He.free_ok X G (c.fact 66 (f := .free "sorted") rfl)
  have m_str := He.free_ok X G (c.fact 67 (f := .free "str") rfl)
  have m_tuple := He.free_ok X G (c.fact 68 (f := .free "tuple") rfl)
  have m_zip := He.free_ok X G (c.fact 69 (f := .free "zip") rfl)
  have c_HEAVY : GlobS K mg "HEAVY" "heavy" := ⟨He.str_ok X G (c.fact 70 (f := .str "HEAVY" "heavy") rfl)⟩
  have c_LIGHT : GlobS K mg "LIGHT" "light" := ⟨He.str_ok X G (c.fact 71 (f := .str "LIGHT" "light") rfl)⟩
  have c_MOST_PLACES : GlobI K mg "MOST_PLACES" 9 := ⟨He.int_ok X G (c.fact 72 (f := .int "MOST_PLACES" 9) rfl)⟩
  have c_MOST_ROWS : GlobI K mg "MOST_ROWS" 3000 := ⟨He.int_ok X G (c.fact 73 (f := .int "MOST_ROWS" 3000) rfl)⟩
  have c_MOST_SHELVES : GlobI K mg "MOST_SHELVES" 8 := ⟨He.int_ok X G (c.fact 74 (f := .int "MOST_SHELVES" 8) rfl)⟩
  have c_MOST_THINGS : GlobI K mg "MOST_THINGS" 24 := ⟨He.int_ok X G (c.fact 75 (f := .int "MOST_THINGS" 24) rfl)⟩
  have c_ON : GlobS K mg "ON" "on" := ⟨He.str_ok X G (c.fact 76 (f := .str "ON" "on") rfl)⟩
  have e := hfa.symm.trans g_law
  cases e
  have g_Line := He.glo_ok X G (c.fact 77 (f := .glo "Line") rfl)
  have cl_Line := He.cls_ok (c.fact 78 (f := .cls "Line") rfl)
  have M_Line := He.mkr_ok (c.fact 79 (f := .mkr "Line") rfl)
  have T_Line : LnC K (He.ga K "Line") := ⟨cl_Line, He.noat_ok (c.fact 80 (f := .noat "Line" "_shelves") rfl), He.noat_ok (c.fact 81 (f := .noat "Line" "_standing") rfl), He.noat_ok (c.fact 82 (f := .noat "Line" "_out") rfl), He.noat_ok (c.fact 83 (f := .noat "Line" "_there") rfl), He.noat_ok (c.fact 84 (f := .noat "Line" "_done") rfl)⟩
  have I_Line : LnI K (He.ga K "Line") := LnI.of cl_Line (cX.x 9 rfl)
  have D_is_whole : Df K mg "is_whole" s_is_whole ["thing"] (He.ga K "is_whole") e_is_whole := Df.of F_is_whole g_is_whole fun _ _ _ _ _ _ us hl => match us, hl with | [_], _ => rfl
  have D_is_whole_within : Df K mg "is_whole_within" s_is_whole_within ["thing", "least", "most"] (He.ga K "is_whole_within") e_is_whole_within := Df.of F_is_whole_within g_is_whole_within fun _ _ _ _ _ _ us hl => match us, hl with | [_, _, _], _ => rfl
  have D__numbers_of : Df K mg "_numbers_of" s__numbers_of ["things"] (He.ga K "_numbers_of") e__numbers_of := Df.of F__numbers_of g__numbers_of fun _ _ _ _ _ _ us hl => match us, hl with | [_], _ => rfl
  have D_is_row : Df K mg "is_row" s_is_row ["thing"] (He.ga K "is_row") e_is_row := Df.of F_is_row g_is_row fun _ _ _ _ _ _ us hl => match us, hl with | [_], _ => rfl
  have D__is_word : Df K mg "_is_word" s__is_word ["thing"] (He.ga K "_is_word") e__is_word := Df.of F__is_word g__is_word fun _ _ _ _ _ _ us hl => match us, hl with | [_], _ => rfl
  have D__is_places : Df K mg "_is_places" s__is_places ["thing"] (He.ga K "_is_places") e__is_places := Df.of F__is_places g__is_places fun _ _ _ _ _ _ us hl => match us, hl with | [_], _ => rfl
  have D_is_shelf : Df K mg "is_shelf" s_is_shelf ["thing"] (He.ga K "is_shelf") e_is_shelf := Df.of F_is_shelf g_is_shelf fun _ _ _ _ _ _ us hl => match us, hl with | [_], _ => rfl
  have D_is_line : Df K mg "is_line" s_is_line ["thing"] (He.ga K "is_line") e_is_line := Df.of F_is_line g_is_line fun _ _ _ _ _ _ us hl => match us, hl with | [_], _ => rfl
  have D__are_places : Df K mg "_are_places" s__are_places ["thing", "many"] (He.ga K "_are_places") e__are_places := Df.of F__are_places g__are_places fun _ _ _ _ _ _ us hl => match us, hl with | [_, _], _ => rfl
  have D__are_counts : Df K mg "_are_counts" s__are_counts ["thing", "many"] (He.ga K "_are_counts") e__are_counts := Df.of F__are_counts g__are_counts fun _ _ _ _ _ _ us hl => match us, hl with | [_, _], _ => rfl
  have D__is_on : Df K mg "_is_on" s__is_on ["step"] (He.ga K "_is_on") e__is_on := Df.of F__is_on g__is_on fun _ _ _ _ _ _ us hl => match us, hl with | [_], _ => rfl
  have D__is_letting : Df K mg "_is_letting" s__is_letting ["row", "places", "letting"] (He.ga K "_is_letting") e__is_letting := Df.of F__is_letting g__is_letting fun _ _ _ _ _ _ us hl => match us, hl with | [_, _, _], _ => rfl
  have D_check_row : Df K mg "check_row" s_check_row ["row"] (He.ga K "check_row") e_check_row := Df.of F_check_row g_check_row fun _ _ _ _ _ _ us hl => match us, hl with | [_], _ => rfl
  have D_check_unmarked : Df K mg "check_unmarked" s_check_unmarked ["row"] (He.ga K "check_unmarked") e_check_unmarked := Df.of F_check_unmarked g_check_unmarked fun _ _ _ _ _ _ us hl => match us, hl with | [_], _ => rfl
  have D_check_places : DfD K mg "check_places" s_check_places ["places", "least"] (0) (He.ga K "check_places") e_check_places := DfD.of 1 F_check_places g_check_places rfl (fun _ _ _ _ _ _ _ us its hl hi => match us, its, hl, hi with | [_, _], [_], _, _ => ⟨_, rfl, rfl⟩) (fun _ _ _ _ _ _ _ us its hl hi => match us, its, hl, hi with | [_], [_], _, _ => ⟨_, rfl, rfl⟩)
  have D_row_of : Df K mg "row_of" s_row_of ["numbers", "counts"] (He.ga K "row_of") e_row_of := Df.of F_row_of g_row_of fun _ _ _ _ _ _ us hl => match us, hl with | [_, _], _ => rfl
  have D_let_on : Df K mg "let_on" s_let_on ["standing", "word", "most"] (He.ga K "let_on") e_let_on := Df.of F_let_on g_let_on fun _ _ _ _ _ _ us hl => match us, hl with | [_, _, _], _ => rfl
  have D__let_past : Df K mg "_let_past" s__let_past ["numbers", "word", "places"] (He.ga K "_let_past") e__let_past := Df.of F__let_past g__let_past fun _ _ _ _ _ _ us hl => match us, hl with | [_, _, _], _ => rfl
  have D_past_with : Df K mg "past_with" s_past_with ["row", "word", "places"] (He.ga K "past_with") e_past_with := Df.of F_past_with g_past_with fun _ _ _ _ _ _ us hl => match us, hl with | [_, _, _], _ => rfl
  have D_comes_out : Df K mg "comes_out" s_comes_out ["row", "places", "letting"] (He.ga K "comes_out") e_comes_out := Df.of F_comes_out g_comes_out fun _ _ _ _ _ _ us hl => match us, hl with | [_, _, _], _ => rfl
  have D__needed_at : Df K mg "_needed_at" s__needed_at ["row", "place"] (He.ga K "_needed_at") e__needed_at := Df.of F__needed_at g__needed_at fun _ _ _ _ _ _ us hl => match us, hl with | [_, _], _ => rfl
  have D_needed : Df K mg "needed" s_needed ["row"] (He.ga K "needed") e_needed := Df.of F_needed g_needed fun _ _ _ _ _ _ us hl => match us, hl with | [_], _ => rfl
  have D__put_at : Df K mg "_put_at" s__put_at ["row", "one", "other"] (He.ga K "_put_at") e__put_at := Df.of F__put_at g__put_at fun _ _ _ _ _ _ us hl => match us, hl with | [_, _, _], _ => rfl
  have D_move : Df K mg "move" s_move ["row", "one", "other"] (He.ga K "move") e_move := Df.of F_move g_move fun _ _ _ _ _ _ us hl => match us, hl with | [_, _, _], _ => rfl
  have D__greater_ahead : Df K mg "_greater_ahead" s__greater_ahead ["numbers"] (He.ga K "_greater_ahead") e__greater_ahead := Df.of F__greater_ahead g__greater_ahead fun _ _ _ _ _ _ us hl => match us, hl with | [_], _ => rfl
  have D_counts : Df K mg "counts" s_counts ["row"] (He.ga K "counts") e_counts := Df.of F_counts g_counts fun _ _ _ _ _ _ us hl => match us, hl with | [_], _ => rfl
  have D__can_have : Df K mg "_can_have" s__can_have ["count", "rank", "places"] (He.ga K "_can_have") e__can_have := Df.of F__can_have g__can_have fun _ _ _ _ _ _ us hl => match us, hl with | [_, _, _], _ => rfl
  have D__counts_ahead : Df K mg "_counts_ahead" s__counts_ahead ["row", "places"] (He.ga K "_counts_ahead") e__counts_ahead := Df.of F__counts_ahead g__counts_ahead fun _ _ _ _ _ _ us hl => match us, hl with | [_, _], _ => rfl
  have D_how_many : Df K mg "how_many" s_how_many ["row", "places"] (He.ga K "how_many") e_how_many := Df.of F_how_many g_how_many fun _ _ _ _ _ _ us hl => match us, hl with | [_, _], _ => rfl
  have D_stretches : Df K mg "stretches" s_stretches ["row"] (He.ga K "stretches") e_stretches := Df.of F_stretches g_stretches fun _ _ _ _ _ _ us hl => match us, hl with | [_], _ => rfl
  have D_places : Df K mg "places" s_places ["row"] (He.ga K "places") e_places := Df.of F_places g_places fun _ _ _ _ _ _ us hl => match us, hl with | [_], _ => rfl
  have D_row_text : Df K mg "row_text" s_row_text ["row"] (He.ga K "row_text") e_row_text := Df.of F_row_text g_row_text fun _ _ _ _ _ _ us hl => match us, hl with | [_], _ => rfl
  have D_mended : Df K mg "mended" s_mended ["row"] (He.ga K "mended") e_mended := Df.of F_mended g_mended fun _ _ _ _ _ _ us hl => match us, hl with | [_], _ => rfl
  have D_past : Df K mg "past" s_past ["row", "shelf"] (He.ga K "past") e_past := Df.of F_past g_past fun _ _ _ _ _ _ us hl => match us, hl with | [_, _], _ => rfl
  have D_moved : Df K mg "moved" s_moved ["row", "shelf"] (He.ga K "moved") e_moved := Df.of F_moved g_moved fun _ _ _ _ _ _ us hl => match us, hl with | [_, _], _ => rfl
  have D_through : Df K mg "through" s_through ["row", "line"] (He.ga K "through") e_through := Df.of F_through g_through fun _ _ _ _ _ _ us hl => match us, hl with | [_, _], _ => rfl
  have D_shelves : Df K mg "shelves" s_shelves ["row", "places"] (He.ga K "shelves") e_shelves := Df.of F_shelves g_shelves fun _ _ _ _ _ _ us hl => match us, hl with | [_, _], _ => rfl
  have D_own_way : Df K mg "own_way" s_own_way ["row", "places"] (He.ga K "own_way") e_own_way := Df.of F_own_way g_own_way fun _ _ _ _ _ _ us hl => match us, hl with | [_, _], _ => rfl
  have D_ahead : Df K mg "ahead" s_ahead ["row", "places"] (He.ga K "ahead") e_ahead := Df.of F_ahead g_ahead fun _ _ _ _ _ _ us hl => match us, hl with | [_, _], _ => rfl
  have D_can_come : Df K mg "can_come" s_can_come ["row", "places"] (He.ga K "can_come") e_can_come := Df.of F_can_come g_can_come fun _ _ _ _ _ _ us hl => match us, hl with | [_, _], _ => rfl
  have D_gained : Df K mg "gained" s_gained ["row", "places", "letting"] (He.ga K "gained") e_gained := Df.of F_gained g_gained fun _ _ _ _ _ _ us hl => match us, hl with | [_, _, _], _ => rfl
  have D_near_counts : Df K mg "near_counts" s_near_counts ["row"] (He.ga K "near_counts") e_near_counts := Df.of F_near_counts g_near_counts fun _ _ _ _ _ _ us hl => match us, hl with | [_], _ => rfl
  have D__check_shelf : Df K mg "_check_shelf" s__check_shelf ["shelf"] (He.ga K "_check_shelf") e__check_shelf := Df.of F__check_shelf g__check_shelf fun _ _ _ _ _ _ us hl => match us, hl with | [_], _ => rfl
  have D_check_line : Df K mg "check_line" s_check_line ["line"] (He.ga K "check_line") e_check_line := Df.of F_check_line g_check_line fun _ _ _ _ _ _ us hl => match us, hl with | [_], _ => rfl
  have D_merged : Df K mg "merged" s_merged ["line"] (He.ga K "merged") e_merged := Df.of F_merged g_merged fun _ _ _ _ _ _ us hl => match us, hl with | [_], _ => rfl
  have D_line_text : Df K mg "line_text" s_line_text ["line"] (He.ga K "line_text") e_line_text := Df.of F_line_text g_line_text fun _ _ _ _ _ _ us hl => match us, hl with | [_], _ => rfl
  have D_sorted_by : Df K mg "sorted_by" s_sorted_by ["many", "places"] (He.ga K "sorted_by") e_sorted_by := Df.of F_sorted_by g_sorted_by fun _ _ _ _ _ _ us hl => match us, hl with | [_, _], _ => rfl
  have D_Line___init__ : DfM K (He.ga K "Line") "__init__" "Line.__init__" s_Line___init__ ["self", "shelves"] (He.ma K (He.ga K "Line") "__init__") e_Line___init__ := DfM.of F_Line___init__ (He.meth_ok (c.fact 85 (f := .meth "Line" "__init__") rfl)) fun _ _ _ _ _ _ us hl => match us, hl with | [_, _], _ => rfl
  have D__law_ask : Df K mg "_law_ask" s__law_ask ["_law_what", "_law_one", "_law_two", "_law_three"] (He.ga K "_law_ask") e__law_ask := Df.of F__law_ask g__law_ask fun _ _ _ _ _ _ us hl => match us, hl with | [_, _, _, _], _ => rfl
  have D__law_places_refused : Df K mg "_law_places_refused" s__law_places_refused ["_law_row"] (He.ga K "_law_places_refused") e__law_places_refused := Df.of F__law_places_refused g__law_places_refused fun _ _ _ _ _ _ us hl => match us, hl with | [_], _ => rfl
  have D__law_deeds_refused : Df K mg "_law_deeds_refused" s__law_deeds_refused ["_law_row"] (He.ga K "_law_deeds_refused") e__law_deeds_refused := Df.of F__law_deeds_refused g__law_deeds_refused fun _ _ _ _ _ _ us hl => match us, hl with | [_], _ => rfl
  have D__law_with_refused : Df K mg "_law_with_refused" s__law_with_refused ["_law_row"] (He.ga K "_law_with_refused") e__law_with_refused := Df.of F__law_with_refused g__law_with_refused fun _ _ _ _ _ _ us hl => match us, hl with | [_], _ => rfl
  have D_law : Df K mg "law" s_law ["_law_script"] (He.ga K "law") e_law := Df.of F_law g_law fun _ _ _ _ _ _ us hl => match us, hl with | [_], _ => rfl
  have D__law_which : Df K mg "_law_which" s__law_which ["_law_e"] (He.ga K "_law_which") e__law_which := Df.of F__law_which g__law_which fun _ _ _ _ _ _ us hl => match us, hl with | [_], _ => rfl
  have b := FunD.bindsA (ps := ["_law_script"]) F_law fun _ _ _ _ _ _ us hl => match us, hl with | [_], _ => rfl
  have g_NoRow := He.glo_ok X G (c.fact 86 (f := .glo "NoRow") rfl)
  have g_NoShelf := He.glo_ok X G (c.fact 87 (f := .glo "NoShelf") rfl)
  have g_NoLine := He.glo_ok X G (c.fact 88 (f := .glo "NoLine") rfl)
  have g_NoPlaces := He.glo_ok X G (c.fact 89 (f := .glo "NoPlaces") rfl)
  have g_Marked := He.glo_ok X G (c.fact 90 (f := .glo "Marked") rfl)
  have g_NoCounts := He.glo_ok X G (c.fact 91 (f := .glo "NoCounts") rfl)
  have g_NoLetting := He.glo_ok X G (c.fact 92 (f := .glo "NoLetting") rfl)
  have g_TooMany := He.glo_ok X G (c.fact 93 (f := .glo "TooMany") rfl)
  have g_NoMove := He.glo_ok X G (c.fact 94 (f := .glo "NoMove") rfl)
  have g_NoText := He.glo_ok X G (c.fact 95 (f := .glo "NoText") rfl)
  have g_NoNumber := He.glo_ok X G (c.fact 96 (f := .glo "NoNumber") rfl)
  have g_Nothing := He.glo_ok X G (c.fact 97 (f := .glo "Nothing") rfl)
  have g_ShelfError := He.glo_ok X G (c.fact 98 (f := .glo "ShelfError") rfl)
  have x_NoRow := ExcF.of X G (c.fact 86 (f := .glo "NoRow") rfl) (c.fact 99 (f := .exc "NoRow") rfl)
  have x_NoShelf := ExcF.of X G (c.fact 87 (f := .glo "NoShelf") rfl) (c.fact 100 (f := .exc "NoShelf") rfl)
  have x_NoLine := ExcF.of X G (c.fact 88 (f := .glo "NoLine") rfl) (c.fact 101 (f := .exc "NoLine") rfl)
  have x_NoPlaces := ExcF.of X G (c.fact 89 (f := .glo "NoPlaces") rfl) (c.fact 102 (f := .exc "NoPlaces") rfl)
  have x_Marked := ExcF.of X G (c.fact 90 (f := .glo "Marked") rfl) (c.fact 103 (f := .exc "Marked") rfl)
  have x_NoCounts := ExcF.of X G (c.fact 91 (f := .glo "NoCounts") rfl) (c.fact 104 (f := .exc "NoCounts") rfl)
  have x_NoLetting := ExcF.of X G (c.fact 92 (f := .glo "NoLetting") rfl) (c.fact 105 (f := .exc "NoLetting") rfl)
  have x_TooMany := ExcF.of X G (c.fact 93 (f := .glo "TooMany") rfl) (c.fact 106 (f := .exc "TooMany") rfl)
  have x_NoMove := ExcF.of X G (c.fact 94 (f := .glo "NoMove") rfl) (c.fact 107 (f := .exc "NoMove") rfl)
  have w_g := D__law_which.g
  have w_k := D__law_which.F.kp
  have w_b := D__law_which.b
  have w_eNoRow := He.exm_ok (c.fact 108 (f := .exm "NoRow" "ShelfError" true) rfl)
  have w_iNoRow : Ld.idxK K [He.ga K "NoRow", He.ga K "NoShelf", He.ga K "NoLine", He.ga K "NoPlaces", He.ga K "Marked", He.ga K "NoCounts", He.ga K "NoLetting", He.ga K "TooMany", He.ga K "NoMove", He.ga K "NoText", He.ga K "NoNumber", He.ga K "Nothing"] (He.ga K "NoRow") = some 0 := Ld.idxK_of rfl (He.klB_ok (by decide) (cX.x 0 rfl))
  have w_eNoShelf := He.exm_ok (c.fact 109 (f := .exm "NoShelf" "ShelfError" true) rfl)
  have w_iNoShelf : Ld.idxK K [He.ga K "NoRow", He.ga K "NoShelf", He.ga K "NoLine", He.ga K "NoPlaces", He.ga K "Marked", He.ga K "NoCounts", He.ga K "NoLetting", He.ga K "TooMany", He.ga K "NoMove", He.ga K "NoText", He.ga K "NoNumber", He.ga K "Nothing"] (He.ga K "NoShelf") = some 1 := Ld.idxK_of rfl (He.klB_ok (by decide) (cX.x 1 rfl))
  have w_eNoLine := He.exm_ok (c.fact 110 (f := .exm "NoLine" "ShelfError" true) rfl)
  have w_iNoLine : Ld.idxK K [He.ga K "NoRow", He.ga K "NoShelf", He.ga K "NoLine", He.ga K "NoPlaces", He.ga K "Marked", He.ga K "NoCounts", He.ga K "NoLetting", He.ga K "TooMany", He.ga K "NoMove", He.ga K "NoText", He.ga K "NoNumber", He.ga K "Nothing"] (He.ga K "NoLine") = some 2 := Ld.idxK_of rfl (He.klB_ok (by decide) (cX.x 2 rfl))
  have w_eNoPlaces := He.exm_ok (c.fact 111 (f := .exm "NoPlaces" "ShelfError" true) rfl)
  have w_iNoPlaces : Ld.idxK K [He.ga K "NoRow", He.ga K "NoShelf", He.ga K "NoLine", He.ga K "NoPlaces", He.ga K "Marked", He.ga K "NoCounts", He.ga K "NoLetting", He.ga K "TooMany", He.ga K "NoMove", He.ga K "NoText", He.ga K "NoNumber", He.ga K "Nothing"] (He.ga K "NoPlaces") = some 3 := Ld.idxK_of rfl (He.klB_ok (by decide) (cX.x 3 rfl))
  have w_eMarked := He.exm_ok (c.fact 112 (f := .exm "Marked" "ShelfError" true) rfl)
  have w_iMarked : Ld.idxK K [He.ga K "NoRow", He.ga K "NoShelf", He.ga K "NoLine", He.ga K "NoPlaces", He.ga K "Marked", He.ga K "NoCounts", He.ga K "NoLetting", He.ga K "TooMany", He.ga K "NoMove", He.ga K "NoText", He.ga K "NoNumber", He.ga K "Nothing"] (He.ga K "Marked") = some 4 := Ld.idxK_of rfl (He.klB_ok (by decide) (cX.x 4 rfl))
  have w_eNoCounts := He.exm_ok (c.fact 113 (f := .exm "NoCounts" "ShelfError" true) rfl)
  have w_iNoCounts : Ld.idxK K [He.ga K "NoRow", He.ga K "NoShelf", He.ga K "NoLine", He.ga K "NoPlaces", He.ga K "Marked", He.ga K "NoCounts", He.ga K "NoLetting", He.ga K "TooMany", He.ga K "NoMove", He.ga K "NoText", He.ga K "NoNumber", He.ga K "Nothing"] (He.ga K "NoCounts") = some 5 := Ld.idxK_of rfl (He.klB_ok (by decide) (cX.x 5 rfl))
  have w_eNoLetting := He.exm_ok (c.fact 114 (f := .exm "NoLetting" "ShelfError" true) rfl)
  have w_iNoLetting : Ld.idxK K [He.ga K "NoRow", He.ga K "NoShelf", He.ga K "NoLine", He.ga K "NoPlaces", He.ga K "Marked", He.ga K "NoCounts", He.ga K "NoLetting", He.ga K "TooMany", He.ga K "NoMove", He.ga K "NoText", He.ga K "NoNumber", He.ga K "Nothing"] (He.ga K "NoLetting") = some 6 := Ld.idxK_of rfl (He.klB_ok (by decide) (cX.x 6 rfl))
  have w_eTooMany := He.exm_ok (c.fact 115 (f := .exm "TooMany" "ShelfError" true) rfl)
  have w_iTooMany : Ld.idxK K [He.ga K "NoRow", He.ga K "NoShelf", He.ga K "NoLine", He.ga K "NoPlaces", He.ga K "Marked", He.ga K "NoCounts", He.ga K "NoLetting", He.ga K "TooMany", He.ga K "NoMove", He.ga K "NoText", He.ga K "NoNumber", He.ga K "Nothing"] (He.ga K "TooMany") = some 7 := Ld.idxK_of rfl (He.klB_ok (by decide) (cX.x 7 rfl))
  have w_eNoMove := He.exm_ok (c.fact 116 (f := .exm "NoMove" "ShelfError" true) rfl)
  have w_iNoMove : Ld.idxK K [He.ga K "NoRow", He.ga K "NoShelf", He.ga K "NoLine", He.ga K "NoPlaces", He.ga K "Marked", He.ga K "NoCounts", He.ga K "NoLetting", He.ga K "TooMany", He.ga K "NoMove", He.ga K "NoText", He.ga K "NoNumber", He.ga K "Nothing"] (He.ga K "NoMove") = some 8 := Ld.idxK_of rfl (He.klB_ok (by decide) (cX.x 8 rfl))
  have w_e := w_eNoRow
  have w_i := w_iNoRow
  refine ⟨e_law, fun s v => b s [v] rfl, fun base _ _ => ?_⟩
  have W_which := ok__law_which (P := P) (w := w) (mg := mg) (base := base) D__law_which g_NoRow g_NoShelf g_NoLine g_NoPlaces g_Marked g_NoCounts g_NoLetting g_TooMany g_NoMove g_NoText g_NoNumber g_Nothing m_isinstance m_ValueError (idx := Ld.idxK K [He.ga K "NoRow", He.ga K "NoShelf", He.ga K "NoLine", He.ga K "NoPlaces", He.ga K "Marked", He.ga K "NoCounts", He.ga K "NoLetting", He.ga K "TooMany", He.ga K "NoMove", He.ga K "NoText", He.ga K "NoNumber", He.ga K "Nothing"]) (fun X n h => Ld.idxK_kit h)
  have C_is_whole := ok_is_whole (P := P) (w := w) (mg := mg) (base := base) D_is_whole m_bool m_int m_isinstance
  have C_is_wholeO := ok_is_wholeO (P := P) (w := w) (mg := mg) (base := base) D_is_whole m_bool m_int m_isinstance
  have C_is_whole_within := ok_is_whole_within (P := P) (w := w) (mg := mg) (base := base) D_is_whole_within C_is_whole
  have C_is_whole_withinO := ok_is_whole_withinO (P := P) (w := w) (mg := mg) (base := base) D_is_whole_within C_is_wholeO
  have C__numbers_of := ok__numbers_of (P := P) (w := w) (mg := mg) (base := base) D__numbers_of 
  have C_numbersO := ok_numbersO (P := P) (w := w) (mg := mg) (base := base) D__numbers_of 
  have C_is_row := ok_is_row (P := P) (w := w) (mg := mg) (base := base) D_is_row C__numbers_of C_is_whole m_all m_isinstance m_len m_set m_tuple c_MOST_THINGS
  have C_is_rowO := ok_is_rowO (P := P) (w := w) (mg := mg) (base := base) D_is_row C_is_wholeO C_numbersO m_all m_isinstance m_len m_set m_tuple c_MOST_THINGS
  have C_is_wordO := ok_is_wordO (P := P) (w := w) (mg := mg) (base := base) D__is_word m_isinstance m_str c_HEAVY c_LIGHT
  have C__is_word := ok__is_word (P := P) (w := w) (mg := mg) (base := base) D__is_word m_isinstance m_str c_HEAVY c_LIGHT
  have C_is_placesO := ok_is_placesO (P := P) (w := w) (mg := mg) (base := base) D__is_places C_is_whole_withinO c_MOST_PLACES
  have C__is_places := ok__is_places (P := P) (w := w) (mg := mg) (base := base) D__is_places C_is_whole_within c_MOST_PLACES
  have C_is_shelfO := ok_is_shelfO (P := P) (w := w) (mg := mg) (base := base) D_is_shelf C_is_placesO C_is_wordO m_isinstance m_len m_tuple
  have C_is_lineO := ok_is_lineO (P := P) (w := w) (mg := mg) (base := base) D_is_line C_is_shelfO m_all m_isinstance m_len m_tuple c_MOST_SHELVES
  have C_are_placesO := ok_are_placesO (P := P) (w := w) (mg := mg) (base := base) D__are_places C_is_placesO m_all m_isinstance m_len m_tuple
  have C__are_places := ok__are_places (P := P) (w := w) (mg := mg) (base := base) D__are_places C__is_places m_all m_isinstance m_len m_tuple
  have C_are_countsO := ok_are_countsO (P := P) (w := w) (mg := mg) (base := base) D__are_counts C_is_whole_withinO m_all m_enumerate m_isinstance m_len m_list
  have C__are_counts := ok__are_counts (P := P) (w := w) (mg := mg) (base := base) D__are_counts C_is_whole_within m_all m_enumerate m_isinstance m_len m_list
  have C_is_onO := ok_is_onO (P := P) (w := w) (mg := mg) (base := base) D__is_on m_isinstance m_str c_ON
  have C_is_lettingO := ok_is_lettingO (P := P) (w := w) (mg := mg) (base := base) D__is_letting C_is_onO C_is_wholeO m_isinstance m_len m_tuple
  have C_check_row := ok_check_row (P := P) (w := w) (mg := mg) (base := base) D_check_row C_is_row
  have C_check_unmarked := ok_check_unmarked (P := P) (w := w) (mg := mg) (base := base) D_check_unmarked C_check_row
  have C_check_places := ok_check_places (P := P) (w := w) (mg := mg) (base := base) D_check_places C_is_whole_within c_MOST_PLACES
  have C_row_of := ok_row_of (P := P) (w := w) (mg := mg) (base := base) D_row_of C__are_counts C_check_unmarked m_len m_sorted m_tuple m_zip
  have C_let_on := ok_let_on (P := P) (w := w) (mg := mg) (base := base) D_let_on m_len m_max m_min c_LIGHT
  have C_let_pastT := ok_let_pastT (P := P) (w := w) (mg := mg) (base := base) D__let_past C_let_on m_zip
  have C_past_with := ok_past_with (P := P) (w := w) (mg := mg) (base := base) D_past_with C__are_places C__is_word C_check_unmarked C_let_pastT m_len m_tuple
  have C_comes_out := ok_comes_out (P := P) (w := w) (mg := mg) (base := base) D_comes_out C_check_places C_check_unmarked C_is_lettingO C_is_wholeO m_tuple
  have C__needed_at := ok__needed_at (P := P) (w := w) (mg := mg) (base := base) D__needed_at m_len m_min
  have C_needed := ok_needed (P := P) (w := w) (mg := mg) (base := base) D_needed C__needed_at C_check_unmarked m_len m_range
  have C__put_at := ok__put_at (P := P) (w := w) (mg := mg) (base := base) D__put_at 
  have C_move := ok_move (P := P) (w := w) (mg := mg) (base := base) D_move C__put_at C_check_unmarked C_is_whole_within m_len
  have C_greater_aheadL := ok_greater_aheadL (P := P) (w := w) (mg := mg) (base := base) D__greater_ahead m_enumerate m_len
  have C_greater_aheadT := ok_greater_aheadT (P := P) (w := w) (mg := mg) (base := base) D__greater_ahead m_enumerate m_len
  have C_counts := ok_counts (P := P) (w := w) (mg := mg) (base := base) D_counts C__numbers_of C_check_row C_greater_aheadL
  have C__can_have := ok__can_have (P := P) (w := w) (mg := mg) (base := base) D__can_have m_list m_min m_range
  have C__counts_ahead := ok__counts_ahead (P := P) (w := w) (mg := mg) (base := base) D__counts_ahead C__can_have C_counts m_dict m_enumerate m_sorted m_zip
  have C_how_many := ok_how_many (P := P) (w := w) (mg := mg) (base := base) D_how_many C__counts_ahead C_check_places C_check_unmarked m_len
  have C_check_rowR := ok_check_rowR (P := P) (w := w) (mg := mg) (base := base) D_check_row C_is_rowO x_NoRow
  have C_check_unmarkedR := ok_check_unmarkedR (P := P) (w := w) (mg := mg) (base := base) D_check_unmarked C_check_rowR
  have C_countsR := ok_countsR (P := P) (w := w) (mg := mg) (base := base) D_counts C_check_rowR
  have C_stretchesR := ok_stretchesR (P := P) (w := w) (mg := mg) (base := base) D_stretches C_check_rowR
  have C_placesR := ok_placesR (P := P) (w := w) (mg := mg) (base := base) D_places C_check_rowR
  have C_row_textR := ok_row_textR (P := P) (w := w) (mg := mg) (base := base) D_row_text C_check_rowR
  have C_mendedR := ok_mendedR (P := P) (w := w) (mg := mg) (base := base) D_mended C_check_unmarkedR
  have C_pastR := ok_pastR (P := P) (w := w) (mg := mg) (base := base) D_past C_check_rowR
  have C_movedR := ok_movedR (P := P) (w := w) (mg := mg) (base := base) D_moved C_pastR
  have C_throughR := ok_throughR (P := P) (w := w) (mg := mg) (base := base) D_through C_check_rowR
  have C_shelvesR := ok_shelvesR (P := P) (w := w) (mg := mg) (base := base) D_shelves C_check_rowR
  have C_row_ofR := ok_row_ofR (P := P) (w := w) (mg := mg) (base := base) D_row_of C_check_unmarkedR
  have C_own_wayR := ok_own_wayR (P := P) (w := w) (mg := mg) (base := base) D_own_way C_check_unmarkedR
  have C_how_manyR := ok_how_manyR (P := P) (w := w) (mg := mg) (base := base) D_how_many C_check_unmarkedR
  have C_aheadR := ok_aheadR (P := P) (w := w) (mg := mg) (base := base) D_ahead C_how_manyR
  have C_can_comeR := ok_can_comeR (P := P) (w := w) (mg := mg) (base := base) D_can_come C_how_manyR
  have C_comes_outR := ok_comes_outR (P := P) (w := w) (mg := mg) (base := base) D_comes_out C_check_unmarkedR
  have C_gainedR := ok_gainedR (P := P) (w := w) (mg := mg) (base := base) D_gained C_comes_outR
  have C_moveR := ok_moveR (P := P) (w := w) (mg := mg) (base := base) D_move C_check_unmarkedR
  have C_past_withR := ok_past_withR (P := P) (w := w) (mg := mg) (base := base) D_past_with C_check_unmarkedR
  have C_neededR := ok_neededR (P := P) (w := w) (mg := mg) (base := base) D_needed C_check_unmarkedR
  have C_near_countsR := ok_near_countsR (P := P) (w := w) (mg := mg) (base := base) D_near_counts C_greater_aheadT C_stretchesR
  have C_check_unmarkedM := ok_check_unmarkedM (P := P) (w := w) (mg := mg) (base := base) D_check_unmarked C_check_row x_Marked
  have C_mendedM := ok_mendedM (P := P) (w := w) (mg := mg) (base := base) D_mended C_check_unmarkedM
  have C_row_ofM := ok_row_ofM (P := P) (w := w) (mg := mg) (base := base) D_row_of C_check_unmarkedM
  have C_own_wayM := ok_own_wayM (P := P) (w := w) (mg := mg) (base := base) D_own_way C_check_unmarkedM
  have C_how_manyM := ok_how_manyM (P := P) (w := w) (mg := mg) (base := base) D_how_many C_check_unmarkedM
  have C_aheadM := ok_aheadM (P := P) (w := w) (mg := mg) (base := base) D_ahead C_how_manyM
  have C_can_comeM := ok_can_comeM (P := P) (w := w) (mg := mg) (base := base) D_can_come C_how_manyM
  have C_comes_outM := ok_comes_outM (P := P) (w := w) (mg := mg) (base := base) D_comes_out C_check_unmarkedM
  have C_gainedM := ok_gainedM (P := P) (w := w) (mg := mg) (base := base) D_gained C_comes_outM
  have C_moveM := ok_moveM (P := P) (w := w) (mg := mg) (base := base) D_move C_check_unmarkedM
  have C_past_withM := ok_past_withM (P := P) (w := w) (mg := mg) (base := base) D_past_with C_check_unmarkedM
  have C_neededM := ok_neededM (P := P) (w := w) (mg := mg) (base := base) D_needed C_check_unmarkedM
  have C__check_shelfS := ok__check_shelfS (P := P) (w := w) (mg := mg) (base := base) D__check_shelf C_is_shelfO x_NoShelf
  have C_pastS := ok_pastS (P := P) (w := w) (mg := mg) (base := base) D_past C__check_shelfS C_check_row
  have C_movedS := ok_movedS (P := P) (w := w) (mg := mg) (base := base) D_moved C_pastS
  have C_check_lineL := ok_check_lineL (P := P) (w := w) (mg := mg) (base := base) D_check_line C_is_lineO x_NoLine
  have C_throughL := ok_throughL (P := P) (w := w) (mg := mg) (base := base) D_through C_check_lineL C_check_row
  have C_mergedL := ok_mergedL (P := P) (w := w) (mg := mg) (base := base) D_merged C_check_lineL
  have C_line_textL := ok_line_textL (P := P) (w := w) (mg := mg) (base := base) D_line_text C_check_lineL
  have C_check_placesP := ok_check_placesP (P := P) (w := w) (mg := mg) (base := base) D_check_places C_is_whole_withinO c_MOST_PLACES x_NoPlaces
  have C_shelvesP := ok_shelvesP (P := P) (w := w) (mg := mg) (base := base) D_shelves C_check_placesP C_check_row
  have C_own_wayP := ok_own_wayP (P := P) (w := w) (mg := mg) (base := base) D_own_way C_check_placesP C_check_unmarked
  have C_how_manyP := ok_how_manyP (P := P) (w := w) (mg := mg) (base := base) D_how_many C_check_placesP C_check_unmarked
  have C_comes_outP := ok_comes_outP (P := P) (w := w) (mg := mg) (base := base) D_comes_out C_check_placesP C_check_unmarked
  have C_aheadP := ok_aheadP (P := P) (w := w) (mg := mg) (base := base) D_ahead C_how_manyP
  have C_can_comeP := ok_can_comeP (P := P) (w := w) (mg := mg) (base := base) D_can_come C_how_manyP
  have C_gainedP := ok_gainedP (P := P) (w := w) (mg := mg) (base := base) D_gained C_comes_outP
  have C_sorted_byP := ok_sorted_byP (P := P) (w := w) (mg := mg) (base := base) D_sorted_by C_check_placesP C_is_whole_within c_MOST_THINGS
  have C_past_withS := ok_past_withS (P := P) (w := w) (mg := mg) (base := base) D_past_with C_check_unmarked C_is_wordO x_NoShelf
  have C_past_withP := ok_past_withP (P := P) (w := w) (mg := mg) (base := base) D_past_with C_are_placesO C_check_unmarked C_is_wordO m_len x_NoPlaces
  have C_sorted_byT := ok_sorted_byT (P := P) (w := w) (mg := mg) (base := base) D_sorted_by C_is_whole_withinO c_MOST_THINGS x_TooMany
  have C_aheadT := ok_aheadT (P := P) (w := w) (mg := mg) (base := base) D_ahead C_how_many c_MOST_ROWS x_TooMany
  have C_row_ofC := ok_row_ofC (P := P) (w := w) (mg := mg) (base := base) D_row_of C_are_countsO C_check_unmarked m_len x_NoCounts
  have C_comes_outN := ok_comes_outN (P := P) (w := w) (mg := mg) (base := base) D_comes_out C_check_places C_check_unmarked C_is_lettingO x_NoLetting
  have C_gainedN := ok_gainedN (P := P) (w := w) (mg := mg) (base := base) D_gained C_comes_outN
  have C_moveV := ok_moveV (P := P) (w := w) (mg := mg) (base := base) D_move C_check_unmarked C_is_whole_withinO m_len x_NoMove
  have C_Line___init__R := ok_Line___init__R (P := P) (w := w) (mg := mg) (base := base) D_Line___init__ C_check_lineL
  have C_ask0 := ok_ask0 (P := P) (w := w) (mg := mg) (base := base) D__law_ask C_countsR C_mendedM C_mendedR C_near_countsR C_placesR C_row_textR C_stretchesR g_ShelfError W_which w_g w_k w_b w_eMarked w_iMarked w_eNoRow w_iNoRow
  have C_ask1 := ok_ask1 (P := P) (w := w) (mg := mg) (base := base) D__law_ask C_aheadM C_aheadP C_aheadR C_aheadT C_how_manyM C_how_manyP C_how_manyR C_movedR C_movedS C_own_wayM C_own_wayP C_own_wayR C_pastR C_pastS C_row_of C_row_ofC C_row_ofM C_row_ofR C_shelvesP C_shelvesR C_throughL C_throughR g_ShelfError W_which w_g w_k w_b w_eMarked w_iMarked w_eNoCounts w_iNoCounts w_eNoLine w_iNoLine w_eNoPlaces w_iNoPlaces w_eNoRow w_iNoRow w_eNoShelf w_iNoShelf w_eTooMany w_iTooMany
  have C_ask2 := ok_ask2 (P := P) (w := w) (mg := mg) (base := base) D__law_ask C_can_comeM C_can_comeP C_can_comeR C_sorted_byP C_sorted_byT g_ShelfError W_which w_g w_k w_b w_eMarked w_iMarked w_eNoPlaces w_iNoPlaces w_eNoRow w_iNoRow w_eTooMany w_iTooMany
  have C_ask3 := ok_ask3 (P := P) (w := w) (mg := mg) (base := base) D__law_ask C_comes_out C_comes_outM C_comes_outN C_comes_outP C_comes_outR C_gainedM C_gainedN C_gainedP C_gainedR g_ShelfError W_which w_g w_k w_b w_eMarked w_iMarked w_eNoLetting w_iNoLetting w_eNoPlaces w_iNoPlaces w_eNoRow w_iNoRow
  have C_ask4 := ok_ask4 (P := P) (w := w) (mg := mg) (base := base) D__law_ask C_move C_moveM C_moveR C_moveV g_ShelfError W_which w_g w_k w_b w_eMarked w_iMarked w_eNoMove w_iNoMove w_eNoRow w_iNoRow
  have C_ask5 := ok_ask5 (P := P) (w := w) (mg := mg) (base := base) D__law_ask C_needed C_neededM C_neededR C_past_with C_past_withM C_past_withP C_past_withR C_past_withS g_ShelfError W_which w_g w_k w_b w_eMarked w_iMarked w_eNoPlaces w_iNoPlaces w_eNoRow w_iNoRow w_eNoShelf w_iNoShelf
  have C_ask6 := ok_ask6 (P := P) (w := w) (mg := mg) (base := base) T_Line D__law_ask C_Line___init__R C_line_textL C_mergedL M_Line g_Line g_ShelfError W_which w_g w_k w_b w_eNoLine w_iNoLine
  have C__law_ask := ok__law_ask (P := P) (w := w) (mg := mg) (base := base) C_ask0 C_ask1 C_ask2 C_ask3 C_ask4 C_ask5 C_ask6
  have C__law_places_refused := ok__law_places_refused (P := P) (w := w) (mg := mg) (base := base) D__law_places_refused C__law_ask m_list m_range m_tuple
  have C__law_deeds_refused := ok__law_deeds_refused (P := P) (w := w) (mg := mg) (base := base) D__law_deeds_refused C__law_ask
  have C__law_with_refused := ok__law_with_refused (P := P) (w := w) (mg := mg) (base := base) D__law_with_refused C__law_ask
  have C_law := ok_law (P := P) (w := w) (mg := mg) (base := base) D_law C__law_ask C__law_deeds_refused C__law_places_refused C__law_with_refused C_is_lineO C_is_rowO C_is_shelfO m_list m_range m_tuple
  exact C_law.G
end Sh
set_option maxHeartbeats 0 in
theorem PySem.Challenge.cw_shelfrows_k10_rows_refused_holds : PySem.Challenge.rw_shelfrows_k10_rows_refused.Holds := by
  refine Sh.endL fun {w} {K} {h} {mg} {f} KX G hmg c => ?_
  obtain ⟨fd, hb, hF⟩ := Sh.factsL (P := (PySem.Challenge.rw_shelfrows_k10_rows_refused).prog) (w := w) KX G hmg c
  exact ⟨fd, _, hb, fun H a ns hl hS => Ld.law_sp hl hS, hF⟩
