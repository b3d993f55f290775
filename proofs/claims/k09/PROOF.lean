import PyProof.Rows.All
import Wide.All
import OpenK.AllK
import Wide.FinOn
import PyProof.EqAt
import PyProof.EqKinds
import PyProof.TupleCall
import HandS.Base
import HandS.Call
import HandS.List
import HandS.TupAny
import HandS.Strs
import HandS.Conv
import KE.GoesMore
import PyProof.EnumMake
import HandS.Iter
import HandS.Zip
import HandS.SortInts
import HandS.SortKw
import HandS.Comp
import HandS.Ends
import HandS.Dict
import HandS.Text
import HandS.Walk
import HandS.Words
import HandS.WordsList
import HandS.TupMul
import HandS.Style
import HandS.IsInst
import HandS.More
import HandS.SetFor
import HandS.Wide
import KE.KIndexOf
import KE.DatumOrd
import HandS.Defaults
import KE.KDictZip
import HandS.Star
import KE.SortData
import KE.DataMinMax
import PyProof.P3Eq
import HandS.Flow
import HandS.HeadHook1
import HandS.HeadHook2
import HandS.ExcIs
import HandS.Exc
import HandS.ExcOwn
import HandS.ExcCtx
import HandS.Hot
import HandS.HotCalls
import HandS.FStr
import HandS.Deep
import HandS.CallSlots
import HandS.SlotsOwn
import HandS.OwnEq
import KE.KCallOwn
import OpenK.KOps
import HandS.RaiseMore
import HandS.Codes
import HandS.StrMore
import KE.KStateDown
import HandS.WordsExc
import HandS.Head0
import HandS.Head1
import HandS.Head2
import HandS.HeadEnd
import PySem.Challenge.RW_shelfrows_k09_whole_texts
set_option Elab.async false
set_option linter.all false
set_option maxRecDepth 100000
set_option Elab.async false
set_option linter.all false
set_option maxRecDepth 100000
namespace He
open PySem PySem.Spec PyProof.Rows L2
/-! further facts of the written part -/
def obsX (fa : List Fa) (fn : List DefD) (ex : List (PySem.W.Frag → Bool)) (K : PySem.W.Frag) : AlD := ((obsD fa fn K).1 && ex.all fun e => e K, (obsD fa fn K).2)
def SaysX (fa : List Fa) (fn : List DefD) (ex : List (PySem.W.Frag → Bool)) (K : PySem.W.Frag) : Prop := obsX fa fn ex K = valD fn
def obsXG (n : Nat) (fa : List Fa) (fn : List DefD) (ex : List (PySem.W.Frag → Bool)) (g : Addr → Option Obj) : AlD := obsX fa fn ex (frG g (asD g n))
def hookX (n : Nat) (fa : List Fa) (fn : List DefD) (ex : List (PySem.W.Frag → Bool)) : PySem.W.Hook where
  α := AlD
  obs := fun s => obsXG n fa fn ex s.heap.get?
  val := fun _ => valD fn
  says := fun _ h => ∃ K : PySem.W.Frag, K.In h ∧ SaysX fa fn ex K
  of := fun _ _ e => ⟨_, frG_in, e⟩
  keeps := fun _ _ _ ⟨K, hK, c⟩ k => ⟨K, PySem.W.Frag.In.keeps hK k, c⟩
theorem obsXG_eq {n : Nat} {fa : List Fa} {fn : List DefD} {ex : List (PySem.W.Frag → Bool)} {g : Addr → Option Obj} {s : Shared} (h : ∀ a, g a = s.heap.get? a) : obsXG n fa fn ex g = (hookX n fa fn ex).obs s := by
  have e : g = s.heap.get? := funext h
  rw [e] <;> rfl
section
variable {fa : List Fa} {fn : List DefD} {ex : List (PySem.W.Frag → Bool)} {K : PySem.W.Frag}
theorem SaysX.d (c : SaysX fa fn ex K) : SaysD fa fn K := by
  have c1 : ((obsD fa fn K).1 && ex.all fun e => e K) = true := congrArg (fun z : AlD => z.1) c
  have c2 : (obsD fa fn K).2 = fn.map DefD.val := congrArg (fun z : AlD => z.2) c
  have c3 : (obsD fa fn K).1 = true := (ba c1).1
  show obsD fa fn K = (true, fn.map DefD.val)
  rw [← c3, ← c2]
theorem SaysX.x (c : SaysX fa fn ex K) (i : Nat) {e : PySem.W.Frag → Bool} (h : ex[i]? = some e := by rfl) : e K = true := by
  have c1 : ((obsD fa fn K).1 && ex.all fun e => e K) = true := congrArg (fun z : AlD => z.1) c
  exact List.all_eq_true.mp (ba c1).2 e (List.mem_of_getElem? h)
end
/-- what isinstance asks of an error's class -/
def xcB (x : Str) (K : PySem.W.Frag) : Bool :=
  eqO (PySem.W.findIn K (.ref (ga K x)) "__getattribute__") (some (some (.builtin "BaseException.__getattribute__"))) && (eqO (PySem.W.findIn K (.ref (ga K x)) "__getattr__") (some none) && (decide (PySem.W.subIn K (.ref (ga K x)) (.type "BaseException") = some true) &&
    (PySem.W.hasDictIn K (ga K x) && (eqO (PySem.W.findIn K (.ref (ga K x)) "__class__") (some (some (.builtin "object.__class__"))) && (eqO (PySem.W.specialIn K (.builtin "object.__class__") "__get__") (some (some (.builtin "getset_descriptor.__get__"))) &&
      (decide (PySem.W.takesIn K (.builtin "object.__class__") = some true) && decide (PySem.W.mroIn K (ga K x) (.type "object") = some true)))))))
def ktB (x y : Str) (b : Bool) (K : PySem.W.Frag) : Bool := decide (PySem.W.kitOne K (.ref (ga K x)) (.ref (ga K y)) = some b)
def kvB (x : Str) (K : PySem.W.Frag) : Bool := decide (PySem.W.kitOne K (.ref (ga K x)) (.type "ValueError") = some true)
/-- all of it, for the class x, the n-th of ys -/
def klB (x : Str) (n : Nat) (ys : List Str) (K : PySem.W.Frag) : Bool := xcB x K && (kvB x K && (ys.zipIdx.all fun p => ktB x p.1 (decide ((p.2 : Int) = n)) K))
/-- what isinstance and == ask of an instance's class -/
def insB (x : Str) (K : PySem.W.Frag) : Bool :=
  eqO (PySem.W.findIn K (.ref (ga K x)) "__class__") (some (some (.builtin "object.__class__"))) && (eqO (PySem.W.specialIn K (.builtin "object.__class__") "__get__") (some (some (.builtin "getset_descriptor.__get__"))) && (decide (PySem.W.takesIn K (.builtin "object.__class__") = some true) && (decide (PySem.W.mroIn K (ga K x) (.type "object") = some true) &&
    (decide (PySem.W.kitOne K (.ref (ga K x)) (.ref (ga K x)) = some true) && (decide (PySem.W.kitOne K (.type "str") (.ref (ga K x)) = some false) && PySem.W.notFirst K (ga K x) (.type "str"))))))
end He
namespace Sh
open PySem PySem.Spec PyProof.Rows L2
def topS (i : Nat) : Stmt := PySem.Challenge.pw_shelfrows_k09_whole_texts.main.body.getD i (.Pass ⟨0, 0, 0, 0⟩)
abbrev s_is_whole : Stmt := topS 15
theorem sc_is_whole : FnScope ["thing"] ["thing"] (defScope s_is_whole) := ⟨rfl, rfl, rfl, by decide +kernel, rfl, by decide +kernel, by decide +kernel⟩
abbrev s_is_whole_within : Stmt := topS 16
theorem sc_is_whole_within : FnScope ["thing", "least", "most"] ["thing", "least", "most"] (defScope s_is_whole_within) := ⟨rfl, rfl, rfl, by decide +kernel, rfl, by decide +kernel, by decide +kernel⟩
abbrev s__numbers_of : Stmt := topS 21
theorem sc__numbers_of : FnScope ["things", "thing"] ["things"] (defScope s__numbers_of) := ⟨rfl, rfl, rfl, by decide +kernel, rfl, by decide +kernel, by decide +kernel⟩
abbrev s_is_row : Stmt := topS 19
theorem sc_is_row : FnScope ["thing", "numbers", "number"] ["thing"] (defScope s_is_row) := ⟨rfl, rfl, rfl, by decide +kernel, rfl, by decide +kernel, by decide +kernel⟩
abbrev s__is_word : Stmt := topS 30
theorem sc__is_word : FnScope ["thing"] ["thing"] (defScope s__is_word) := ⟨rfl, rfl, rfl, by decide +kernel, rfl, by decide +kernel, by decide +kernel⟩
abbrev s__is_places : Stmt := topS 31
theorem sc__is_places : FnScope ["thing"] ["thing"] (defScope s__is_places) := ⟨rfl, rfl, rfl, by decide +kernel, rfl, by decide +kernel, by decide +kernel⟩
abbrev s_is_shelf : Stmt := topS 27
theorem sc_is_shelf : FnScope ["thing"] ["thing"] (defScope s_is_shelf) := ⟨rfl, rfl, rfl, by decide +kernel, rfl, by decide +kernel, by decide +kernel⟩
abbrev s_is_line : Stmt := topS 28
theorem sc_is_line : FnScope ["thing", "shelf"] ["thing"] (defScope s_is_line) := ⟨rfl, rfl, rfl, by decide +kernel, rfl, by decide +kernel, by decide +kernel⟩
abbrev s_check_row : Stmt := topS 20
theorem sc_check_row : FnScope ["row"] ["row"] (defScope s_check_row) := ⟨rfl, rfl, rfl, by decide +kernel, rfl, by decide +kernel, by decide +kernel⟩
abbrev s_check_line : Stmt := topS 29
theorem sc_check_line : FnScope ["line"] ["line"] (defScope s_check_line) := ⟨rfl, rfl, rfl, by decide +kernel, rfl, by decide +kernel, by decide +kernel⟩
abbrev s__number_text : Stmt := topS 43
theorem sc__number_text : FnScope ["number", "ends", "end"] ["number"] (defScope s__number_text) := ⟨rfl, rfl, rfl, by decide +kernel, rfl, by decide +kernel, by decide +kernel⟩
abbrev s_text_of : Stmt := topS 41
theorem sc_text_of : FnScope ["parts", "part"] ["parts"] (defScope s_text_of) := ⟨rfl, rfl, rfl, by decide +kernel, rfl, by decide +kernel, by decide +kernel⟩
abbrev s_row_text : Stmt := topS 37
theorem sc_row_text : FnScope ["row"] ["row"] (defScope s_row_text) := ⟨rfl, rfl, rfl, by decide +kernel, rfl, by decide +kernel, by decide +kernel⟩
abbrev s_line_text : Stmt := topS 38
theorem sc_line_text : FnScope ["line", "word", "places"] ["line"] (defScope s_line_text) := ⟨rfl, rfl, rfl, by decide +kernel, rfl, by decide +kernel, by decide +kernel⟩
abbrev s__check_text : Stmt := topS 42
theorem sc__check_text : FnScope ["thing"] ["thing"] (defScope s__check_text) := ⟨rfl, rfl, rfl, by decide +kernel, rfl, by decide +kernel, by decide +kernel⟩
abbrev s__are_digits : Stmt := topS 47
theorem sc__are_digits : FnScope ["text", "sign"] ["text"] (defScope s__are_digits) := ⟨rfl, rfl, rfl, by decide +kernel, rfl, by decide +kernel, by decide +kernel⟩
abbrev s__read_number : Stmt := topS 46
theorem sc__read_number : FnScope ["word", "digits", "number", "digit"] ["word"] (defScope s__read_number) := ⟨rfl, rfl, rfl, by decide +kernel, rfl, by decide +kernel, by decide +kernel⟩
abbrev s__read_part : Stmt := topS 44
theorem sc__read_part : FnScope ["word"] ["word"] (defScope s__read_part) := ⟨rfl, rfl, rfl, by decide +kernel, rfl, by decide +kernel, by decide +kernel⟩
abbrev s__read_shelf : Stmt := topS 45
theorem sc__read_shelf : FnScope ["row", "words"] ["row"] (defScope s__read_shelf) := ⟨rfl, rfl, rfl, by decide +kernel, rfl, by decide +kernel, by decide +kernel⟩
abbrev s_read_row : Stmt := topS 39
theorem sc_read_row : FnScope ["text", "row", "word"] ["text"] (defScope s_read_row) := ⟨rfl, rfl, rfl, by decide +kernel, rfl, by decide +kernel, by decide +kernel⟩
abbrev s_read_line : Stmt := topS 40
theorem sc_read_line : FnScope ["text", "line", "row"] ["text"] (defScope s_read_line) := ⟨rfl, rfl, rfl, by decide +kernel, rfl, by decide +kernel, by decide +kernel⟩
abbrev s__law_number : Stmt := topS 58
theorem sc__law_number : FnScope ["_law_word", "_law_bare", "_law_sign"] ["_law_word"] (defScope s__law_number) := ⟨rfl, rfl, rfl, by decide +kernel, rfl, by decide +kernel, by decide +kernel⟩
abbrev s__law_parse : Stmt := topS 59
theorem sc__law_parse : FnScope ["_law_what", "_law_text", "_law_words", "_law_rows", "_law_row", "_law_word"] ["_law_what", "_law_text"] (defScope s__law_parse) := ⟨rfl, rfl, rfl, by decide +kernel, rfl, by decide +kernel, by decide +kernel⟩
abbrev s__law_ask : Stmt := topS 57
theorem sc__law_ask : FnScope ["_law_what", "_law_text", "_law_e"] ["_law_what", "_law_text"] (defScope s__law_ask) := ⟨rfl, rfl, rfl, by decide +kernel, rfl, by decide +kernel, by decide +kernel⟩
abbrev s__law_cell_at : Stmt := topS 49
theorem sc__law_cell_at : FnScope ["_law_script", "_law_k", "_law_spare", "_law_again"] ["_law_script", "_law_k"] (defScope s__law_cell_at) := ⟨rfl, rfl, rfl, by decide +kernel, rfl, by decide +kernel, by decide +kernel⟩
abbrev s__law_mixed : Stmt := topS 50
theorem sc__law_mixed : FnScope ["_law_script", "_law_k", "_law_bound", "_law_spun"] ["_law_script", "_law_k", "_law_bound"] (defScope s__law_mixed) := ⟨rfl, rfl, rfl, by decide +kernel, rfl, by decide +kernel, by decide +kernel⟩
abbrev s__law_draw : Stmt := topS 51
theorem sc__law_draw : FnScope ["_law_script", "_law_town", "_law_bound"] ["_law_script", "_law_town", "_law_bound"] (defScope s__law_draw) := ⟨rfl, rfl, rfl, by decide +kernel, rfl, by decide +kernel, by decide +kernel⟩
abbrev s__law_pick : Stmt := topS 52
theorem sc__law_pick : FnScope ["_law_script", "_law_town", "_law_some"] ["_law_script", "_law_town", "_law_some"] (defScope s__law_pick) := ⟨rfl, rfl, rfl, by decide +kernel, rfl, by decide +kernel, by decide +kernel⟩
abbrev s__law_some_plain : Stmt := topS 53
theorem sc__law_some_plain : FnScope ["_law_script", "_law_town", "_law_most_there", "_law_many", "_law_made", "_law_number_here", "_law_again", "_law_far"] ["_law_script", "_law_town", "_law_most_there"] (defScope s__law_some_plain) := ⟨rfl, rfl, rfl, by decide +kernel, rfl, by decide +kernel, by decide +kernel⟩
abbrev s__law_some_row : Stmt := topS 54
theorem sc__law_some_row : FnScope ["_law_script", "_law_town", "_law_most_there", "_law_made", "_law_again"] ["_law_script", "_law_town", "_law_most_there"] (defScope s__law_some_row) := ⟨rfl, rfl, rfl, by decide +kernel, rfl, by decide +kernel, by decide +kernel⟩
abbrev s__law_some_shelf : Stmt := topS 55
theorem sc__law_some_shelf : FnScope ["_law_script", "_law_town"] ["_law_script", "_law_town"] (defScope s__law_some_shelf) := ⟨rfl, rfl, rfl, by decide +kernel, rfl, by decide +kernel, by decide +kernel⟩
abbrev s_law : Stmt := topS 60
theorem sc_law : FnScope ["_law_script", "_law_town", "_law_row", "_law_again", "_law_line", "_law_texts", "_law_what", "_law_text", "_law_at", "_law_sign", "_law_odd", "_law_made", "_law_whole", "_law_bad_one", "_law_one", "_law_a", "_law_b"] ["_law_script"] (defScope s_law) := ⟨rfl, rfl, rfl, by decide +kernel, rfl, by decide +kernel, by decide +kernel⟩
abbrev s__law_which : Stmt := topS 56
theorem sc__law_which : FnScope ["_law_e", "_law_own"] ["_law_e"] (defScope s__law_which) := ⟨rfl, rfl, rfl, by decide +kernel, rfl, by decide +kernel, by decide +kernel⟩
/-! ### the head -/
def d_is_whole : He.DefD := ⟨("is_whole", none), "is_whole", "is_whole", defArgs s_is_whole, defBody s_is_whole, defScope s_is_whole, [], []⟩
def d_is_whole_within : He.DefD := ⟨("is_whole_within", none), "is_whole_within", "is_whole_within", defArgs s_is_whole_within, defBody s_is_whole_within, defScope s_is_whole_within, [], []⟩
def d__numbers_of : He.DefD := ⟨("_numbers_of", none), "_numbers_of", "_numbers_of", defArgs s__numbers_of, defBody s__numbers_of, defScope s__numbers_of, [], []⟩
def d_is_row : He.DefD := ⟨("is_row", none), "is_row", "is_row", defArgs s_is_row, defBody s_is_row, defScope s_is_row, [], []⟩
def d__is_word : He.DefD := ⟨("_is_word", none), "_is_word", "_is_word", defArgs s__is_word, defBody s__is_word, defScope s__is_word, [], []⟩
def d__is_places : He.DefD := ⟨("_is_places", none), "_is_places", "_is_places", defArgs s__is_places, defBody s__is_places, defScope s__is_places, [], []⟩
def d_is_shelf : He.DefD := ⟨("is_shelf", none), "is_shelf", "is_shelf", defArgs s_is_shelf, defBody s_is_shelf, defScope s_is_shelf, [], []⟩
def d_is_line : He.DefD := ⟨("is_line", none), "is_line", "is_line", defArgs s_is_line, defBody s_is_line, defScope s_is_line, [], []⟩
def d_check_row : He.DefD := ⟨("check_row", none), "check_row", "check_row", defArgs s_check_row, defBody s_check_row, defScope s_check_row, [], []⟩
def d_check_line : He.DefD := ⟨("check_line", none), "check_line", "check_line", defArgs s_check_line, defBody s_check_line, defScope s_check_line, [], []⟩
def d__number_text : He.DefD := ⟨("_number_text", none), "_number_text", "_number_text", defArgs s__number_text, defBody s__number_text, defScope s__number_text, [], []⟩
def d_text_of : He.DefD := ⟨("text_of", none), "text_of", "text_of", defArgs s_text_of, defBody s_text_of, defScope s_text_of, [], []⟩
def d_row_text : He.DefD := ⟨("row_text", none), "row_text", "row_text", defArgs s_row_text, defBody s_row_text, defScope s_row_text, [], []⟩
def d_line_text : He.DefD := ⟨("line_text", none), "line_text", "line_text", defArgs s_line_text, defBody s_line_text, defScope s_line_text, [], []⟩
def d__check_text : He.DefD := ⟨("_check_text", none), "_check_text", "_check_text", defArgs s__check_text, defBody s__check_text, defScope s__check_text, [], []⟩
def d__are_digits : He.DefD := ⟨("_are_digits", none), "_are_digits", "_are_digits", defArgs s__are_digits, defBody s__are_digits, defScope s__are_digits, [], []⟩
def d__read_number : He.DefD := ⟨("_read_number", none), "_read_number", "_read_number", defArgs s__read_number, defBody s__read_number, defScope s__read_number, [], []⟩
def d__read_part : He.DefD := ⟨("_read_part", none), "_read_part", "_read_part", defArgs s__read_part, defBody s__read_part, defScope s__read_part, [], []⟩
def d__read_shelf : He.DefD := ⟨("_read_shelf", none), "_read_shelf", "_read_shelf", defArgs s__read_shelf, defBody s__read_shelf, defScope s__read_shelf, [], []⟩
def d_read_row : He.DefD := ⟨("read_row", none), "read_row", "read_row", defArgs s_read_row, defBody s_read_row, defScope s_read_row, [], []⟩
def d_read_line : He.DefD := ⟨("read_line", none), "read_line", "read_line", defArgs s_read_line, defBody s_read_line, defScope s_read_line, [], []⟩
def d__law_number : He.DefD := ⟨("_law_number", none), "_law_number", "_law_number", defArgs s__law_number, defBody s__law_number, defScope s__law_number, [], []⟩
def d__law_parse : He.DefD := ⟨("_law_parse", none), "_law_parse", "_law_parse", defArgs s__law_parse, defBody s__law_parse, defScope s__law_parse, [], []⟩
def d__law_ask : He.DefD := ⟨("_law_ask", none), "_law_ask", "_law_ask", defArgs s__law_ask, defBody s__law_ask, defScope s__law_ask, [], []⟩
def d__law_cell_at : He.DefD := ⟨("_law_cell_at", none), "_law_cell_at", "_law_cell_at", defArgs s__law_cell_at, defBody s__law_cell_at, defScope s__law_cell_at, [], []⟩
def d__law_mixed : He.DefD := ⟨("_law_mixed", none), "_law_mixed", "_law_mixed", defArgs s__law_mixed, defBody s__law_mixed, defScope s__law_mixed, [], []⟩
def d__law_draw : He.DefD := ⟨("_law_draw", none), "_law_draw", "_law_draw", defArgs s__law_draw, defBody s__law_draw, defScope s__law_draw, [], []⟩
def d__law_pick : He.DefD := ⟨("_law_pick", none), "_law_pick", "_law_pick", defArgs s__law_pick, defBody s__law_pick, defScope s__law_pick, [], []⟩
def d__law_some_plain : He.DefD := ⟨("_law_some_plain", none), "_law_some_plain", "_law_some_plain", defArgs s__law_some_plain, defBody s__law_some_plain, defScope s__law_some_plain, [], []⟩
def d__law_some_row : He.DefD := ⟨("_law_some_row", none), "_law_some_row", "_law_some_row", defArgs s__law_some_row, defBody s__law_some_row, defScope s__law_some_row, [], []⟩
def d__law_some_shelf : He.DefD := ⟨("_law_some_shelf", none), "_law_some_shelf", "_law_some_shelf", defArgs s__law_some_shelf, defBody s__law_some_shelf, defScope s__law_some_shelf, [], []⟩
def d_law : He.DefD := ⟨("law", none), "law", "law", defArgs s_law, defBody s_law, defScope s_law, [], []⟩
def d__law_which : He.DefD := ⟨("_law_which", none), "_law_which", "_law_which", defArgs s__law_which, defBody s__law_which, defScope s__law_which, [], []⟩
def fnL : List He.DefD := [d_is_whole, d_is_whole_within, d__numbers_of, d_is_row, d__is_word, d__is_places, d_is_shelf, d_is_line, d_check_row, d_check_line, d__number_text, d_text_of, d_row_text, d_line_text, d__check_text, d__are_digits, d__read_number, d__read_part, d__read_shelf, d_read_row, d_read_line, d__law_number, d__law_parse, d__law_ask, d__law_cell_at, d__law_mixed, d__law_draw, d__law_pick, d__law_some_plain, d__law_some_row, d__law_some_shelf, d_law, d__law_which]
abbrev exL : List (PySem.W.Frag → Bool) := [He.klB "NoText" 9 ["NoRow", "NoShelf", "NoLine", "NoPlaces", "Marked", "NoCounts", "NoLetting", "TooMany", "NoMove", "NoText", "NoNumber", "Nothing"]]
def faL : List He.Fa := [.glo "is_whole", .glo "is_whole_within", .glo "_numbers_of", .glo "is_row", .glo "_is_word", .glo "_is_places", .glo "is_shelf", .glo "is_line", .glo "check_row", .glo "check_line", .glo "_number_text", .glo "text_of", .glo "row_text", .glo "line_text", .glo "_check_text", .glo "_are_digits", .glo "_read_number", .glo "_read_part", .glo "_read_shelf", .glo "read_row", .glo "read_line", .glo "_law_number", .glo "_law_parse", .glo "_law_ask", .glo "_law_cell_at", .glo "_law_mixed", .glo "_law_draw", .glo "_law_pick", .glo "_law_some_plain", .glo "_law_some_row", .glo "_law_some_shelf", .glo "law", .glo "_law_which", .free "ValueError", .free "all", .free "bool", .free "enumerate", .free "int", .free "isinstance", .free "len", .free "list", .free "min", .free "range", .free "set", .free "str", .free "tuple", .str "DIGITS" "0123456789", .str "EMPTY_ROW" "none", .str "HEAVY" "heavy", .str "LIGHT" "light", .str "MARK" "|", .int "MOST_PLACES" 9, .int "MOST_SHELVES" 8, .int "MOST_THINGS" 24, .str "NO_SHELVES" "straight", .glo "NoRow", .glo "NoShelf", .glo "NoLine", .glo "NoPlaces", .glo "Marked", .glo "NoCounts", .glo "NoLetting", .glo "TooMany", .glo "NoMove", .glo "NoText", .glo "NoNumber", .glo "Nothing", .glo "ShelfError", .exc "NoText", .exm "NoText" "ShelfError" true]
abbrev RR : PySem.W.OpenRow := PySem.W.OpenLaw.row PySem.Challenge.rw_shelfrows_k09_whole_texts
abbrev hkL : PySem.W.Hook := He.hookX 4 faL fnL exL
def obL (s : PySem.W.SharedT) : He.AlD := He.obsXG 4 faL fnL exL (HandSHeadRun.getT s)
theorem obL_eq (s : PySem.W.SharedT) : obL s = hkL.obs s.abs := He.obsXG_eq (HandSHeadRun.getT_eq s)
def lo0 : List PySem.Str := ["__name__", "ShelfError", "NoRow", "NoShelf", "NoLine", "NoPlaces", "Marked", "NoCounts", "NoLetting", "TooMany", "NoMove", "NoText", "NoNumber", "Nothing", "is_whole", "is_whole_within", "MOST_THINGS", "is_row", "check_row", "_numbers_of", "LIGHT", "HEAVY", "MOST_PLACES", "MOST_SHELVES", "is_shelf", "is_line", "check_line", "_is_word", "_is_places", "MARK"]
def lo1 : List PySem.Str := ["EMPTY_ROW", "NO_SHELVES", "DIGITS", "row_text", "line_text", "read_row", "read_line", "text_of", "_check_text", "_number_text", "_read_part", "_read_shelf", "_read_number", "_are_digits", "_law_cell_at", "_law_mixed", "_law_draw", "_law_pick", "_law_some_plain", "_law_some_row", "_law_some_shelf", "_law_which", "_law_ask", "_law_number", "_law_parse"]
def looseL : List PySem.Str := lo0 ++ lo1
set_option maxHeartbeats 0 in
theorem runL (w : World) : HandSHeadRun.RunEq RR (PySem.W.view RR.prog [60]) hkL obL 9000 looseL w := by
  intro os
  kernel_rfl
end Sh
section
open PySem PySem.Spec PySem.W PySem.Calls PyProof.Rows
set_option maxHeartbeats 0 in
theorem Sh.endL (F : ∀ {w : PySem.World} {K : PySem.W.Frag} {h : PySem.Heap} {mg : PySem.Str → Option PySem.Value} {f : PySem.Addr}, K.In h → h.Ns PySem.mainGlobals mg → mg ("law" : PySem.Str) = some (.ref f) → He.SaysX Sh.faL Sh.fnL Sh.exL K →
    ∃ (fd : PySem.FuncData) (sp : L2.Sp), (∀ (s : PySem.Shared) (v : PySem.Value), BindsTo s fd ⟨[v], []⟩ [("_law_script", v)]) ∧ (∀ (H : L2.Hp) (a : PySem.Addr) (ns : List Int), ns.length ≤ 63 → L2.SqL K H a (ns.map L2.V.int) → sp [.ref a] H (fun v _ => v = .bl true) fun _ _ _ => False) ∧
      ∀ base : PySem.Heap, K.In base → base.Ns PySem.mainGlobals mg → L2.FnOk (PySem.Challenge.rw_shelfrows_k09_whole_texts).prog w K mg base L2.CX0 8 f fd ["_law_script"] sp) : PySem.Challenge.rw_shelfrows_k09_whole_texts.Holds := by
  w_on; o_law
  refine HandSHeadRun.head_any (r := OpenLaw.row PySem.Challenge.rw_shelfrows_k09_whole_texts) (q := view (OpenLaw.row PySem.Challenge.rw_shelfrows_k09_whole_texts).prog [60]) (H := Sh.hkL) (ob := Sh.obL) (M := 9000) (loose := Sh.looseL) (d := HandSHeadRun.topDef (OpenLaw.row PySem.Challenge.rw_shelfrows_k09_whole_texts).prog 60) (kwd := []) Sh.obL_eq
    (by kernel_rfl) (fun s => by kernel_rfl) Sh.runL (by kernel_rfl) (by kernel_rfl) (by kernel_rfl) (by rfl) (by first | assumption | decide +kernel) (by decide +kernel) ⟨rfl, rfl, rfl, rfl, rfl, by decide +kernel⟩ ?hw ?hc
  case hw => w_witness2
  case hc =>
    refine L2.walk_ofE (l := PySem.Challenge.rw_shelfrows_k09_whole_texts) (n := 63) (k := 8) (x := "_law_script") (CX := L2.CX0) rfl (by decide) (by kernel_rfl) ⟨rfl, by decide, by decide⟩ ?F (fun _ _ _ _ z => z)
    intro w mg fa h Y G hmg0
    obtain ⟨K, KX, c⟩ := Y
    have hmg : mg ("law" : PySem.Str) = some (.ref fa) := by
      have e : (HandSHeadRun.topDef (OpenLaw.row PySem.Challenge.rw_shelfrows_k09_whole_texts).prog 60).name = ("law" : PySem.Str) := by kernel_rfl
      rw [← e]
      exact hmg0
    obtain ⟨fd, sp, hb, hs, hF⟩ := F KX G hmg c
    exact ⟨K, fd, sp, KX, hb, fun H a ns hl _ hS => hs H a ns hl hS, hF⟩
end
set_option Elab.async false
set_option linter.all false
set_option maxRecDepth 100000
/-! tuples that are known as the objects they are (no dict of their own): made by displays, tuple(..), slices, + -/
namespace Lx
open PySem PySem.Spec PyProof.Rows L2
abbrev tupO (its : List Value) : Obj := { cls := .type "tuple", data := .seq its.toArray }
/-- a new tuple: locked as its own object -/
def NewT (H : Hp) (xs : List V) (Q : VK) : Prop := ∀ p o, o.dict = none → H p = none → Q (.ref p) (upd H p (.frz o (.tup xs)))
section
variable {X : Cx} {pins : List (Addr × Obj)} {σ : L2.St} {H : Hp} {s : Shared}
theorem newT_at {xs : List V} {its : List Value} {Q : VK} {tk : Nat} (I : Inv X pins σ H s) (hz : xs.length ≤ sizeLine) (r : Vals xs its) (q : NewT H xs Q) :
    EP X pins σ Q (.ref s.heap.objs.size) { s with heap := s.heap.push { cls := .type "tuple", data := .seq its.toArray }, toks := tk } :=
  ⟨.ref s.heap.objs.size, _, I.laid (t' := tk) (o := .frz (tupO its) (.tup xs)) (fun b ob q => Heap.get?_push_of_some _ q) (Nat.le_refl _) ⟨Heap.get?_push_size _ rfl, hz, its, r, IsTup.new _ _⟩, rfl, q _ _ rfl (I.hok.fresh (Nat.le_refl _))⟩
end
section
variable {X : Cx} {es : List Expr} {t : TA} {pos : Pos}
def tTupF (t : TA) : TE := fun σ H Q => t σ H fun xs H1 => xs.length ≤ sizeLine ∧ NewT H1 xs Q
theorem pe_tupF {x1} (h : PA X es t) : PE X (.Tuple es x1 pos) (tTupF t) := by
  refine ⟨fun pins s σ H Q I hq => ?_⟩
  refine wpAny_Tuple_spliced (thn (h.run pos pins s σ H _ I hq) fun us s1 ⟨xs, H1, I1, r, z, q⟩ => ⟨by rw [← r.length]; exact z, ?_⟩)
  exact newT_at (tk := s1.toks) I1 z r q
def rTupOfF (K : PySem.W.Frag) : List V → Hp → VK → Prop := fun xs H Q => ∃ p ys, xs = [.ref p] ∧ ((SqL K H p ys ∧ NewT H ys Q) ∨ (SqT K H p ys ∧ Q (.ref p) H))
theorem cl_tupleF : CallR X (.type "tuple") (rTupOfF X.K) := by
  intro pins s σ H xs us Q I r h
  obtain ⟨p, ys, rfl, h⟩ := h
  obtain ⟨u, rfl, rx⟩ := vals1 r
  cases rx
  rcases h with ⟨hq, q⟩ | ⟨hq, q⟩
  · obtain ⟨its, r', pl, hz⟩ := I.list hq
    have hlen := r'.length
    refine call_tuple_list pl.isList (fun h' kp => ?_) (by simp only [List.size_toArray] <;> omega)
    have I1 : Inv X pins σ H { s with heap := h' } := I.kept (t' := s.toks) kp
    exact newT_at (tk := s.toks) I1 hz r' q
  · obtain ⟨its, r', pl, hz⟩ := I.tuple hq
    exact call_tuple_same pl ⟨.ref p, H, I, rfl, q⟩
def rSlF (K : PySem.W.Frag) : V → Option Int → Option Int → Hp → VK → Prop := fun x lo hi H Q => ∃ a xs, x = .ref a ∧ SqT K H a xs ∧
  (HT.sIx xs.length 0 lo = 0 ∧ HT.sIx xs.length xs.length hi = xs.length → Q (.ref a) H) ∧ (¬ (HT.sIx xs.length 0 lo = 0 ∧ HT.sIx xs.length xs.length hi = xs.length) → NewT H (cutV xs lo hi) Q)
end
/-! ### t.index(x), flat items -/
section
variable {X : Cx}
def rTIndex : V → V → Hp → VK → Prop := fun x y H Q => ∃ (a : Addr) (o : Obj) (ys : List V) (j : Nat) (z : V), x = .ref a ∧ o.dict = none ∧ H a = some (.frz o (.tup ys)) ∧ flatV y = true ∧ ys.all flatV = true ∧ ys[j]? = some z ∧ eqV z y = true ∧
  (∀ (m : Nat) (z' : V), m < j → ys[m]? = some z' → eqV z' y = false) ∧ Q (.int (j : Nat)) H
def tTIdx (ta tb : TE) : TE := fun σ H Q => ta σ H fun x H1 => (∃ a o ys, x = .ref a ∧ o.dict = none ∧ H1 a = some (.frz o (.tup ys))) ∧ tb σ H1 fun y H2 => ∃ z, [y] = [z] ∧ rTIndex x z H2 Q
end
end Lx
set_option Elab.async false
set_option linter.all false
set_option maxRecDepth 100000
set_option maxHeartbeats 1000000
/-! zip of two iterators of any kind -/
namespace Lx
open PySem
open PySem.Sem (wp)
end Lx
namespace Lx
open PySem PySem.Spec PyProof.Rows
open PySem.Sem (wp)
end Lx
set_option Elab.async false
set_option linter.all false
set_option maxRecDepth 100000
/-! values as data over the hand layer: cells, temporaries, the states that bear them -/
namespace Ld
open PySem PySem.Spec PyProof.Rows L2 Lx
abbrev Dat := PyData
/-- a resource at an address: what must hold of its places, which are its own -/
structure Res where
  lent : Bool
  holds : Hp → Hp → Addr → (Addr → Prop) → Prop
  dom : ∀ {B H a F x}, holds B H a F → F x → H x ≠ none
  frame : ∀ {B B' H H' a F}, holds B H a F → Same B B' → (∀ x, F x → H' x = H x) → holds B' H' a F
/-- what a name's slot is known to hold: nothing known | data that never changes | a list of this def's own | a list that a caller lent -/
inductive Cell where
  | no | dt (d : Dat) | ow (ds : List Dat) | ln (ds : List Dat) | sc (ns : List Int) | ob (p : HO) | li (R : Res)
/-- a value under way: data | a new list | what slot i holds -/
inductive Tmp where
  | dt (d : Dat) | fr (ds : List Dat) | br (i : Nat) | sc (ns : List Int) | ob (p : HO) | li (R : Res)
structure Hs where
  b : Hp
  h : Hp
structure Gr (L : Addr → Prop) (S S' : Hs) : Prop where
  b : Same S.b S'.b
  h : ∀ a o, ¬ L a → S.h a = some o → S'.h a = some o
  own : ∀ a, S.b a = none → S.h a ≠ none → S'.b a = none
  dom : ∀ a, S.h a ≠ none → S'.h a ≠ none
abbrev L0 : Addr → Prop := fun _ => False
theorem Gr.refl (L : Addr → Prop) (S : Hs) : Gr L S S := ⟨Same.refl _, fun _ _ _ h => h, fun _ h _ => h, fun _ h => h⟩
theorem Gr.trans {L L' : Addr → Prop} {A B C : Hs} (x : Gr L A B) (y : Gr L' B C) (hl : ∀ a, L' a → L a ∨ A.h a = none) : Gr L A C :=
  ⟨x.b.trans y.b, fun a o n e => y.h a o (fun z => (hl a z).elim n fun q => by rw [q] at e; cases e) (x.h a o n e), fun a e n => y.own a (x.own a e n) (x.dom a n), fun a n => y.dom a (x.dom a n)⟩
theorem Gr.trans0 {L : Addr → Prop} {A B C : Hs} (x : Gr L A B) (y : Gr L0 B C) : Gr L A C := x.trans y fun _ z => z.elim
section
variable {K : PySem.W.Frag} {H H' : Hp}
mutual
/-- data as it stands in the heap: lists and tuples that are tracked -/
inductive Dq (H : Hp) : V → Dat → Prop
  | non : Dq H .non .none
  | bl (b : Bool) : Dq H (.bl b) (.bool b)
  | int (i : Int) : Dq H (.int i) (.int i)
  | str (x : Str) : Dq H (.str x) (.str x)
  | lst {a : Addr} {xs : List V} {ds : List Dat} : H a = some (.lst xs) → DqAll H xs ds → Dq H (.ref a) (.list ds)
  | tup {a : Addr} {o : Obj} {xs : List V} {ds : List Dat} : o.dict = none → H a = some (.frz o (.tup xs)) → DqAll H xs ds → Dq H (.ref a) (.tuple ds)
inductive DqAll (H : Hp) : List V → List Dat → Prop
  | nil : DqAll H [] []
  | cons {v : V} {vs : List V} {d : Dat} {ds : List Dat} : Dq H v d → DqAll H vs ds → DqAll H (v :: vs) (d :: ds)
end
mutual
theorem dp_mono (e : Same H H') : ∀ (d : Dat) (v : V), Dq H v d → Dq H' v d
  | .none, _, h => by cases h; exact .non
  | .bool b, _, h => by cases h; exact .bl b
  | .int i, _, h => by cases h; exact .int i
  | .str x, _, h => by cases h; exact .str x
  | .list ds, _, h => by
    cases h with
    | lst h1 h2 => exact .lst (e _ _ h1) (dpa_mono e ds _ h2)
  | .tuple ds, _, h => by
    cases h with
    | tup hd h1 h2 => exact .tup hd (e _ _ h1) (dpa_mono e ds _ h2)
  | .dict _, _, h => by cases h
theorem dpa_mono (e : Same H H') : ∀ (ds : List Dat) (vs : List V), DqAll H vs ds → DqAll H' vs ds
  | [], _, h => by cases h; exact .nil
  | d :: ds, _, h => by
    cases h with
    | cons h1 h2 => exact .cons (dp_mono e d _ h1) (dpa_mono e ds _ h2)
end
mutual
theorem dq_dp : ∀ (d : Dat) (v : V), Dq H v d → Dp K H v d
  | .none, _, h => by cases h; exact .non
  | .bool b, _, h => by cases h; exact .bl b
  | .int i, _, h => by cases h; exact .int i
  | .str x, _, h => by cases h; exact .str x
  | .list ds, _, h => by
    cases h with
    | lst h1 h2 => exact .lst (.inl (.inl h1)) (dqa_dpa ds _ h2)
  | .tuple ds, _, h => by
    cases h with
    | tup hd h1 h2 => exact .tup (.inl (.inr ⟨_, h1⟩)) (dqa_dpa ds _ h2)
  | .dict _, _, h => by cases h
theorem dqa_dpa : ∀ (ds : List Dat) (vs : List V), DqAll H vs ds → DpAll K H vs ds
  | [], _, h => by cases h; exact .nil
  | d :: ds, _, h => by
    cases h with
    | cons h1 h2 => exact .cons (dq_dp d _ h1) (dqa_dpa ds _ h2)
end
end
section
variable {K : PySem.W.Frag} {H H' : Hp}
theorem DqAll.len : ∀ {vs : List V} {ds : List Dat}, DqAll H vs ds → vs.length = ds.length
  | _, _, .nil => rfl
  | _, _, .cons _ h => by rw [List.length_cons, List.length_cons, DqAll.len h]
theorem DqAll.get : ∀ {vs : List V} {ds : List Dat} {i : Nat} {d : Dat}, DqAll H vs ds → ds[i]? = some d → ∃ v, vs[i]? = some v ∧ Dq H v d
  | _, _, _, _, .nil, h => by simp at h
  | _, _, 0, _, .cons h1 _, h => by cases h; exact ⟨_, rfl, h1⟩
  | _, _, i + 1, _, .cons _ h2, h => DqAll.get (i := i) h2 h
theorem DqAll.getV : ∀ {vs : List V} {ds : List Dat} {i : Nat} {v : V}, DqAll H vs ds → vs[i]? = some v → ∃ d, ds[i]? = some d ∧ Dq H v d
  | _, _, _, _, .nil, h => by simp at h
  | _, _, 0, _, .cons h1 _, h => by cases h; exact ⟨_, rfl, h1⟩
  | _, _, i + 1, _, .cons _ h2, h => DqAll.getV (i := i) h2 h
theorem DqAll.app : ∀ {vs ws : List V} {ds es : List Dat}, DqAll H vs ds → DqAll H ws es → DqAll H (vs ++ ws) (ds ++ es)
  | _, _, _, _, .nil, h => h
  | _, _, _, _, .cons h1 h2, h => .cons h1 (DqAll.app h2 h)
theorem DqAll.take : ∀ {vs : List V} {ds : List Dat} (n : Nat), DqAll H vs ds → DqAll H (vs.take n) (ds.take n)
  | _, _, 0, _ => .nil
  | _, _, _ + 1, .nil => .nil
  | _, _, n + 1, .cons h1 h2 => .cons h1 (DqAll.take n h2)
theorem DqAll.drop : ∀ {vs : List V} {ds : List Dat} (n : Nat), DqAll H vs ds → DqAll H (vs.drop n) (ds.drop n)
  | _, _, 0, h => h
  | _, _, _ + 1, .nil => .nil
  | _, _, n + 1, .cons _ h2 => DqAll.drop n h2
theorem DqAll.set {v : V} {d : Dat} (q : Dq H v d) : ∀ {vs : List V} {ds : List Dat} (n : Nat), DqAll H vs ds → DqAll H (vs.set n v) (ds.set n d)
  | _, _, _, .nil => .nil
  | _, _, 0, .cons _ h2 => .cons q h2
  | _, _, n + 1, .cons h1 h2 => .cons h1 (DqAll.set q n h2)
theorem DqAll.one {v : V} {d : Dat} (h : Dq H v d) : DqAll H [v] [d] := .cons h .nil
theorem DqAll.rev : ∀ {vs : List V} {ds : List Dat}, DqAll H vs ds → DqAll H vs.reverse ds.reverse
  | _, _, .nil => .nil
  | _, _, .cons h1 h2 => by rw [List.reverse_cons, List.reverse_cons]; exact (DqAll.rev h2).app (.one h1)
theorem DqAll.dropLast {vs : List V} {ds : List Dat} (h : DqAll H vs ds) : DqAll H vs.dropLast ds.dropLast := by
  rw [List.dropLast_eq_take, List.dropLast_eq_take, h.len]; exact h.take _
theorem DqAll.eraseIdx : ∀ {vs : List V} {ds : List Dat} (n : Nat), DqAll H vs ds → DqAll H (vs.eraseIdx n) (ds.eraseIdx n)
  | _, _, _, .nil => .nil
  | _, _, 0, .cons _ h2 => h2
  | _, _, n + 1, .cons h1 h2 => .cons h1 (DqAll.eraseIdx n h2)
end
section
variable {K : PySem.W.Frag} {H H' : Hp}
theorem dpa_ints : ∀ {ns : List Int} {vs : List V}, DqAll H vs (ns.map PyData.int) → vs = ns.map V.int
  | [], _, h => by cases h; rfl
  | n :: ns, _, h => by
    cases h with
    | cons h1 h2 => cases h1; rw [dpa_ints h2]; rfl
theorem dpa_of_ints : ∀ (ns : List Int), DqAll H (ns.map V.int) (ns.map PyData.int)
  | [] => .nil
  | n :: ns => .cons (.int n) (dpa_of_ints ns)
theorem dpa_bools : ∀ {ns : List Bool} {vs : List V}, DqAll H vs (ns.map PyData.bool) → vs = ns.map V.bl
  | [], _, h => by cases h; rfl
  | n :: ns, _, h => by
    cases h with
    | cons h1 h2 => cases h1; rw [dpa_bools h2]; rfl
/-- scalars -/
def vd : V → Dat
  | .bl b => .bool b
  | .int i => .int i
  | .str x => .str x
  | _ => .none
def sc : V → Bool
  | .non => true
  | .bl _ => true
  | .int _ => true
  | .str _ => true
  | _ => false
theorem dp_sc {v : V} (h : sc v = true) : Dq H v (vd v) := by
  cases v with
  | non => exact .non
  | bl b => exact .bl b
  | int i => exact .int i
  | str x => exact .str x
  | byt _ => cases h
  | flt _ => cases h
  | ref _ => cases h
  | ty _ => cases h
end
/-! ### a state bears the cells -/
section
variable (K : PySem.W.Frag) (L : Addr → Prop) (S0 : Hs)
abbrev Wh := Addr → Option (Sum Nat Nat)
structure Own (w : Wh) (k : Sum Nat Nat) (S : Hs) (a : Addr) (ds : List Dat) : Prop where
  nb : S.b a = none
  at_ : w a = some k
  is : ∃ vs, S.h a = some (.lst vs) ∧ DqAll S.b vs ds
structure OwnO (w : Wh) (k : Sum Nat Nat) (S : Hs) (a : Addr) (p : HO) : Prop where
  nb : S.b a = none
  at_ : w a = some k
  is : S.h a = some p
structure OwnL (w : Wh) (k : Sum Nat Nat) (S : Hs) (a : Addr) (R : Res) (N : Addr → Prop) : Prop where
  ex : ∃ F : Addr → Prop, R.holds S.b S.h a F ∧ ∀ x, F x → S.b x = none ∧ w x = some k ∧ N x
def SlotOk (w : Wh) (S : Hs) (i : Nat) (o : Option (Option V)) : Cell → Prop
  | .no => True
  | .dt d => ∃ v, o = some (some v) ∧ Dq S.b v d
  | .ow ds => ∃ a, o = some (some (.ref a)) ∧ Own w (.inl i) S a ds ∧ S0.h a = none
  | .ln ds => ∃ a, o = some (some (.ref a)) ∧ Own w (.inl i) S a ds ∧ L a
  | .sc ns => ∃ a, o = some (some (.ref a)) ∧ SqL K S.b a (ns.map V.int)
  | .ob p => ∃ a, o = some (some (.ref a)) ∧ OwnO w (.inl i) S a p ∧ S0.h a = none
  | .li R => ∃ a, o = some (some (.ref a)) ∧ OwnL w (.inl i) S a R (fun x => S0.h x = none ∨ (R.lent = true ∧ L x))
def TmpOk (w : Wh) (S : Hs) (σ : L2.St) (k : Nat) (v : V) : Tmp → Prop
  | .dt d => Dq S.b v d
  | .fr ds => ∃ a, v = .ref a ∧ Own w (.inr k) S a ds ∧ S0.h a = none
  | .br i => σ[i]? = some (some v)
  | .sc ns => ∃ a, v = .ref a ∧ SqL K S.b a (ns.map V.int)
  | .ob p => ∃ a, v = .ref a ∧ OwnO w (.inr k) S a p ∧ S0.h a = none
  | .li R => ∃ a, v = .ref a ∧ OwnL w (.inr k) S a R (fun x => S0.h x = none)
def TmpsOk (w : Wh) (S : Hs) (σ : L2.St) : List Tmp → List V → Prop
  | [], [] => True
  | t :: ts, v :: vs => TmpOk K S0 w S σ ts.length v t ∧ TmpsOk w S σ ts vs
  | _, _ => False
structure Env (Γ : List Cell) (Θ : List Tmp) (σ : L2.St) (τ : List V) (S : Hs) : Prop where
  gr : Gr L S0 S
  sub : Same S.b S.h
  len : σ.length = Γ.length
  ok : ∃ w : Wh, (∀ i c, Γ[i]? = some c → SlotOk K L S0 w S i σ[i]? c) ∧ TmpsOk K S0 w S σ Θ τ
end
section
variable {K : PySem.W.Frag} {L : Addr → Prop} {S0 S S' : Hs} {Γ : List Cell} {Θ : List Tmp} {σ : L2.St} {τ : List V} {w : Wh}
theorem Own.grow {k : Sum Nat Nat} {a : Addr} {ds : List Dat} (h : Own w k S a ds) (g : Gr L0 S S') : Own w k S' a ds := by
  obtain ⟨n, e, vs, q, p⟩ := h
  exact ⟨g.own a n (by rw [q]; exact fun z => nomatch z), e, vs, g.h a _ (fun z => z) q, dpa_mono g.b _ _ p⟩
theorem OwnO.grow {k : Sum Nat Nat} {a : Addr} {p : HO} (h : OwnO w k S a p) (g : Gr L0 S S') : OwnO w k S' a p := by
  obtain ⟨n, e, q⟩ := h
  exact ⟨g.own a n (by rw [q]; exact fun z => nomatch z), e, g.h a _ (fun z => z) q⟩
theorem OwnL.grow {k : Sum Nat Nat} {a : Addr} {R : Res} {N : Addr → Prop} (h : OwnL w k S a R N) (g : Gr L0 S S') : OwnL w k S' a R N := by
  obtain ⟨F, q, f⟩ := h
  refine ⟨F, R.frame q g.b fun x hx => ?_, fun x hx => ⟨g.own x (f x hx).1 (R.dom q hx), (f x hx).2⟩⟩
  cases e : S.h x with
  | none => exact absurd e (R.dom q hx)
  | some o => exact g.h x o (fun z => z) e
theorem OwnL.reK {k k' : Sum Nat Nat} {a : Addr} {R : Res} {N N' : Addr → Prop} {w' : Wh} (h : OwnL w k S a R N) (f : ∀ x, w x = some k → w' x = some k') (n : ∀ x, N x → N' x) : OwnL w' k' S a R N' := by
  obtain ⟨F, q, g⟩ := h
  exact ⟨F, q, fun x hx => ⟨(g x hx).1, f x (g x hx).2.1, n x (g x hx).2.2⟩⟩
theorem OwnL.reW {k k' : Sum Nat Nat} {a p : Addr} {R : Res} {N : Addr → Prop} (h : OwnL w k S a R N) (hp : S.h p = none) : OwnL (fun b => if b = p then some k' else w b) k S a R N := by
  obtain ⟨F, q, g⟩ := h
  exact ⟨F, q, fun x hx => ⟨(g x hx).1, by rw [if_neg (fun e => R.dom q hx (by rw [e]; exact hp))]; exact (g x hx).2.1, (g x hx).2.2⟩⟩
theorem TmpsOk.imp {w' : Wh} {σ' : L2.St} : ∀ {Θ : List Tmp} {τ : List V}, TmpsOk K S0 w S σ Θ τ → (∀ (k : Nat) v t, k < Θ.length → TmpOk K S0 w S σ k v t → TmpOk K S0 w' S' σ' k v t) → TmpsOk K S0 w' S' σ' Θ τ
  | [], [], _, _ => trivial
  | t :: ts, v :: vs, h, f => ⟨f _ _ _ (by simp) h.1, TmpsOk.imp h.2 fun k v t hk => f k v t (by simp; omega)⟩
  | [], _ :: _, h, _ => h.elim
  | _ :: _, [], h, _ => h.elim
theorem TmpsOk.imp' {w' : Wh} {σ' : L2.St} : ∀ {Θ : List Tmp} {τ : List V}, TmpsOk K S0 w S σ Θ τ → (∀ (k : Nat) v t, k < Θ.length → t ∈ Θ → TmpOk K S0 w S σ k v t → TmpOk K S0 w' S' σ' k v t) → TmpsOk K S0 w' S' σ' Θ τ
  | [], [], _, _ => trivial
  | t :: ts, v :: vs, h, f => ⟨f _ _ _ (by simp) (by simp) h.1, TmpsOk.imp' h.2 fun k v t hk hm => f k v t (by simp; omega) (List.mem_cons_of_mem _ hm)⟩
  | [], _ :: _, h, _ => h.elim
  | _ :: _, [], h, _ => h.elim
theorem SlotOk.grow {i : Nat} {o : Option (Option V)} {c : Cell} (h : SlotOk K L S0 w S i o c) (g : Gr L0 S S') : SlotOk K L S0 w S' i o c := by
  cases c with
  | no => trivial
  | dt d => obtain ⟨v, e, q⟩ := h; exact ⟨v, e, dp_mono g.b _ _ q⟩
  | ow ds => obtain ⟨a, e, q, n⟩ := h; exact ⟨a, e, q.grow g, n⟩
  | ln ds => obtain ⟨a, e, q, n⟩ := h; exact ⟨a, e, q.grow g, n⟩
  | sc ns => obtain ⟨a, e, q⟩ := h; exact ⟨a, e, g.b.seq q⟩
  | ob pp => obtain ⟨a, e, q, n⟩ := h; exact ⟨a, e, q.grow g, n⟩
  | li R => obtain ⟨a, e, q⟩ := h; exact ⟨a, e, q.grow g⟩
theorem TmpOk.grow {k : Nat} {v : V} {t : Tmp} (h : TmpOk K S0 w S σ k v t) (g : Gr L0 S S') : TmpOk K S0 w S' σ k v t := by
  cases t with
  | dt d => exact dp_mono g.b _ _ h
  | fr ds => obtain ⟨a, e, q, n⟩ := h; exact ⟨a, e, q.grow g, n⟩
  | br i => exact h
  | sc ns => obtain ⟨a, e, q⟩ := h; exact ⟨a, e, g.b.seq q⟩
  | ob pp => obtain ⟨a, e, q, n⟩ := h; exact ⟨a, e, q.grow g, n⟩
  | li R => obtain ⟨a, e, q⟩ := h; exact ⟨a, e, q.grow g⟩
/-- the heap grows -/
theorem Env.grow (E : Env K L S0 Γ Θ σ τ S) (g : Gr L0 S S') (sub : Same S'.b S'.h) : Env K L S0 Γ Θ σ τ S' := by
  obtain ⟨w, h1, h2⟩ := E.ok
  exact ⟨E.gr.trans0 g, sub, E.len, w, fun i c e => (h1 i c e).grow g, h2.imp fun _ _ _ _ q => q.grow g⟩
theorem Env.pop {t : Tmp} {v : V} (E : Env K L S0 Γ (t :: Θ) σ (v :: τ) S) : Env K L S0 Γ Θ σ τ S := by
  obtain ⟨w, h1, h2⟩ := E.ok
  exact ⟨E.gr, E.sub, E.len, w, h1, h2.2⟩
theorem Env.top {t : Tmp} {v : V} (E : Env K L S0 Γ (t :: Θ) σ (v :: τ) S) : ∃ w, TmpOk K S0 w S σ Θ.length v t := let ⟨w, _, h2⟩ := E.ok; ⟨w, h2.1⟩
theorem Env.push {d : Dat} {v : V} (E : Env K L S0 Γ Θ σ τ S) (h : Dq S.b v d) : Env K L S0 Γ (.dt d :: Θ) σ (v :: τ) S := by
  obtain ⟨w, h1, h2⟩ := E.ok
  exact ⟨E.gr, E.sub, E.len, w, h1, h, h2⟩
theorem Env.pushBr {i : Nat} {v : V} (E : Env K L S0 Γ Θ σ τ S) (h : σ[i]? = some (some v)) : Env K L S0 Γ (.br i :: Θ) σ (v :: τ) S := by
  obtain ⟨w, h1, h2⟩ := E.ok
  exact ⟨E.gr, E.sub, E.len, w, h1, h, h2⟩
theorem gr_new {p : Addr} {o : HO} (h : S.h p = none) (sub : Same S.b S.h) : Gr L0 S ⟨S.b, upd S.h p o⟩ :=
  ⟨Same.refl _, fun a o' _ e => by show upd S.h p o a = some o'; rw [upd_ne (ne_of_none e h)]; exact e, fun _ e _ => e, fun a n => by
    show upd S.h p o a ≠ none
    by_cases e : a = p
    · rw [e, upd_same]; exact fun z => nomatch z
    · rw [upd_ne e]; exact n⟩
theorem sub_new {p : Addr} {o : HO} (h : S.h p = none) (sub : Same S.b S.h) : Same S.b (upd S.h p o) := fun a o' e => by
  rw [upd_ne (ne_of_none (sub a o' e) h)]; exact sub a o' e
theorem gr_newB {p : Addr} {o : HO} (h : S.h p = none) (sub : Same S.b S.h) : Gr L0 S ⟨upd S.b p o, upd S.h p o⟩ := by
  have nb : S.b p = none := by
    cases q : S.b p with
    | none => rfl
    | some u => rw [sub p u q] at h; cases h
  refine ⟨fun a o' e => ?_, (gr_new h sub).h, fun a e n => ?_, (gr_new h sub).dom⟩
  · show upd S.b p o a = some o'
    rw [upd_ne (ne_of_none e nb)]; exact e
  · show upd S.b p o a = none
    rw [upd_ne (fun z => n (by rw [z]; exact h))]; exact e
theorem sub_newB {p : Addr} {o : HO} (h : S.h p = none) (sub : Same S.b S.h) : Same (upd S.b p o) (upd S.h p o) := fun a o' e => by
  by_cases q : a = p
  · rw [q, upd_same] at e; rw [q, upd_same]; exact e
  · rw [upd_ne q] at e; rw [upd_ne q]; exact sub a o' e
/-- a new object that never changes -/
theorem Env.newB {p : Addr} {o : HO} (E : Env K L S0 Γ Θ σ τ S) (h : S.h p = none) : Env K L S0 Γ Θ σ τ ⟨upd S.b p o, upd S.h p o⟩ := E.grow (gr_newB h E.sub) (sub_newB h E.sub)
theorem Env.fresh {p : Addr} (E : Env K L S0 Γ Θ σ τ S) (h : S.h p = none) : S.b p = none := by
  cases q : S.b p with
  | none => rfl
  | some u => rw [E.sub p u q] at h; cases h
theorem Env.fresh0 {p : Addr} (E : Env K L S0 Γ Θ σ τ S) (h : S.h p = none) : S0.h p = none := by
  cases q : S0.h p with
  | none => rfl
  | some u => exact absurd h (E.gr.dom p (by rw [q]; exact fun z => nomatch z))
theorem Own.lt {k : Sum Nat Nat} {a p : Addr} {ds : List Dat} (h : Own w k S a ds) (hp : S.h p = none) : a ≠ p := by
  obtain ⟨_, _, vs, q, _⟩ := h
  exact ne_of_none q hp
theorem OwnO.lt {k : Sum Nat Nat} {a p : Addr} {o : HO} (h : OwnO w k S a o) (hp : S.h p = none) : a ≠ p := ne_of_none h.is hp
theorem OwnO.reW {k k' : Sum Nat Nat} {a p : Addr} {o : HO} (h : OwnO w k S a o) (hp : a ≠ p) : OwnO (fun b => if b = p then some k' else w b) k S a o :=
  ⟨h.nb, by show (if a = p then some k' else w a) = some k; rw [if_neg hp]; exact h.at_, h.is⟩
/-- a new tuple of data -/
theorem Env.newTup {p : Addr} {o : Obj} {vs : List V} {ds : List Dat} (E : Env K L S0 Γ Θ σ τ S) (hd : o.dict = none) (h : S.h p = none) (q : DqAll S.b vs ds) : Env K L S0 Γ (.dt (.tuple ds) :: Θ) σ (.ref p :: τ) ⟨upd S.b p (.frz o (.tup vs)), upd S.h p (.frz o (.tup vs))⟩ :=
  (E.newB h).push (.tup hd upd_same (dpa_mono (gr_newB h E.sub).b _ _ q))
theorem sqt_f {K : PySem.W.Frag} {H : Hp} {a : Addr} {o : Obj} {xs : List V} (h : H a = some (.frz o (.tup xs))) : SqT K H a xs := .inl (.inr ⟨o, h⟩)
/-- where an address is owned, by a word w that is changed at a fresh place -/
theorem Own.reW {k k' : Sum Nat Nat} {a p : Addr} {ds : List Dat} (h : Own w k S a ds) (hp : a ≠ p) : Own (fun b => if b = p then some k' else w b) k S a ds :=
  ⟨h.nb, by show (if a = p then some k' else w a) = some k; rw [if_neg hp]; exact h.at_, h.is⟩
theorem SlotOk.reW {k' : Sum Nat Nat} {p : Addr} {i : Nat} {o : Option (Option V)} {c : Cell} (h : SlotOk K L S0 w S i o c) (hp : S.h p = none) : SlotOk K L S0 (fun b => if b = p then some k' else w b) S i o c := by
  cases c with
  | no => trivial
  | dt d => exact h
  | ow ds => obtain ⟨a, e, q, n⟩ := h; exact ⟨a, e, q.reW (q.lt hp), n⟩
  | ln ds => obtain ⟨a, e, q, n⟩ := h; exact ⟨a, e, q.reW (q.lt hp), n⟩
  | sc ns => exact h
  | ob pp => obtain ⟨a, e, q, n⟩ := h; exact ⟨a, e, q.reW (q.lt hp), n⟩
  | li R => obtain ⟨a, e, q⟩ := h; exact ⟨a, e, q.reW hp⟩
theorem TmpOk.reW {k' : Sum Nat Nat} {p : Addr} {k : Nat} {v : V} {t : Tmp} (h : TmpOk K S0 w S σ k v t) (hp : S.h p = none) : TmpOk K S0 (fun b => if b = p then some k' else w b) S σ k v t := by
  cases t with
  | dt d => exact h
  | fr ds => obtain ⟨a, e, q, n⟩ := h; exact ⟨a, e, q.reW (q.lt hp), n⟩
  | br i => exact h
  | sc ns => exact h
  | ob pp => obtain ⟨a, e, q, n⟩ := h; exact ⟨a, e, q.reW (q.lt hp), n⟩
  | li R => obtain ⟨a, e, q⟩ := h; exact ⟨a, e, q.reW hp⟩
/-- a new list of one's own -/
theorem Env.newLst {p : Addr} {vs : List V} {ds : List Dat} (E : Env K L S0 Γ Θ σ τ S) (h : S.h p = none) (q : DqAll S.b vs ds) : Env K L S0 Γ (.fr ds :: Θ) σ (.ref p :: τ) ⟨S.b, upd S.h p (.lst vs)⟩ := by
  have g := gr_new (o := .lst vs) h E.sub
  have nb := E.fresh h
  have n0 := E.fresh0 h
  obtain ⟨w, h1, h2⟩ := E.ok
  refine ⟨E.gr.trans0 g, sub_new h E.sub, E.len, fun b => if b = p then some (.inr Θ.length) else w b, fun i c e => ((h1 i c e).reW h).grow g, ⟨p, rfl, ⟨nb, if_pos rfl, vs, upd_same, q⟩, n0⟩, h2.imp fun _ _ _ _ z => (z.reW h).grow g⟩
/-- a new object of one's own -/
theorem Env.newOb {p : Addr} {o : HO} (E : Env K L S0 Γ Θ σ τ S) (h : S.h p = none) : Env K L S0 Γ (.ob o :: Θ) σ (.ref p :: τ) ⟨S.b, upd S.h p o⟩ := by
  have g := gr_new (o := o) h E.sub
  have nb := E.fresh h
  have n0 := E.fresh0 h
  obtain ⟨w, h1, h2⟩ := E.ok
  refine ⟨E.gr.trans0 g, sub_new h E.sub, E.len, fun b => if b = p then some (.inr Θ.length) else w b, fun i c e => ((h1 i c e).reW h).grow g, ⟨p, rfl, ⟨nb, if_pos rfl, upd_same⟩, n0⟩, h2.imp fun _ _ _ _ z => (z.reW h).grow g⟩
/-- a new resource, all its places new -/
theorem Env.newLi {S' : Hs} {p : Addr} {R : Res} {F : Addr → Prop} (E : Env K L S0 Γ Θ σ τ S) (g : Gr L0 S S') (sub : Same S'.b S'.h) (q : R.holds S'.b S'.h p F) (hF : ∀ x, F x → S'.b x = none ∧ S.h x = none) : Env K L S0 Γ (.li R :: Θ) σ (.ref p :: τ) S' := by
  classical
  have n0 : ∀ x, F x → S0.h x = none := fun x hx => E.fresh0 (hF x hx).2
  obtain ⟨w, h1, h2⟩ := E.ok
  let w' : Wh := fun b => if F b then some (.inr Θ.length) else w b
  have nw : ∀ {x : Addr}, S.h x ≠ none → w' x = w x := fun {x} hx => if_neg fun z => hx (hF x z).2
  refine ⟨E.gr.trans0 g, sub, E.len, w', fun i c e => ?_, ⟨p, rfl, F, q, fun x hx => ⟨(hF x hx).1, if_pos hx, n0 x hx⟩⟩, h2.imp fun k v t hk z => ?_⟩
  · have z := h1 i c e
    cases c with
    | no => trivial
    | dt d => obtain ⟨v, e, r⟩ := z; exact ⟨v, e, dp_mono g.b _ _ r⟩
    | ow ds => obtain ⟨a, e, r, n⟩ := z; exact ⟨a, e, Own.grow ⟨r.nb, by rw [nw (by obtain ⟨_, u, _⟩ := r.is; rw [u]; exact fun z => nomatch z)]; exact r.at_, r.is⟩ g, n⟩
    | ln ds => obtain ⟨a, e, r, n⟩ := z; exact ⟨a, e, Own.grow ⟨r.nb, by rw [nw (by obtain ⟨_, u, _⟩ := r.is; rw [u]; exact fun z => nomatch z)]; exact r.at_, r.is⟩ g, n⟩
    | sc ns => obtain ⟨a, e, r⟩ := z; exact ⟨a, e, g.b.seq r⟩
    | ob pp => obtain ⟨a, e, r, n⟩ := z; exact ⟨a, e, OwnO.grow ⟨r.nb, by rw [nw (by rw [r.is]; exact fun z => nomatch z)]; exact r.at_, r.is⟩ g, n⟩
    | li R' =>
      obtain ⟨a, e, G, r, f⟩ := z
      exact ⟨a, e, OwnL.grow ⟨G, r, fun x hx => ⟨(f x hx).1, by rw [nw (R'.dom r hx)]; exact (f x hx).2.1, (f x hx).2.2⟩⟩ g⟩
  · cases t with
    | dt d => exact dp_mono g.b _ _ z
    | fr ds => obtain ⟨a, e, r, n⟩ := z; exact ⟨a, e, Own.grow ⟨r.nb, by rw [nw (by obtain ⟨_, u, _⟩ := r.is; rw [u]; exact fun z => nomatch z)]; exact r.at_, r.is⟩ g, n⟩
    | br i => exact z
    | sc ns => obtain ⟨a, e, r⟩ := z; exact ⟨a, e, g.b.seq r⟩
    | ob pp => obtain ⟨a, e, r, n⟩ := z; exact ⟨a, e, OwnO.grow ⟨r.nb, by rw [nw (by rw [r.is]; exact fun z => nomatch z)]; exact r.at_, r.is⟩ g, n⟩
    | li R' =>
      obtain ⟨a, e, G, r, f⟩ := z
      exact ⟨a, e, OwnL.grow ⟨G, r, fun x hx => ⟨(f x hx).1, by rw [nw (R'.dom r hx)]; exact (f x hx).2.1, (f x hx).2.2⟩⟩ g⟩
/-- names are forgotten -/
theorem Env.forget {Γ' : List Cell} (E : Env K L S0 Γ Θ σ τ S) (hl : Γ'.length = Γ.length) (h : ∀ (i : Nat) (c : Cell), Γ'[i]? = some c → c = Cell.no ∨ Γ[i]? = some c) : Env K L S0 Γ' Θ σ τ S := by
  obtain ⟨w, h1, h2⟩ := E.ok
  refine ⟨E.gr, E.sub, E.len.trans hl.symm, w, fun i c e => ?_, h2⟩
  rcases h i c e with rfl | q
  · trivial
  · exact h1 i c q
/-- a slot is stored: data -/
theorem Env.setDt {d : Dat} {v : V} {i : Nat} (E : Env K L S0 Γ Θ σ τ S) (hb : ∀ t ∈ Θ, t ≠ .br i) (h : Dq S.b v d) : Env K L S0 (Γ.set i (.dt d)) Θ (σ.set i (some v)) τ S := by
  obtain ⟨w, h1, h2⟩ := E.ok
  refine ⟨E.gr, E.sub, by rw [List.length_set, List.length_set]; exact E.len, w, fun j c e => ?_, h2.imp' fun k u t hk hm q => ?_⟩
  · by_cases q : i = j
    · subst q
      have hi : i < Γ.length := by
        have := (List.getElem?_eq_some_iff.mp e).1
        rw [List.length_set] at this; exact this
      rw [List.getElem?_set_self hi] at e
      cases e
      exact ⟨v, List.getElem?_set_self (by rw [E.len]; exact hi), h⟩
    · rw [List.getElem?_set_ne q] at e
      rw [List.getElem?_set_ne q]
      exact h1 j c e
  · cases t with
    | dt d => exact q
    | fr ds => exact q
    | sc ns => exact q
    | ob pp => exact q
    | li R => exact q
    | br j =>
      show (σ.set i (some v))[j]? = some (some u)
      have q' : σ[j]? = some (some u) := q
      have hij : i ≠ j := fun z => hb _ hm (by rw [z])
      rw [List.getElem?_set_ne hij]; exact q'
end
end Ld
set_option Elab.async false
set_option linter.all false
set_option maxRecDepth 100000
namespace Ld
open PySem PySem.Spec PyProof.Rows L2 Lx
/-! ### lists of one's own: frozen, stored, changed -/
def Cell.ls : Cell → Option (List Dat)
  | .ow ds => some ds
  | .ln ds => some ds
  | _ => none
def Cell.put : Cell → List Dat → Cell
  | .ow _, ds => .ow ds
  | .ln _, ds => .ln ds
  | c, _ => c
section
variable {K : PySem.W.Frag} {L : Addr → Prop} {S0 S S' : Hs} {Γ : List Cell} {Θ : List Tmp} {σ : L2.St} {τ : List V} {w : Wh}
theorem Own.apart {k k' : Sum Nat Nat} {a a' : Addr} {ds ds' : List Dat} (h : Own w k S a ds) (h' : Own w k' S a' ds') (n : k ≠ k') : a ≠ a' := fun e => n (by
  have e1 := h.at_
  have e2 := h'.at_
  rw [e, e2] at e1
  exact (Option.some.inj e1).symm)
theorem Own.apartO {k k' : Sum Nat Nat} {a a' : Addr} {ds : List Dat} {p : HO} (h : Own w k S a ds) (h' : OwnO w k' S a' p) (n : k ≠ k') : a ≠ a' := fun e => n (by
  have e1 := h.at_
  have e2 := h'.at_
  rw [e, e2] at e1
  exact (Option.some.inj e1).symm)
theorem OwnO.apart {k k' : Sum Nat Nat} {a a' : Addr} {p q : HO} (h : OwnO w k S a p) (h' : OwnO w k' S a' q) (n : k ≠ k') : a ≠ a' := fun e => n (by
  have e1 := h.at_
  have e2 := h'.at_
  rw [e, e2] at e1
  exact (Option.some.inj e1).symm)
theorem Own.frzO {k k' : Sum Nat Nat} {a a' : Addr} {ds : List Dat} {p : HO} {vs : List V} (h : Own w k S a ds) (h' : OwnO w k' S a' p) (n : k' ≠ k) : OwnO w k' ⟨upd S.b a (.lst vs), S.h⟩ a' p := by
  have ne : a' ≠ a := (h.apartO h' n.symm).symm
  obtain ⟨nb, e, q⟩ := h'
  exact ⟨by show upd S.b a (.lst vs) a' = none; rw [upd_ne ne]; exact nb, e, q⟩
theorem Own.mutO {k k' : Sum Nat Nat} {a a' : Addr} {ds : List Dat} {p o : HO} (h : Own w k S a ds) (h' : OwnO w k' S a' p) (n : k' ≠ k) : OwnO w k' ⟨S.b, upd S.h a o⟩ a' p := by
  have ne : a' ≠ a := (h.apartO h' n.symm).symm
  obtain ⟨nb, e, q⟩ := h'
  exact ⟨nb, e, by show upd S.h a o a' = _; rw [upd_ne ne]; exact q⟩
theorem Own.frzL {k k' : Sum Nat Nat} {a a' : Addr} {ds : List Dat} {R : Res} {N : Addr → Prop} {vs : List V} (h : Own w k S a ds) (h' : OwnL w k' S a' R N) (n : k' ≠ k) : OwnL w k' ⟨upd S.b a (.lst vs), S.h⟩ a' R N := by
  obtain ⟨F, q, f⟩ := h'
  have ne : ∀ x, F x → x ≠ a := fun x hx e => n (by
    have e1 := h.at_
    rw [← e, (f x hx).2.1] at e1
    exact Option.some.inj e1)
  refine ⟨F, R.frame q (fun c o z => ?_) fun x hx => rfl, fun x hx => ⟨?_, (f x hx).2⟩⟩
  · show upd S.b a (.lst vs) c = some o
    rw [upd_ne (ne_of_none z h.nb)]; exact z
  · show upd S.b a (.lst vs) x = none
    rw [upd_ne (ne x hx)]; exact (f x hx).1
theorem OwnL.mutE {k k' : Sum Nat Nat} {a a' : Addr} {R : Res} {N : Addr → Prop} {o : HO} (ha : w a = some k) (h' : OwnL w k' S a' R N) (n : k' ≠ k) : OwnL w k' ⟨S.b, upd S.h a o⟩ a' R N := by
  obtain ⟨F, q, f⟩ := h'
  refine ⟨F, R.frame q (Same.refl _) fun x hx => ?_, f⟩
  have ne : x ≠ a := fun e => n (by
    rw [← e, (f x hx).2.1] at ha
    exact Option.some.inj ha)
  exact upd_ne ne
theorem Own.mutL {k k' : Sum Nat Nat} {a a' : Addr} {ds : List Dat} {R : Res} {N : Addr → Prop} {o : HO} (h : Own w k S a ds) (h' : OwnL w k' S a' R N) (n : k' ≠ k) : OwnL w k' ⟨S.b, upd S.h a o⟩ a' R N := h'.mutE h.at_ n
theorem OwnO.mutL {k k' : Sum Nat Nat} {a a' : Addr} {p o : HO} {R : Res} {N : Addr → Prop} (h : OwnO w k S a p) (h' : OwnL w k' S a' R N) (n : k' ≠ k) : OwnL w k' ⟨S.b, upd S.h a o⟩ a' R N := h'.mutE h.at_ n
/-- b holds one more list -/
theorem Own.frz {k k' : Sum Nat Nat} {a a' : Addr} {ds ds' : List Dat} {vs : List V} (h : Own w k S a ds) (h' : Own w k' S a' ds') (n : k' ≠ k) : Own w k' ⟨upd S.b a (.lst vs), S.h⟩ a' ds' := by
  have ne : a' ≠ a := h'.apart h n
  obtain ⟨nb, e, us, q, p⟩ := h'
  refine ⟨by show upd S.b a (.lst vs) a' = none; rw [upd_ne ne]; exact nb, e, us, q, dpa_mono (fun c o z => ?_) _ _ p⟩
  show upd S.b a (.lst vs) c = some o
  rw [upd_ne (ne_of_none z h.nb)]; exact z
theorem frz_b {k : Sum Nat Nat} {a : Addr} {ds : List Dat} {vs : List V} (h : Own w k S a ds) : Same S.b (upd S.b a (.lst vs)) := fun c o z => by
  rw [upd_ne (ne_of_none z h.nb)]; exact z
theorem gr_frz {k : Sum Nat Nat} {a : Addr} {ds : List Dat} {vs : List V} (g : Gr L S0 S) (h : Own w k S a ds) (n0 : S0.h a = none) : Gr L S0 ⟨upd S.b a (.lst vs), S.h⟩ :=
  ⟨g.b.trans (frz_b h), g.h, fun c e n => by
    show upd S.b a (.lst vs) c = none
    rw [upd_ne (fun z => n (by rw [z]; exact n0))]
    exact g.own c e n, g.dom⟩
theorem sub_frz {a : Addr} {vs : List V} (s : Same S.b S.h) (h : S.h a = some (.lst vs)) : Same (upd S.b a (.lst vs)) S.h := fun c o e => by
  by_cases q : c = a
  · rw [q, upd_same] at e; rw [q, h]; exact e
  · rw [upd_ne q] at e; exact s c o e
/-- the list under way is now data -/
theorem Env.frzTop {ds : List Dat} {v : V} (E : Env K L S0 Γ (.fr ds :: Θ) σ (v :: τ) S) : ∃ S', S'.h = S.h ∧ Env K L S0 Γ (.dt (.list ds) :: Θ) σ (v :: τ) S' := by
  obtain ⟨w, h1, ⟨a, rfl, o, n0⟩, h2⟩ := E.ok
  obtain ⟨nb, ea, vs, q, p⟩ := id o
  refine ⟨⟨upd S.b a (.lst vs), S.h⟩, rfl, gr_frz E.gr o n0, sub_frz E.sub q, E.len, w, fun i c e => ?_, .lst upd_same (dpa_mono (frz_b o) _ _ p), h2.imp fun k u t hk z => ?_⟩
  · have z := h1 i c e
    cases c with
    | no => trivial
    | dt d => obtain ⟨v, e, r⟩ := z; exact ⟨v, e, dp_mono (frz_b o) _ _ r⟩
    | ow es => obtain ⟨b, e, r, n⟩ := z; exact ⟨b, e, o.frz r (fun z => nomatch z), n⟩
    | ln es => obtain ⟨b, e, r, n⟩ := z; exact ⟨b, e, o.frz r (fun z => nomatch z), n⟩
    | sc ns => obtain ⟨b, e, r⟩ := z; exact ⟨b, e, (frz_b o).seq r⟩
    | ob pp => obtain ⟨b, e, r, n⟩ := z; exact ⟨b, e, o.frzO r (fun z => nomatch z), n⟩
    | li R => obtain ⟨b, e, r⟩ := z; exact ⟨b, e, o.frzL r (fun z => nomatch z)⟩
  · cases t with
    | dt d => exact dp_mono (frz_b o) _ _ z
    | fr es => obtain ⟨b, e, r, n⟩ := z; exact ⟨b, e, o.frz r (fun z => absurd (Sum.inr.inj z) (Nat.ne_of_lt hk)), n⟩
    | br j => exact z
    | sc ns => obtain ⟨b, e, r⟩ := z; exact ⟨b, e, (frz_b o).seq r⟩
    | ob pp => obtain ⟨b, e, r, n⟩ := z; exact ⟨b, e, o.frzO r (fun z => absurd (Sum.inr.inj z) (Nat.ne_of_lt hk)), n⟩
    | li R => obtain ⟨b, e, r⟩ := z; exact ⟨b, e, o.frzL r (fun z => absurd (Sum.inr.inj z) (Nat.ne_of_lt hk))⟩
/-- .. the list in slot i -/
theorem Env.frzSlot {ds : List Dat} {i : Nat} (E : Env K L S0 Γ Θ σ τ S) (hi : Γ[i]? = some (.ow ds)) : ∃ S', S'.h = S.h ∧ Env K L S0 (Γ.set i (.dt (.list ds))) Θ σ τ S' := by
  obtain ⟨w, h1, h2⟩ := E.ok
  obtain ⟨a, ei, o, n0⟩ := h1 i _ hi
  obtain ⟨nb, ea, vs, q, p⟩ := id o
  refine ⟨⟨upd S.b a (.lst vs), S.h⟩, rfl, gr_frz E.gr o n0, sub_frz E.sub q, by rw [List.length_set]; exact E.len, w, fun j c e => ?_, h2.imp fun k u t hk z => ?_⟩
  · by_cases hj : i = j
    · subst hj
      rw [List.getElem?_set_self (List.getElem?_eq_some_iff.mp hi).1] at e
      cases e
      exact ⟨_, ei, .lst upd_same (dpa_mono (frz_b o) _ _ p)⟩
    · rw [List.getElem?_set_ne hj] at e
      have z := h1 j c e
      cases c with
      | no => trivial
      | dt d => obtain ⟨v, e, r⟩ := z; exact ⟨v, e, dp_mono (frz_b o) _ _ r⟩
      | ow es => obtain ⟨b, e, r, n⟩ := z; exact ⟨b, e, o.frz r (fun z => hj (Sum.inl.inj z).symm), n⟩
      | ln es => obtain ⟨b, e, r, n⟩ := z; exact ⟨b, e, o.frz r (fun z => hj (Sum.inl.inj z).symm), n⟩
      | sc ns => obtain ⟨b, e, r⟩ := z; exact ⟨b, e, (frz_b o).seq r⟩
      | ob pp => obtain ⟨b, e, r, n⟩ := z; exact ⟨b, e, o.frzO r (fun z => hj (Sum.inl.inj z).symm), n⟩
      | li R => obtain ⟨b, e, r⟩ := z; exact ⟨b, e, o.frzL r (fun z => hj (Sum.inl.inj z).symm)⟩
  · cases t with
    | dt d => exact dp_mono (frz_b o) _ _ z
    | fr es => obtain ⟨b, e, r, n⟩ := z; exact ⟨b, e, o.frz r (fun z => nomatch z), n⟩
    | br j => exact z
    | sc ns => obtain ⟨b, e, r⟩ := z; exact ⟨b, e, (frz_b o).seq r⟩
    | ob pp => obtain ⟨b, e, r, n⟩ := z; exact ⟨b, e, o.frzO r (fun z => nomatch z), n⟩
    | li R => obtain ⟨b, e, r⟩ := z; exact ⟨b, e, o.frzL r (fun z => nomatch z)⟩
/-- a slot is stored: a new list -/
theorem Env.setFr {ds : List Dat} {v : V} {i : Nat} (E : Env K L S0 Γ (.fr ds :: Θ) σ (v :: τ) S) (hb : ∀ t ∈ Θ, t ≠ .br i) : Env K L S0 (Γ.set i (.ow ds)) Θ (σ.set i (some v)) τ S := by
  obtain ⟨w, h1, ⟨a, rfl, o, n0⟩, h2⟩ := E.ok
  have re : ∀ {k : Sum Nat Nat} {b : Addr} {es : List Dat}, Own w k S b es → k ≠ .inr Θ.length → Own (fun c => if c = a then some (.inl i) else w c) k S b es := fun {k b es} r n =>
    ⟨r.nb, by show (if b = a then some (Sum.inl i) else w b) = some k; rw [if_neg (r.apart o n)]; exact r.at_, r.is⟩
  have reO : ∀ {k : Sum Nat Nat} {b : Addr} {es : HO}, OwnO w k S b es → k ≠ .inr Θ.length → OwnO (fun c => if c = a then some (.inl i) else w c) k S b es := fun {k b es} r n =>
    ⟨r.nb, by show (if b = a then some (Sum.inl i) else w b) = some k; rw [if_neg (o.apartO r n.symm).symm]; exact r.at_, r.is⟩
  have reL : ∀ {k : Sum Nat Nat} {b : Addr} {R : Res} {N : Addr → Prop}, OwnL w k S b R N → k ≠ .inr Θ.length → OwnL (fun c => if c = a then some (.inl i) else w c) k S b R N := fun {k b R N} r n =>
    r.reK (fun x hx => by show (if x = a then some (Sum.inl i) else w x) = some k; rw [if_neg (fun e => n (by rw [e, o.at_] at hx; exact (Option.some.inj hx).symm))]; exact hx) fun _ h => h
  refine ⟨E.gr, E.sub, by rw [List.length_set, List.length_set]; exact E.len, fun c => if c = a then some (.inl i) else w c, fun j c e => ?_, h2.imp' fun k u t hk hm z => ?_⟩
  · by_cases hj : i = j
    · subst hj
      have hi : i < Γ.length := by
        have := (List.getElem?_eq_some_iff.mp e).1
        rw [List.length_set] at this; exact this
      rw [List.getElem?_set_self hi] at e
      cases e
      exact ⟨a, List.getElem?_set_self (by rw [E.len]; exact hi), ⟨o.nb, if_pos rfl, o.is⟩, n0⟩
    · rw [List.getElem?_set_ne hj] at e
      rw [List.getElem?_set_ne hj]
      have z := h1 j c e
      cases c with
      | no => trivial
      | dt d => exact z
      | ow es => obtain ⟨b, e, r, n⟩ := z; exact ⟨b, e, re r (fun z => nomatch z), n⟩
      | ln es => obtain ⟨b, e, r, n⟩ := z; exact ⟨b, e, re r (fun z => nomatch z), n⟩
      | sc ns => exact z
      | ob pp => obtain ⟨b, e, r, n⟩ := z; exact ⟨b, e, reO r (fun z => nomatch z), n⟩
      | li R => obtain ⟨b, e, r⟩ := z; exact ⟨b, e, reL r (fun z => nomatch z)⟩
  · cases t with
    | dt d => exact z
    | fr es => obtain ⟨b, e, r, n⟩ := z; exact ⟨b, e, re r (fun z => absurd (Sum.inr.inj z) (Nat.ne_of_lt hk)), n⟩
    | sc ns => exact z
    | ob pp => obtain ⟨b, e, r, n⟩ := z; exact ⟨b, e, reO r (fun z => absurd (Sum.inr.inj z) (Nat.ne_of_lt hk)), n⟩
    | li R => obtain ⟨b, e, r⟩ := z; exact ⟨b, e, reL r (fun z => absurd (Sum.inr.inj z) (Nat.ne_of_lt hk))⟩
    | br j =>
      show (σ.set i (some (V.ref a)))[j]? = some (some u)
      have hij : i ≠ j := fun z => hb _ hm (by rw [z])
      rw [List.getElem?_set_ne hij]; exact z
/-- .. a new object -/
theorem Env.setOb {ds : HO} {v : V} {i : Nat} (E : Env K L S0 Γ (.ob ds :: Θ) σ (v :: τ) S) (hb : ∀ t ∈ Θ, t ≠ .br i) : Env K L S0 (Γ.set i (.ob ds)) Θ (σ.set i (some v)) τ S := by
  obtain ⟨w, h1, ⟨a, rfl, o, n0⟩, h2⟩ := E.ok
  have re : ∀ {k : Sum Nat Nat} {b : Addr} {es : List Dat}, Own w k S b es → k ≠ .inr Θ.length → Own (fun c => if c = a then some (.inl i) else w c) k S b es := fun {k b es} r n =>
    ⟨r.nb, by show (if b = a then some (Sum.inl i) else w b) = some k; rw [if_neg (r.apartO o n)]; exact r.at_, r.is⟩
  have reO : ∀ {k : Sum Nat Nat} {b : Addr} {es : HO}, OwnO w k S b es → k ≠ .inr Θ.length → OwnO (fun c => if c = a then some (.inl i) else w c) k S b es := fun {k b es} r n =>
    ⟨r.nb, by show (if b = a then some (Sum.inl i) else w b) = some k; rw [if_neg (r.apart o n)]; exact r.at_, r.is⟩
  have reL : ∀ {k : Sum Nat Nat} {b : Addr} {R : Res} {N : Addr → Prop}, OwnL w k S b R N → k ≠ .inr Θ.length → OwnL (fun c => if c = a then some (.inl i) else w c) k S b R N := fun {k b R N} r n =>
    r.reK (fun x hx => by show (if x = a then some (Sum.inl i) else w x) = some k; rw [if_neg (fun e => n (by rw [e, o.at_] at hx; exact (Option.some.inj hx).symm))]; exact hx) fun _ h => h
  refine ⟨E.gr, E.sub, by rw [List.length_set, List.length_set]; exact E.len, fun c => if c = a then some (.inl i) else w c, fun j c e => ?_, h2.imp' fun k u t hk hm z => ?_⟩
  · by_cases hj : i = j
    · subst hj
      have hi : i < Γ.length := by
        have := (List.getElem?_eq_some_iff.mp e).1
        rw [List.length_set] at this; exact this
      rw [List.getElem?_set_self hi] at e
      cases e
      exact ⟨a, List.getElem?_set_self (by rw [E.len]; exact hi), ⟨o.nb, if_pos rfl, o.is⟩, n0⟩
    · rw [List.getElem?_set_ne hj] at e
      rw [List.getElem?_set_ne hj]
      have z := h1 j c e
      cases c with
      | no => trivial
      | dt d => exact z
      | ow es => obtain ⟨b, e, r, n⟩ := z; exact ⟨b, e, re r (fun z => nomatch z), n⟩
      | ln es => obtain ⟨b, e, r, n⟩ := z; exact ⟨b, e, re r (fun z => nomatch z), n⟩
      | sc ns => exact z
      | ob pp => obtain ⟨b, e, r, n⟩ := z; exact ⟨b, e, reO r (fun z => nomatch z), n⟩
      | li R => obtain ⟨b, e, r⟩ := z; exact ⟨b, e, reL r (fun z => nomatch z)⟩
  · cases t with
    | dt d => exact z
    | fr es => obtain ⟨b, e, r, n⟩ := z; exact ⟨b, e, re r (fun z => absurd (Sum.inr.inj z) (Nat.ne_of_lt hk)), n⟩
    | sc ns => exact z
    | ob pp => obtain ⟨b, e, r, n⟩ := z; exact ⟨b, e, reO r (fun z => absurd (Sum.inr.inj z) (Nat.ne_of_lt hk)), n⟩
    | li R => obtain ⟨b, e, r⟩ := z; exact ⟨b, e, reL r (fun z => absurd (Sum.inr.inj z) (Nat.ne_of_lt hk))⟩
    | br j =>
      show (σ.set i (some (V.ref a)))[j]? = some (some u)
      have hij : i ≠ j := fun z => hb _ hm (by rw [z])
      rw [List.getElem?_set_ne hij]; exact z
/-- .. a new resource -/
theorem Env.setLi {R : Res} {v : V} {i : Nat} (E : Env K L S0 Γ (.li R :: Θ) σ (v :: τ) S) (hb : ∀ t ∈ Θ, t ≠ .br i) : Env K L S0 (Γ.set i (.li R)) Θ (σ.set i (some v)) τ S := by
  classical
  obtain ⟨w, h1, ⟨a, rfl, o⟩, h2⟩ := E.ok
  let w' : Wh := fun c => if w c = some (.inr Θ.length) then some (.inl i) else w c
  have re : ∀ {k : Sum Nat Nat} {x : Addr}, w x = some k → k ≠ .inr Θ.length → w' x = some k := fun {k x} e n => by
    show (if w x = some (.inr Θ.length) then some (.inl i) else w x) = some k
    rw [if_neg (fun z => n (by rw [e] at z; exact Option.some.inj z))]; exact e
  refine ⟨E.gr, E.sub, by rw [List.length_set, List.length_set]; exact E.len, w', fun j c e => ?_, h2.imp' fun k u t hk hm z => ?_⟩
  · by_cases hj : i = j
    · subst hj
      have hi : i < Γ.length := by
        have := (List.getElem?_eq_some_iff.mp e).1
        rw [List.length_set] at this; exact this
      rw [List.getElem?_set_self hi] at e
      cases e
      exact ⟨a, List.getElem?_set_self (by rw [E.len]; exact hi), o.reK (fun x hx => if_pos hx) fun x hx => .inl hx⟩
    · rw [List.getElem?_set_ne hj] at e
      rw [List.getElem?_set_ne hj]
      have z := h1 j c e
      cases c with
      | no => trivial
      | dt d => exact z
      | ow es => obtain ⟨b, e, r, n⟩ := z; exact ⟨b, e, ⟨r.nb, re r.at_ (fun z => nomatch z), r.is⟩, n⟩
      | ln es => obtain ⟨b, e, r, n⟩ := z; exact ⟨b, e, ⟨r.nb, re r.at_ (fun z => nomatch z), r.is⟩, n⟩
      | sc ns => exact z
      | ob pp => obtain ⟨b, e, r, n⟩ := z; exact ⟨b, e, ⟨r.nb, re r.at_ (fun z => nomatch z), r.is⟩, n⟩
      | li R => obtain ⟨b, e, r⟩ := z; exact ⟨b, e, r.reK (fun x hx => re hx (fun z => nomatch z)) fun _ h => h⟩
  · have nk : ∀ {k : Nat}, k < Θ.length → (Sum.inr k : Sum Nat Nat) ≠ .inr Θ.length := fun hk z => absurd (Sum.inr.inj z) (Nat.ne_of_lt hk)
    cases t with
    | dt d => exact z
    | fr es => obtain ⟨b, e, r, n⟩ := z; exact ⟨b, e, ⟨r.nb, re r.at_ (nk hk), r.is⟩, n⟩
    | sc ns => exact z
    | ob pp => obtain ⟨b, e, r, n⟩ := z; exact ⟨b, e, ⟨r.nb, re r.at_ (nk hk), r.is⟩, n⟩
    | li R => obtain ⟨b, e, r⟩ := z; exact ⟨b, e, r.reK (fun x hx => re hx (nk hk)) fun _ h => h⟩
    | br j =>
      show (σ.set i (some (V.ref a)))[j]? = some (some u)
      have hij : i ≠ j := fun z => hb _ hm (by rw [z])
      rw [List.getElem?_set_ne hij]; exact z
theorem Own.mut {k k' : Sum Nat Nat} {a a' : Addr} {ds ds' : List Dat} {o : HO} (h : Own w k S a ds) (h' : Own w k' S a' ds') (n : k' ≠ k) : Own w k' ⟨S.b, upd S.h a o⟩ a' ds' := by
  have ne : a' ≠ a := h'.apart h n
  obtain ⟨nb, e, us, q, p⟩ := h'
  exact ⟨nb, e, us, by show upd S.h a o a' = _; rw [upd_ne ne]; exact q, p⟩
theorem sub_mut {a : Addr} {o : HO} (s : Same S.b S.h) (nb : S.b a = none) : Same S.b (upd S.h a o) := fun c u e => by
  rw [upd_ne (ne_of_none e nb)]; exact s c u e
/-- the list in slot i is changed -/
theorem Env.mutSlot {c : Cell} {ds : List Dat} {i : Nat} (E : Env K L S0 Γ Θ σ τ S) (hi : Γ[i]? = some c) (hc : c.ls = some ds) :
    ∃ a vs, σ[i]? = some (some (.ref a)) ∧ S.h a = some (.lst vs) ∧ DqAll S.b vs ds ∧ ∀ vs' ds', DqAll S.b vs' ds' → Env K L S0 (Γ.set i (c.put ds')) Θ σ τ ⟨S.b, upd S.h a (.lst vs')⟩ := by
  obtain ⟨w, h1, h2⟩ := E.ok
  have hil := (List.getElem?_eq_some_iff.mp hi).1
  obtain ⟨a, ei, o, n0⟩ : ∃ a, σ[i]? = some (some (.ref a)) ∧ Own w (.inl i) S a ds ∧ (S0.h a = none ∨ L a) := by
    have z := h1 i c hi
    cases c with
    | no => cases hc
    | dt d => cases hc
    | ow es => cases hc; obtain ⟨a, e, r, n⟩ := z; exact ⟨a, e, r, .inl n⟩
    | ln es => cases hc; obtain ⟨a, e, r, n⟩ := z; exact ⟨a, e, r, .inr n⟩
    | sc ns => cases hc
    | ob pp => cases hc
    | li R => cases hc
  obtain ⟨nb, ea, vs, q, p⟩ := id o
  refine ⟨a, vs, ei, q, p, fun vs' ds' p' => ⟨⟨E.gr.b, fun b u n e => ?_, E.gr.own, fun b n => ?_⟩, sub_mut E.sub nb, by rw [List.length_set]; exact E.len, w, fun j c' e => ?_, h2.imp fun k u t hk z => ?_⟩⟩
  · show upd S.h a (.lst vs') b = some u
    have ne : b ≠ a := fun z => by
      subst z
      rcases n0 with z | z
      · rw [z] at e; cases e
      · exact n z
    rw [upd_ne ne]; exact E.gr.h b u n e
  · show upd S.h a (.lst vs') b ≠ none
    by_cases z : b = a
    · rw [z, upd_same]; exact fun z => nomatch z
    · rw [upd_ne z]; exact E.gr.dom b n
  · by_cases hj : i = j
    · subst hj
      rw [List.getElem?_set_self hil] at e
      have ow' : Own w (.inl i) ⟨S.b, upd S.h a (.lst vs')⟩ a ds' := ⟨nb, ea, vs', upd_same, p'⟩
      have z := h1 i c hi
      cases c with
      | no => cases hc
      | dt d => cases hc
      | ow es => cases e; obtain ⟨b, e, r, n⟩ := z; rw [ei] at e; cases e; exact ⟨_, ei, ow', n⟩
      | ln es => cases e; obtain ⟨b, e, r, n⟩ := z; rw [ei] at e; cases e; exact ⟨_, ei, ow', n⟩
      | sc ns => cases hc
      | ob pp => cases hc
      | li R => cases hc
    · rw [List.getElem?_set_ne hj] at e
      have z := h1 j c' e
      cases c' with
      | no => trivial
      | dt d => exact z
      | ow es => obtain ⟨b, e, r, n⟩ := z; exact ⟨b, e, o.mut r (fun z => hj (Sum.inl.inj z).symm), n⟩
      | ln es => obtain ⟨b, e, r, n⟩ := z; exact ⟨b, e, o.mut r (fun z => hj (Sum.inl.inj z).symm), n⟩
      | sc ns => exact z
      | ob pp => obtain ⟨b, e, r, n⟩ := z; exact ⟨b, e, o.mutO r (fun z => hj (Sum.inl.inj z).symm), n⟩
      | li R => obtain ⟨b, e, r⟩ := z; exact ⟨b, e, o.mutL r (fun z => hj (Sum.inl.inj z).symm)⟩
  · cases t with
    | dt d => exact z
    | fr es => obtain ⟨b, e, r, n⟩ := z; exact ⟨b, e, o.mut r (fun z => nomatch z), n⟩
    | br j => exact z
    | sc ns => exact z
    | ob pp => obtain ⟨b, e, r, n⟩ := z; exact ⟨b, e, o.mutO r (fun z => nomatch z), n⟩
    | li R => obtain ⟨b, e, r⟩ := z; exact ⟨b, e, o.mutL r (fun z => nomatch z)⟩
theorem OwnO.mut {k k' : Sum Nat Nat} {a a' : Addr} {ds' : List Dat} {p o : HO} (h : OwnO w k S a p) (h' : Own w k' S a' ds') (n : k' ≠ k) : Own w k' ⟨S.b, upd S.h a o⟩ a' ds' := by
  have ne : a' ≠ a := h'.apartO h n
  obtain ⟨nb, e, us, q, p⟩ := h'
  exact ⟨nb, e, us, by show upd S.h a o a' = _; rw [upd_ne ne]; exact q, p⟩
theorem OwnO.mutO {k k' : Sum Nat Nat} {a a' : Addr} {p p' o : HO} (h : OwnO w k S a p) (h' : OwnO w k' S a' p') (n : k' ≠ k) : OwnO w k' ⟨S.b, upd S.h a o⟩ a' p' := by
  have ne : a' ≠ a := h'.apart h n
  obtain ⟨nb, e, q⟩ := h'
  exact ⟨nb, e, by show upd S.h a o a' = _; rw [upd_ne ne]; exact q⟩
/-- the object in slot i is changed -/
theorem Env.mutOb {p : HO} {i : Nat} (E : Env K L S0 Γ Θ σ τ S) (hi : Γ[i]? = some (.ob p)) :
    ∃ a, σ[i]? = some (some (.ref a)) ∧ S.h a = some p ∧ ∀ p', Env K L S0 (Γ.set i (.ob p')) Θ σ τ ⟨S.b, upd S.h a p'⟩ := by
  obtain ⟨w, h1, h2⟩ := E.ok
  have hil := (List.getElem?_eq_some_iff.mp hi).1
  obtain ⟨a, ei, o, n0⟩ := h1 i _ hi
  obtain ⟨nb, ea, q⟩ := id o
  refine ⟨a, ei, q, fun p' => ⟨⟨E.gr.b, fun b u n e => ?_, E.gr.own, fun b n => ?_⟩, sub_mut E.sub nb, by rw [List.length_set]; exact E.len, w, fun j c' e => ?_, h2.imp fun k u t hk z => ?_⟩⟩
  · show upd S.h a p' b = some u
    rw [upd_ne (ne_of_none e n0)]; exact E.gr.h b u n e
  · show upd S.h a p' b ≠ none
    by_cases z : b = a
    · rw [z, upd_same]; exact fun z => nomatch z
    · rw [upd_ne z]; exact E.gr.dom b n
  · by_cases hj : i = j
    · subst hj
      rw [List.getElem?_set_self hil] at e
      cases e
      exact ⟨a, ei, ⟨nb, ea, upd_same⟩, n0⟩
    · rw [List.getElem?_set_ne hj] at e
      have z := h1 j c' e
      cases c' with
      | no => trivial
      | dt d => exact z
      | ow es => obtain ⟨b, e, r, n⟩ := z; exact ⟨b, e, o.mut r (fun z => hj (Sum.inl.inj z).symm), n⟩
      | ln es => obtain ⟨b, e, r, n⟩ := z; exact ⟨b, e, o.mut r (fun z => hj (Sum.inl.inj z).symm), n⟩
      | sc ns => exact z
      | ob es => obtain ⟨b, e, r, n⟩ := z; exact ⟨b, e, o.mutO r (fun z => hj (Sum.inl.inj z).symm), n⟩
      | li R => obtain ⟨b, e, r⟩ := z; exact ⟨b, e, o.mutL r (fun z => hj (Sum.inl.inj z).symm)⟩
  · cases t with
    | dt d => exact z
    | fr es => obtain ⟨b, e, r, n⟩ := z; exact ⟨b, e, o.mut r (fun z => nomatch z), n⟩
    | br j => exact z
    | sc ns => exact z
    | ob es => obtain ⟨b, e, r, n⟩ := z; exact ⟨b, e, o.mutO r (fun z => nomatch z), n⟩
    | li R => obtain ⟨b, e, r⟩ := z; exact ⟨b, e, o.mutL r (fun z => nomatch z)⟩
theorem Env.ob_at {p : HO} {i : Nat} {v : V} (E : Env K L S0 Γ (.br i :: Θ) σ (v :: τ) S) (hi : Γ[i]? = some (.ob p)) : ∃ a, v = .ref a ∧ S.h a = some p := by
  obtain ⟨w, h1, z, h2⟩ := E.ok
  obtain ⟨a, e, o, n⟩ := h1 i _ hi
  have z' : σ[i]? = some (some v) := z
  rw [z'] at e; cases e
  exact ⟨a, rfl, o.is⟩
/-- the new list under way is changed -/
theorem Env.mutTop {ds : List Dat} {v : V} (E : Env K L S0 Γ (.fr ds :: Θ) σ (v :: τ) S) :
    ∃ a vs, v = .ref a ∧ S.h a = some (.lst vs) ∧ DqAll S.b vs ds ∧ ∀ vs' ds', DqAll S.b vs' ds' → Env K L S0 Γ (.fr ds' :: Θ) σ (v :: τ) ⟨S.b, upd S.h a (.lst vs')⟩ := by
  obtain ⟨w, h1, ⟨a, rfl, o, n0⟩, h2⟩ := E.ok
  obtain ⟨nb, ea, vs, q, p⟩ := id o
  refine ⟨a, vs, rfl, q, p, fun vs' ds' p' => ⟨⟨E.gr.b, fun b u n e => ?_, E.gr.own, fun b n => ?_⟩, sub_mut E.sub nb, E.len, w, fun j c' e => ?_, ⟨a, rfl, ⟨nb, ea, vs', upd_same, p'⟩, n0⟩, h2.imp fun k u t hk z => ?_⟩⟩
  · show upd S.h a (.lst vs') b = some u
    rw [upd_ne (ne_of_none e n0)]; exact E.gr.h b u n e
  · show upd S.h a (.lst vs') b ≠ none
    by_cases z : b = a
    · rw [z, upd_same]; exact fun z => nomatch z
    · rw [upd_ne z]; exact E.gr.dom b n
  · have z := h1 j c' e
    cases c' with
    | no => trivial
    | dt d => exact z
    | ow es => obtain ⟨b, e, r, n⟩ := z; exact ⟨b, e, o.mut r (fun z => nomatch z), n⟩
    | ln es => obtain ⟨b, e, r, n⟩ := z; exact ⟨b, e, o.mut r (fun z => nomatch z), n⟩
    | sc ns => exact z
    | ob pp => obtain ⟨b, e, r, n⟩ := z; exact ⟨b, e, o.mutO r (fun z => nomatch z), n⟩
    | li R => obtain ⟨b, e, r⟩ := z; exact ⟨b, e, o.mutL r (fun z => nomatch z)⟩
  · cases t with
    | dt d => exact z
    | fr es => obtain ⟨b, e, r, n⟩ := z; exact ⟨b, e, o.mut r (fun z => absurd (Sum.inr.inj z) (Nat.ne_of_lt hk)), n⟩
    | br j => exact z
    | sc ns => exact z
    | ob pp => obtain ⟨b, e, r, n⟩ := z; exact ⟨b, e, o.mutO r (fun z => absurd (Sum.inr.inj z) (Nat.ne_of_lt hk)), n⟩
    | li R => obtain ⟨b, e, r⟩ := z; exact ⟨b, e, o.mutL r (fun z => absurd (Sum.inr.inj z) (Nat.ne_of_lt hk))⟩
end
/-! ### a value under way, read as data -/
def rd (Γ : List Cell) : Tmp → Dat → Prop
  | .dt e, d => e = d
  | .fr ds, d => d = .list ds
  | .br i, d => Γ[i]? = some (.dt d) ∨ ∃ ds, d = .list ds ∧ (Γ[i]? = some (.ow ds) ∨ Γ[i]? = some (.ln ds))
  | .sc _, _ => False
  | .ob _, _ => False
  | .li _, _ => False
section
variable {K : PySem.W.Frag} {L : Addr → Prop} {S0 S S' : Hs} {Γ : List Cell} {Θ : List Tmp} {σ : L2.St} {τ : List V} {w : Wh}
theorem Own.dp {k : Sum Nat Nat} {a : Addr} {ds : List Dat} (h : Own w k S a ds) (sub : Same S.b S.h) : Dq S.h (.ref a) (.list ds) := by
  obtain ⟨_, _, vs, q, p⟩ := h
  exact .lst q (dpa_mono sub _ _ p)
theorem Env.rd {t : Tmp} {v : V} {d : Dat} (E : Env K L S0 Γ (t :: Θ) σ (v :: τ) S) (h : rd Γ t d) : Dq S.h v d := by
  obtain ⟨w, h1, z, h2⟩ := E.ok
  cases t with
  | dt e => cases h; exact dp_mono E.sub _ _ z
  | fr ds => cases h; obtain ⟨a, rfl, o, n⟩ := z; exact o.dp E.sub
  | sc ns => exact h.elim
  | ob pp => exact h.elim
  | li R => exact h.elim
  | br i =>
    have z' : σ[i]? = some (some v) := z
    rcases h with h | ⟨ds, rfl, h⟩
    · obtain ⟨u, e, q⟩ := h1 i _ h
      rw [z'] at e; cases e
      exact dp_mono E.sub _ _ q
    · rcases h with h | h
      · obtain ⟨a, e, o, _⟩ := h1 i _ h
        rw [z'] at e; cases e
        exact o.dp E.sub
      · obtain ⟨a, e, o, _⟩ := h1 i _ h
        rw [z'] at e; cases e
        exact o.dp E.sub
theorem Env.dt {v : V} {d : Dat} (E : Env K L S0 Γ (.dt d :: Θ) σ (v :: τ) S) : Dq S.b v d := let ⟨_, z⟩ := E.top; z
end
theorem dp_int {H : Hp} {v : V} {i : Int} (h : Dq H v (.int i)) : v = .int i := by cases h; rfl
theorem dp_bool {H : Hp} {v : V} {i : Bool} (h : Dq H v (.bool i)) : v = .bl i := by cases h; rfl
theorem dp_none {H : Hp} {v : V} (h : Dq H v .none) : v = .non := by cases h; rfl
theorem dp_str {H : Hp} {v : V} {x : Str} (h : Dq H v (.str x)) : v = .str x := by cases h; rfl
theorem dp_list {H : Hp} {v : V} {ds : List Dat} (h : Dq H v (.list ds)) : ∃ a xs, v = .ref a ∧ H a = some (.lst xs) ∧ DqAll H xs ds := by cases h with | lst a b => exact ⟨_, _, rfl, a, b⟩
theorem dp_tup {H : Hp} {v : V} {ds : List Dat} (h : Dq H v (.tuple ds)) : ∃ a o xs, v = .ref a ∧ o.dict = none ∧ H a = some (.frz o (.tup xs)) ∧ DqAll H xs ds := by cases h with | tup d a b => exact ⟨_, _, _, rfl, d, a, b⟩
/-! ### judgements over the cells -/
section
variable (K : PySem.W.Frag) (Γ : List Cell) (Θ : List Tmp)
def VE (t : TE) (Q : List Cell → Tmp → Prop) : Prop := ∀ (L : Addr → Prop) (S0 : Hs) (σ : L2.St) (τ : List V) (S : Hs) (Qv : VK), Env K L S0 Γ Θ σ τ S →
  (∀ Γ' S' v c, Env K L S0 Γ' (c :: Θ) σ (v :: τ) S' → Q Γ' c → Qv v S'.h) → t σ S.h Qv
/-- .. with data at the end -/
def VD (t : TE) (Q : List Cell → Dat → Prop) : Prop := ∀ (L : Addr → Prop) (S0 : Hs) (σ : L2.St) (τ : List V) (S : Hs) (Qv : VK), Env K L S0 Γ Θ σ τ S →
  (∀ Γ' S' v d, Env K L S0 Γ' (.dt d :: Θ) σ (v :: τ) S' → Q Γ' d → Qv v S'.h) → t σ S.h Qv
def VT (t : TT) (Q : List Cell → Bool → Prop) : Prop := ∀ (L : Addr → Prop) (S0 : Hs) (σ : L2.St) (τ : List V) (S : Hs) (Qv : Bool → Hp → Prop), Env K L S0 Γ Θ σ τ S →
  (∀ Γ' S' b, Env K L S0 Γ' Θ σ τ S' → Q Γ' b → Qv b S'.h) → t σ S.h Qv
/-- a part of a slice -/
def VO (t : TO) (Q : List Cell → Option Int → Prop) : Prop := ∀ (L : Addr → Prop) (S0 : Hs) (σ : L2.St) (τ : List V) (S : Hs) (Qv : Option Int → Hp → Prop), Env K L S0 Γ Θ σ τ S →
  (∀ Γ' S' b, Env K L S0 Γ' Θ σ τ S' → Q Γ' b → Qv b S'.h) → t σ S.h Qv
structure DE where
  nx : List Cell → Prop
  rt : List Cell → Dat → Prop
  bk : List Cell → Prop := fun _ => False
  ct : List Cell → Prop := fun _ => False
def VS (t : TS) (R : DE) : Prop := ∀ (L : Addr → Prop) (S0 : Hs) (σ : L2.St) (τ : List V) (S : Hs) (D : Ends), Env K L S0 Γ Θ σ τ S →
  (∀ Γ' σ' S', Env K L S0 Γ' Θ σ' τ S' → R.nx Γ' → D.nx σ' S'.h) → (∀ Γ' σ' S' v d, Env K L S0 Γ' Θ σ' τ S' → Dq S'.b v d → R.rt Γ' d → D.rt v S'.h) →
  (∀ Γ' σ' S', Env K L S0 Γ' Θ σ' τ S' → R.bk Γ' → D.bk σ' S'.h) → (∀ Γ' σ' S', Env K L S0 Γ' Θ σ' τ S' → R.ct Γ' → D.ct σ' S'.h) → t D σ S.h
end
/-- what is under way becomes data -/
def Fz (Γ : List Cell) (Q : List Cell → Dat → Prop) : Tmp → Prop
  | .dt d => Q Γ d
  | .fr ds => Q Γ (.list ds)
  | .br i => ∃ ds, Γ[i]? = some (.ow ds) ∧ Q (Γ.set i (.dt (.list ds))) (.list ds)
  | .sc _ => False
  | .ob _ => False
  | .li _ => False
section
variable {K : PySem.W.Frag} {Γ : List Cell} {Θ : List Tmp}
theorem vd_of {t : TE} {Q : List Cell → Dat → Prop} (h : VE K Γ Θ t fun Γ1 c => Fz Γ1 Q c) : VD K Γ Θ t Q := fun L S0 σ τ S Qv E q => h L S0 σ τ S Qv E fun Γ' S' v c E' z => by
  cases c with
  | dt d => exact q Γ' S' v d E' z
  | fr ds =>
    obtain ⟨S2, e, E2⟩ := E'.frzTop
    rw [← e]
    exact q Γ' S2 v _ E2 z
  | br i =>
    obtain ⟨ds, hi, z⟩ := z
    obtain ⟨S2, e, E2⟩ := E'.frzSlot hi
    rw [← e]
    obtain ⟨w, h1, z2, h2⟩ := id E2.ok
    have hl := (List.getElem?_eq_some_iff.mp hi).1
    obtain ⟨u, eu, qu⟩ := h1 i _ (List.getElem?_set_self hl)
    have z2' : σ[i]? = some (some v) := z2
    rw [z2'] at eu; cases eu
    exact q _ S2 v _ (E2.pop.push qu) z
  | sc ns => exact z.elim
  | ob pp => exact z.elim
  | li R => exact z.elim
theorem ve_mono {t : TE} {Q Q' : List Cell → Tmp → Prop} (h : VE K Γ Θ t Q) (f : ∀ Γ c, Q Γ c → Q' Γ c) : VE K Γ Θ t Q' := fun L S0 σ τ S Qv E q => h L S0 σ τ S Qv E fun Γ' S' v c E' z => q Γ' S' v c E' (f _ _ z)
/-! names, constants -/
theorem ve_var {i : Nat} {d : Dat} {Q : List Cell → Tmp → Prop} (h : Γ[i]? = some (.dt d)) (q : Q Γ (.dt d)) : VE K Γ Θ (tVar i) Q := fun L S0 σ τ S Qv E k => by
  obtain ⟨w, h1, h2⟩ := id E.ok
  obtain ⟨v, e, p⟩ := h1 i _ h
  exact ⟨v, e, k Γ S v _ (E.push p) q⟩
theorem ve_own {i : Nat} {c : Cell} {ds : List Dat} {Q : List Cell → Tmp → Prop} (h : Γ[i]? = some c) (hc : c.ls = some ds) (q : Q Γ (.br i)) : VE K Γ Θ (tVar i) Q := fun L S0 σ τ S Qv E k => by
  obtain ⟨a, vs, e, _⟩ := E.mutSlot h hc
  exact ⟨_, e, k Γ S _ _ (E.pushBr e) q⟩
theorem ve_c {v : V} {Q : List Cell → Tmp → Prop} (hs : sc v = true) (q : Q Γ (.dt (vd v))) : VE K Γ Θ (tC v) Q := fun L S0 σ τ S Qv E k => k Γ S v _ (E.push (dp_sc hs)) q
theorem ve_int {i : Int} {Q : List Cell → Tmp → Prop} (q : Q Γ (.dt (.int i))) : VE K Γ Θ (tC (.int i)) Q := ve_c rfl q
theorem ve_bl {i : Bool} {Q : List Cell → Tmp → Prop} (q : Q Γ (.dt (.bool i))) : VE K Γ Θ (tC (.bl i)) Q := ve_c rfl q
theorem ve_non {Q : List Cell → Tmp → Prop} (q : Q Γ (.dt .none)) : VE K Γ Θ (tC .non) Q := ve_c rfl q
theorem ve_str {x : Str} {Q : List Cell → Tmp → Prop} (q : Q Γ (.dt (.str x))) : VE K Γ Θ (tC (.str x)) Q := ve_c rfl q
/-! operators by two values -/
def R2V (K : PySem.W.Frag) (r : R2) (Γ : List Cell) (Θ : List Tmp) (x y : Tmp) (Q : List Cell → Tmp → Prop) : Prop := ∀ (L : Addr → Prop) (S0 : Hs) (σ : L2.St) (τ : List V) (S : Hs) (vx vy : V) (Qv : VK), Env K L S0 Γ (y :: x :: Θ) σ (vy :: vx :: τ) S →
  (∀ Γ' S' v c, Env K L S0 Γ' (c :: Θ) σ (v :: τ) S' → Q Γ' c → Qv v S'.h) → r vx vy S.h Qv
theorem ve_op {r : R2} {ta tb : TE} {Q : List Cell → Tmp → Prop} (h : VE K Γ Θ ta fun Γ1 x => VE K Γ1 (x :: Θ) tb fun Γ2 y => R2V K r Γ2 Θ x y Q) : VE K Γ Θ (tOp r ta tb) Q := fun L S0 σ τ S Qv E k =>
  h L S0 σ τ S _ E fun Γ1 S1 vx x E1 h1 => h1 L S0 σ _ S1 _ E1 fun Γ2 S2 vy y E2 h2 => h2 L S0 σ τ S2 vx vy Qv E2 k
theorem r2_ii {f : Int → Int → Int} {i j : Int} {Q : List Cell → Tmp → Prop} (q : Q Γ (.dt (.int (f i j)))) : R2V K (rI0 fun i j => .int (f i j)) Γ Θ (.dt (.int i)) (.dt (.int j)) Q := fun L S0 σ τ S vx vy Qv E k =>
  ⟨i, j, dp_int E.pop.dt, dp_int E.dt, k Γ S _ _ (E.pop.pop.push (.int _)) q⟩
theorem r2_ib {f : Int → Int → Bool} {i j : Int} {Q : List Cell → Tmp → Prop} (q : Q Γ (.dt (.bool (f i j)))) : R2V K (rI0 fun i j => .bl (f i j)) Γ Θ (.dt (.int i)) (.dt (.int j)) Q := fun L S0 σ τ S vx vy Qv E k =>
  ⟨i, j, dp_int E.pop.dt, dp_int E.dt, k Γ S _ _ (E.pop.pop.push (.bl _)) q⟩
theorem r2_ic {C : Int → Int → Prop} {f : Int → Int → Int} {i j : Int} {Q : List Cell → Tmp → Prop} (hc : C i j) (q : Q Γ (.dt (.int (f i j)))) : R2V K (rI C fun i j => .int (f i j)) Γ Θ (.dt (.int i)) (.dt (.int j)) Q := fun L S0 σ τ S vx vy Qv E k =>
  ⟨i, j, dp_int E.pop.dt, dp_int E.dt, hc, k Γ S _ _ (E.pop.pop.push (.int _)) q⟩
theorem r2_eqD {x y : Tmp} {d e : Dat} {Q : List Cell → Tmp → Prop} (hx : rd Γ x d) (hy : rd Γ y e) (sd : SeqAt.shaped d = true) (se : SeqAt.shaped e = true) (q : Q Γ (.dt (.bool (PyData.eqv d e)))) : R2V K (rEqD K) Γ Θ x y Q := fun L S0 σ τ S vx vy Qv E k =>
  ⟨d, e, dq_dp _ _ (E.pop.rd hx), dq_dp _ _ (E.rd hy), sd, se, k Γ S _ _ (E.pop.pop.push (.bl _)) q⟩
theorem r2_neD {x y : Tmp} {d e : Dat} {Q : List Cell → Tmp → Prop} (hx : rd Γ x d) (hy : rd Γ y e) (sd : SeqAt.shaped d = true) (se : SeqAt.shaped e = true) (q : Q Γ (.dt (.bool (!PyData.eqv d e)))) : R2V K (rNeD K) Γ Θ x y Q := fun L S0 σ τ S vx vy Qv E k =>
  ⟨d, e, dq_dp _ _ (E.pop.rd hx), dq_dp _ _ (E.rd hy), sd, se, k Γ S _ _ (E.pop.pop.push (.bl _)) q⟩
end
end Ld
set_option Elab.async false
set_option linter.all false
set_option maxRecDepth 100000
namespace Ld
open PySem PySem.Spec PyProof.Rows L2 Lx
section
variable {K : PySem.W.Frag} {Γ : List Cell} {Θ : List Tmp}
/-! ### tests -/
theorem vt_mono {t : TT} {Q Q' : List Cell → Bool → Prop} (h : VT K Γ Θ t Q) (f : ∀ Γ b, Q Γ b → Q' Γ b) : VT K Γ Θ t Q' := fun L S0 σ τ S Qv E k => h L S0 σ τ S Qv E fun Γ' S' b E' q => k Γ' S' b E' (f _ _ q)
def AsB (Γ : List Cell) (Q : List Cell → Bool → Prop) : Tmp → Prop
  | .dt (.bool b) => Q Γ b
  | _ => False
theorem asB_ok {L : Addr → Prop} {S0 S : Hs} {σ : L2.St} {τ : List V} {v : V} {c : Tmp} {Q : List Cell → Bool → Prop} (E : Env K L S0 Γ (c :: Θ) σ (v :: τ) S) (h : AsB Γ Q c) : ∃ b, v = .bl b ∧ Q Γ b := by
  cases c with
  | dt d =>
    cases d with
    | bool b => exact ⟨b, dp_bool E.dt, h⟩
    | _ => exact h.elim
  | _ => exact h.elim
theorem vt_B {te : TE} {Q : List Cell → Bool → Prop} (h : VE K Γ Θ te fun Γ1 c => AsB Γ1 Q c) : VT K Γ Θ (tB te) Q := fun L S0 σ τ S Qv E k => h L S0 σ τ S _ E fun Γ' S' v c E' q => by
  obtain ⟨b, e, q⟩ := asB_ok E' q
  exact ⟨b, e, k _ _ _ E'.pop q⟩
theorem vt_test {te : TE} {Q : List Cell → Bool → Prop} (h : VE K Γ Θ te fun Γ1 c => AsB Γ1 Q c) : VT K Γ Θ (tTest te) Q := fun L S0 σ τ S Qv E k => h L S0 σ τ S _ E fun Γ' S' v c E' q => by
  obtain ⟨b, e, q⟩ := asB_ok E' q
  exact ⟨b, e, k _ _ _ E'.pop q⟩
theorem vt_and {t u : TT} {Q : List Cell → Bool → Prop} (h : VT K Γ Θ t fun Γ1 b => (b = true → VT K Γ1 Θ u Q) ∧ (b = false → Q Γ1 false)) : VT K Γ Θ (tAnd t u) Q := fun L S0 σ τ S Qv E k => h L S0 σ τ S _ E fun Γ' S' b E' q => by
  cases b with
  | true => rw [if_pos rfl]; exact q.1 rfl L S0 σ τ S' Qv E' k
  | false => rw [if_neg Bool.false_ne_true]; exact k _ _ _ E' (q.2 rfl)
theorem vt_or {t u : TT} {Q : List Cell → Bool → Prop} (h : VT K Γ Θ t fun Γ1 b => (b = true → Q Γ1 true) ∧ (b = false → VT K Γ1 Θ u Q)) : VT K Γ Θ (tOr t u) Q := fun L S0 σ τ S Qv E k => h L S0 σ τ S _ E fun Γ' S' b E' q => by
  cases b with
  | true => rw [if_pos rfl]; exact k _ _ _ E' (q.1 rfl)
  | false => rw [if_neg Bool.false_ne_true]; exact q.2 rfl L S0 σ τ S' Qv E' k
theorem vt_not {t : TT} {Q : List Cell → Bool → Prop} (h : VT K Γ Θ t fun Γ1 b => Q Γ1 (!b)) : VT K Γ Θ (tNot t) Q := fun L S0 σ τ S Qv E k => h L S0 σ τ S _ E fun Γ' S' b E' q => k _ _ _ E' q
theorem vt_yes {Q : List Cell → Bool → Prop} (h : Q Γ true) : VT K Γ Θ tYes Q := fun L S0 σ τ S Qv E k => k Γ S true E h
theorem ve_ifE {t : TT} {ta tb : TE} {Q : List Cell → Tmp → Prop} (h : VT K Γ Θ t fun Γ1 b => (b = true → VE K Γ1 Θ ta Q) ∧ (b = false → VE K Γ1 Θ tb Q)) : VE K Γ Θ (tIf t ta tb) Q := fun L S0 σ τ S Qv E k => h L S0 σ τ S _ E fun Γ' S' b E' q => by
  cases b with
  | true => rw [if_pos rfl]; exact q.1 rfl L S0 σ τ S' Qv E' k
  | false => rw [if_neg Bool.false_ne_true]; exact q.2 rfl L S0 σ τ S' Qv E' k
theorem ve_andV {ta tb : TE} {Q : List Cell → Tmp → Prop} (h : VE K Γ Θ ta fun Γ1 c => AsB Γ1 (fun Γ1 b => (b = true → VE K Γ1 Θ tb Q) ∧ (b = false → Q Γ1 (.dt (.bool false)))) c) : VE K Γ Θ (tAndV ta tb) Q := fun L S0 σ τ S Qv E k => h L S0 σ τ S _ E fun Γ' S' v c E' q => by
  obtain ⟨b, e, q⟩ := asB_ok E' q
  refine ⟨b, e, ?_⟩
  cases b with
  | true => rw [if_pos rfl]; exact q.1 rfl L S0 σ τ S' Qv E'.pop k
  | false => rw [if_neg Bool.false_ne_true]; exact k _ _ _ _ (E'.pop.push (.bl _)) (q.2 rfl)
theorem ve_orV {ta tb : TE} {Q : List Cell → Tmp → Prop} (h : VE K Γ Θ ta fun Γ1 c => AsB Γ1 (fun Γ1 b => (b = true → Q Γ1 (.dt (.bool true))) ∧ (b = false → VE K Γ1 Θ tb Q)) c) : VE K Γ Θ (tOrV ta tb) Q := fun L S0 σ τ S Qv E k => h L S0 σ τ S _ E fun Γ' S' v c E' q => by
  obtain ⟨b, e, q⟩ := asB_ok E' q
  refine ⟨b, e, ?_⟩
  cases b with
  | true => rw [if_pos rfl]; exact k _ _ _ _ (E'.pop.push (.bl _)) (q.1 rfl)
  | false => rw [if_neg Bool.false_ne_true]; exact q.2 rfl L S0 σ τ S' Qv E'.pop k
theorem ve_notV {ta : TE} {Q : List Cell → Tmp → Prop} (h : VE K Γ Θ ta fun Γ1 c => AsB Γ1 (fun Γ1 b => Q Γ1 (.dt (.bool (!b)))) c) : VE K Γ Θ (tNotV ta) Q := fun L S0 σ τ S Qv E k => h L S0 σ τ S _ E fun Γ' S' v c E' q => by
  obtain ⟨b, e, q⟩ := asB_ok E' q
  exact ⟨b, e, k _ _ _ _ (E'.pop.push (.bl _)) q⟩
theorem ve_chain {r r' : R2} {ta tb tc : TE} {Q : List Cell → Tmp → Prop}
    (h : VE K Γ Θ ta fun Γ1 x => VE K Γ1 (x :: Θ) tb fun Γ2 y => (∃ d, y = .dt d) ∧ R2V K r Γ2 (y :: Θ) x y fun Γ3 z => AsB Γ3 (fun Γ3 b => (b = true → VE K Γ3 (y :: Θ) tc fun Γ4 w => R2V K r' Γ4 Θ y w Q) ∧ (b = false → Q Γ3 (.dt (.bool false)))) z) : VE K Γ Θ (tChain r r' ta tb tc) Q := fun L S0 σ τ S Qv E k =>
  h L S0 σ τ S _ E fun Γ1 S1 vx x E1 h1 => h1 L S0 σ _ S1 _ E1 fun Γ2 S2 vy y E2 ⟨⟨d, ed⟩, h2⟩ => by
    subst ed
    have E3 : Env K L S0 Γ2 (.dt d :: x :: .dt d :: Θ) σ (vy :: vx :: vy :: τ) S2 := by
      obtain ⟨w, g1, g2, g3, g4⟩ := E2.ok
      refine ⟨E2.gr, E2.sub, E2.len, fun a => match w a with
        | some (.inr n) => if n = Θ.length then some (.inr (n + 1)) else some (.inr n)
        | o => o, fun i c e => ?_, g2, ?_, g2, g4.imp fun n u t hn q => ?_⟩
      · have q := g1 i c e
        cases c with
        | no => trivial
        | dt d => exact q
        | ow ds => obtain ⟨a, e, o, n⟩ := q; exact ⟨a, e, ⟨o.nb, by simp only [o.at_], o.is⟩, n⟩
        | ln ds => obtain ⟨a, e, o, n⟩ := q; exact ⟨a, e, ⟨o.nb, by simp only [o.at_], o.is⟩, n⟩
        | sc ns => exact q
        | ob pp => obtain ⟨a, e, o, n⟩ := q; exact ⟨a, e, ⟨o.nb, by simp only [o.at_], o.is⟩, n⟩
        | li R => obtain ⟨a, e, o⟩ := q; exact ⟨a, e, o.reK (fun x ho => by simp only [ho]) fun _ h => h⟩
      · cases x with
        | dt d => exact g3
        | fr ds => obtain ⟨a, e, o, n⟩ := g3; exact ⟨a, e, ⟨o.nb, by simp only [o.at_, if_pos, List.length_cons], o.is⟩, n⟩
        | br i => exact g3
        | sc ns => exact g3
        | ob pp => obtain ⟨a, e, o, n⟩ := g3; exact ⟨a, e, ⟨o.nb, by simp only [o.at_, if_pos, List.length_cons], o.is⟩, n⟩
        | li R => obtain ⟨a, e, o⟩ := g3; exact ⟨a, e, o.reK (fun x ho => by simp only [ho, if_pos, List.length_cons]) fun _ h => h⟩
      · cases t with
        | dt d => exact q
        | fr ds => obtain ⟨a, e, o, m⟩ := q; exact ⟨a, e, ⟨o.nb, by simp only [o.at_, if_neg (Nat.ne_of_lt hn)], o.is⟩, m⟩
        | br i => exact q
        | sc ns => exact q
        | ob pp => obtain ⟨a, e, o, m⟩ := q; exact ⟨a, e, ⟨o.nb, by simp only [o.at_, if_neg (Nat.ne_of_lt hn)], o.is⟩, m⟩
        | li R => obtain ⟨a, e, o⟩ := q; exact ⟨a, e, o.reK (fun x ho => by simp only [ho, if_neg (Nat.ne_of_lt hn)]) fun _ h => h⟩
    refine h2 L S0 σ (vy :: τ) S2 vx vy _ E3 fun Γ3 S3 z c E4 h3 => ?_
    obtain ⟨b, e, q⟩ := asB_ok E4 h3
    refine ⟨b, e, ?_⟩
    cases b with
    | true => rw [if_pos rfl]; exact q.1 rfl L S0 σ (vy :: τ) S3 _ E4.pop fun Γ4 S4 vw w E5 h5 => h5 L S0 σ τ S4 vy vw Qv E5 k
    | false => rw [if_neg Bool.false_ne_true]; exact k _ _ _ _ (E4.pop.pop.push (.bl _)) (q.2 rfl)
/-! ### more operators by values -/
def isNo : Dat → Bool
  | .none => true
  | _ => false
theorem dp_isNo {H : Hp} {v : V} {d : Dat} (h : Dq H v d) : decide (v = .non) = isNo d := by cases h <;> rfl
def rIsN : R2 := fun x y H Q => y = .non ∧ Q (.bl (decide (x = .non))) H
def rNotN : R2 := fun x y H Q => y = .non ∧ Q (.bl (!decide (x = .non))) H
theorem oi_isN {X : Cx} : OpR X (compareOp .Is) rIsN := op_isN
theorem oi_notN {X : Cx} : OpR X (compareOp .IsNot) rNotN := op_notN
theorem r2_isN {x : Tmp} {d : Dat} {Q : List Cell → Tmp → Prop} (hx : rd Γ x d) (q : Q Γ (.dt (.bool (isNo d)))) : R2V K rIsN Γ Θ x (.dt .none) Q := fun L S0 σ τ S vx vy Qv E k =>
  ⟨dp_none E.dt, by rw [dp_isNo (E.pop.rd hx)]; exact k Γ S _ _ (E.pop.pop.push (.bl _)) q⟩
theorem r2_notN {x : Tmp} {d : Dat} {Q : List Cell → Tmp → Prop} (hx : rd Γ x d) (q : Q Γ (.dt (.bool (!isNo d)))) : R2V K rNotN Γ Θ x (.dt .none) Q := fun L S0 σ τ S vx vy Qv E k =>
  ⟨dp_none E.dt, by rw [dp_isNo (E.pop.rd hx)]; exact k Γ S _ _ (E.pop.pop.push (.bl _)) q⟩
def rIsBl : R2 := fun x y H Q => ∃ a b : Bool, x = .bl a ∧ y = .bl b ∧ Q (.bl (decide (a = b))) H
def rNotBl : R2 := fun x y H Q => ∃ a b : Bool, x = .bl a ∧ y = .bl b ∧ Q (.bl (!decide (a = b))) H
theorem r2_isB {a b : Bool} {Q : List Cell → Tmp → Prop} (q : Q Γ (.dt (.bool (decide (a = b))))) : R2V K rIsBl Γ Θ (.dt (.bool a)) (.dt (.bool b)) Q := fun L S0 σ τ S vx vy Qv E k =>
  ⟨a, b, dp_bool E.pop.dt, dp_bool E.dt, k Γ S _ _ (E.pop.pop.push (.bl _)) q⟩
theorem r2_notB {a b : Bool} {Q : List Cell → Tmp → Prop} (q : Q Γ (.dt (.bool (!decide (a = b))))) : R2V K rNotBl Γ Θ (.dt (.bool a)) (.dt (.bool b)) Q := fun L S0 σ τ S vx vy Qv E k =>
  ⟨a, b, dp_bool E.pop.dt, dp_bool E.dt, k Γ S _ _ (E.pop.pop.push (.bl _)) q⟩
/-- x in a flat list or tuple -/
def flD : Dat → Bool
  | .none => true
  | .bool _ => true
  | .int _ => true
  | .str _ => true
  | _ => false
def eqF : Dat → Dat → Bool
  | .none, .none => true
  | .bool a, .bool b => a == b
  | .bool a, .int b => (if a then 1 else 0) == b
  | .int a, .bool b => a == (if b then 1 else 0)
  | .int a, .int b => a == b
  | .str a, .str b => a == b
  | _, _ => false
theorem dq_flat {H : Hp} {v : V} {d : Dat} (h : Dq H v d) (f : flD d = true) : flatV v = true := by
  cases h <;> first | rfl | cases f
theorem dq_eqF {H : Hp} {u v : V} {d e : Dat} (h : Dq H u d) (g : Dq H v e) (f1 : flD d = true) (f2 : flD e = true) : eqV u v = eqF d e := by
  cases h <;> first | (cases g <;> first | rfl | cases f2) | cases f1
theorem dqa_flat {H : Hp} : ∀ {vs : List V} {ds : List Dat}, DqAll H vs ds → ds.all flD = true → vs.all flatV = true
  | _, _, .nil, _ => rfl
  | _, _, .cons h t, f => by
    rw [List.all_cons, Bool.and_eq_true] at f
    rw [List.all_cons, dq_flat h f.1, dqa_flat t f.2, Bool.and_true]
theorem dqa_in {H : Hp} {v : V} {e : Dat} (g : Dq H v e) (f2 : flD e = true) : ∀ {vs : List V} {ds : List Dat}, DqAll H vs ds → ds.all flD = true → inV v vs = ds.any fun d => eqF d e
  | _, _, .nil, _ => rfl
  | _, _, .cons h t, f => by
    rw [List.all_cons, Bool.and_eq_true] at f
    show (eqV _ v || inV v _) = _
    rw [List.any_cons, dq_eqF h g f.1 f2, dqa_in g f2 t f.2]
def SeqD (Γ : List Cell) (x : Tmp) (ds : List Dat) : Prop := rd Γ x (.list ds) ∨ rd Γ x (.tuple ds)
theorem seqD_ok {L : Addr → Prop} {S0 S : Hs} {σ : L2.St} {τ : List V} {v : V} {c : Tmp} {ds : List Dat} (E : Env K L S0 Γ (c :: Θ) σ (v :: τ) S) (h : SeqD Γ c ds) : ∃ a xs, v = .ref a ∧ (SqL K S.h a xs ∨ SqT K S.h a xs) ∧ DqAll S.h xs ds := by
  rcases h with h | h
  · obtain ⟨a, xs, e, q, p⟩ := dp_list (E.rd h)
    exact ⟨a, xs, e, .inl (.of q), p⟩
  · obtain ⟨a, o, xs, e, _, q, p⟩ := dp_tup (E.rd h)
    exact ⟨a, xs, e, .inr (sqt_f q), p⟩
theorem r2_in {x y : Tmp} {e : Dat} {ds : List Dat} {Q : List Cell → Tmp → Prop} (hx : rd Γ x e) (hy : SeqD Γ y ds) (f1 : flD e = true) (f2 : ds.all flD = true) (q : Q Γ (.dt (.bool (ds.any fun d => eqF d e)))) : R2V K (rIn K false) Γ Θ x y Q := fun L S0 σ τ S vx vy Qv E k => by
  obtain ⟨a, xs, ev, h, p⟩ := seqD_ok E hy
  have g := E.pop.rd hx
  refine ⟨a, xs, ev, h, dq_flat g f1, dqa_flat p f2, ?_⟩
  rw [if_neg Bool.false_ne_true, dqa_in g f1 p f2]
  exact k Γ S _ _ (E.pop.pop.push (.bl _)) q
/-- subscripts -/
theorem atI_dq {H : Hp} {vs : List V} {ds : List Dat} {i : Int} {d : Dat} (p : DqAll H vs ds) (h : atI ds i = some d) : ∃ v, atI vs i = some v ∧ Dq H v d := by
  unfold atI at h ⊢
  rw [p.len]
  cases e : ixN ds.length i with
  | none => rw [e] at h; cases h
  | some j =>
    rw [e] at h
    exact p.get h
theorem r2_ixL {x : Tmp} {i : Int} {ds : List Dat} {d : Dat} {Q : List Cell → Tmp → Prop} (hx : ∃ (B : List Dat), x = .dt (.list B) ∧ B = ds ∨ (∃ j, x = .br j ∧ (Γ[j]? = some (.ow ds) ∨ Γ[j]? = some (.ln ds))) ∨ x = .fr ds) (h : atI ds i = some d) (q : Q Γ (.dt d)) : R2V K (rIxL K) Γ Θ x (.dt (.int i)) Q := fun L S0 σ τ S vx vy Qv E k => by
  have ei := dp_int E.dt
  have E1 := E.pop
  obtain ⟨a, xs, ea, hs, p⟩ : ∃ a xs, vx = .ref a ∧ SqL K S.h a xs ∧ DqAll S.b xs ds := by
    obtain ⟨w, g1, z, g2⟩ := E1.ok
    obtain ⟨B, ⟨rfl, rfl⟩ | ⟨j, rfl, hj⟩ | rfl⟩ := hx
    · obtain ⟨a, xs, e, q, p⟩ := dp_list (show Dq S.b vx (.list B) from z)
      exact ⟨a, xs, e, .of (E.sub _ _ q), p⟩
    · have z' : σ[j]? = some (some vx) := z
      rcases hj with hj | hj
      · obtain ⟨a, e, o, _⟩ := g1 j _ hj
        rw [z'] at e; cases e
        obtain ⟨_, _, us, q, p⟩ := o
        exact ⟨a, us, rfl, .of q, p⟩
      · obtain ⟨a, e, o, _⟩ := g1 j _ hj
        rw [z'] at e; cases e
        obtain ⟨_, _, us, q, p⟩ := o
        exact ⟨a, us, rfl, .of q, p⟩
    · obtain ⟨a, e, o, _⟩ := z
      obtain ⟨_, _, us, q, p⟩ := o
      exact ⟨a, us, e, .of q, p⟩
  obtain ⟨v, e, g⟩ := atI_dq p h
  exact ⟨a, xs, i, v, ea, ei, hs, e, k Γ S v _ (E1.pop.push g) q⟩
theorem r2_ixT {i : Int} {ds : List Dat} {d : Dat} {Q : List Cell → Tmp → Prop} (h : atI ds i = some d) (q : Q Γ (.dt d)) : R2V K (rIxT K) Γ Θ (.dt (.tuple ds)) (.dt (.int i)) Q := fun L S0 σ τ S vx vy Qv E k => by
  obtain ⟨a, o, xs, ea, _, hs, p⟩ := dp_tup E.pop.dt
  obtain ⟨v, e, g⟩ := atI_dq p h
  exact ⟨a, xs, i, v, ea, dp_int E.dt, sqt_f (E.sub _ _ hs), e, k Γ S v _ (E.pop.pop.push g) q⟩
/-- the script's items -/
theorem r2_ixS {i : Int} {ns : List Int} {n : Int} {Q : List Cell → Tmp → Prop} (h : atI ns i = some n) (q : Q Γ (.dt (.int n))) : R2V K (rIxL K) Γ Θ (.sc ns) (.dt (.int i)) Q := fun L S0 σ τ S vx vy Qv E k => by
  obtain ⟨w, a, ea, hs⟩ := E.pop.top
  refine ⟨a, ns.map V.int, i, .int n, ea, dp_int E.dt, E.sub.seq hs, ?_, k Γ S _ _ (E.pop.pop.push (.int _)) q⟩
  unfold atI at h ⊢
  rw [List.length_map]
  cases e : ixN ns.length i with
  | none => rw [e] at h; cases h
  | some j =>
    rw [e] at h
    show (ns.map V.int)[j]? = _
    rw [List.getElem?_map, show ns[j]? = some n from h] <;> rfl
/-- lists, tuples put together -/
theorem r2_cat {x y : Tmp} {ds es : List Dat} {Q : List Cell → Tmp → Prop} (hx : x = .dt (.list ds) ∨ x = .fr ds) (hy : y = .dt (.list es) ∨ y = .fr es) (hz : ds.length + es.length ≤ sizeLine) (q : Q Γ (.fr (ds ++ es))) : R2V K rCat Γ Θ x y Q := fun L S0 σ τ S vx vy Qv E k => by
  have one : ∀ {t : Tmp} {v : V} {Θ : List Tmp} {τ : List V} {ds : List Dat}, Env K L S0 Γ (t :: Θ) σ (v :: τ) S → (t = .dt (.list ds) ∨ t = .fr ds) → ∃ a xs, v = .ref a ∧ S.h a = some (.lst xs) ∧ DqAll S.b xs ds := by
    intro t v Θ τ ds E h
    rcases h with rfl | rfl
    · obtain ⟨a, xs, e, q, p⟩ := dp_list E.dt
      exact ⟨a, xs, e, E.sub _ _ q, p⟩
    · obtain ⟨w, a, e, o, _⟩ := E.top
      obtain ⟨_, _, us, q, p⟩ := o
      exact ⟨a, us, e, q, p⟩
  obtain ⟨b, zs, eb, qb, pb⟩ := one E hy
  obtain ⟨a, xs, ea, qa, pa⟩ := one E.pop hx
  exact ⟨a, b, xs, zs, ea, eb, qa, qb, by rw [pa.len, pb.len]; exact hz, fun p hp => k Γ _ _ _ (E.pop.pop.newLst hp (pa.app pb)) q⟩
end
end Ld
set_option Elab.async false
set_option linter.all false
set_option maxRecDepth 100000
namespace Ld
open PySem PySem.Spec PyProof.Rows L2 Lx
section
variable {K : PySem.W.Frag} {Γ : List Cell} {Θ : List Tmp}
/-! ### tuples put together -/
theorem dqa_rep {H : Hp} {vs : List V} {ds : List Dat} (h : DqAll H vs ds) : ∀ n : Nat, DqAll H (List.replicate n vs).flatten (List.replicate n ds).flatten
  | 0 => .nil
  | n + 1 => by
    rw [List.replicate_succ, List.replicate_succ, List.flatten_cons, List.flatten_cons]
    exact h.app (dqa_rep h n)
theorem r2_rep {x : Tmp} {ds : List Dat} {j : Int} {Q : List Cell → Tmp → Prop} (hx : x = .dt (.list ds) ∨ x = .fr ds) (h1 : -(2 ^ 63) ≤ j) (h2 : j < 2 ^ 63) (hz : ds.length * j.toNat ≤ sizeLine) (q : Q Γ (.fr (List.replicate j.toNat ds).flatten)) :
    R2V K rRep Γ Θ x (.dt (.int j)) Q := fun L S0 σ τ S vx vy Qv E k => by
  obtain ⟨a, xs, ea, qa, pa⟩ : ∃ a xs, vx = .ref a ∧ S.h a = some (.lst xs) ∧ DqAll S.b xs ds := by
    have E1 := E.pop
    rcases hx with rfl | rfl
    · obtain ⟨a, xs, e, q, p⟩ := dp_list E1.dt
      exact ⟨a, xs, e, E.sub _ _ q, p⟩
    · obtain ⟨w, a, e, o, _⟩ := E1.top
      obtain ⟨_, _, us, q, p⟩ := o
      exact ⟨a, us, e, q, p⟩
  exact ⟨a, j, xs, ea, dp_int E.dt, qa, h1, h2, by rw [pa.len]; exact hz, fun p hp => k Γ _ _ _ (E.pop.pop.newLst hp (dqa_rep pa _)) q⟩
/-! ### a sign -/
theorem ve_un {r : V → Hp → VK → Prop} {f : Int → Int} {ta : TE} {Q : List Cell → Tmp → Prop} (hr : r = rU fun i => .int (f i)) (h : VE K Γ Θ ta fun Γ1 x => ∃ i, x = .dt (.int i) ∧ Q Γ1 (.dt (.int (f i)))) : VE K Γ Θ (tUn r ta) Q := fun L S0 σ τ S Qv E k => h L S0 σ τ S _ E fun Γ1 S1 v x E1 ⟨i, ex, q⟩ => by
  subst ex hr
  exact ⟨i, dp_int E1.dt, k Γ1 S1 _ _ (E1.pop.push (.int _)) q⟩
/-! ### argument lists -/
inductive Arg where
  | dt (d : Dat) | sc (ns : List Int)
def Arg.tmp : Arg → Tmp
  | .dt d => .dt d
  | .sc ns => .sc ns
def Arg.cell : Arg → Cell
  | .dt d => .dt d
  | .sc ns => .sc ns
def ArgOk (K : PySem.W.Frag) (B : Hp) (v : V) : Arg → Prop
  | .dt d => Dq B v d
  | .sc ns => ∃ a, v = .ref a ∧ SqL K B a (ns.map V.int)
inductive ArgsOk (K : PySem.W.Frag) (B : Hp) : List V → List Arg → Prop
  | nil : ArgsOk K B [] []
  | cons {v : V} {vs : List V} {a : Arg} {as : List Arg} : ArgOk K B v a → ArgsOk K B vs as → ArgsOk K B (v :: vs) (a :: as)
theorem ArgsOk.len {B : Hp} : ∀ {vs : List V} {as : List Arg}, ArgsOk K B vs as → vs.length = as.length
  | _, _, .nil => rfl
  | _, _, .cons _ t => by rw [List.length_cons, List.length_cons, t.len]
def VX (K : PySem.W.Frag) (Γ : List Cell) (Θ : List Tmp) (t : TE) (Q : List Cell → Arg → Prop) : Prop := ∀ (L : Addr → Prop) (S0 : Hs) (σ : L2.St) (τ : List V) (S : Hs) (Qv : VK), Env K L S0 Γ Θ σ τ S →
  (∀ Γ' S' v a, Env K L S0 Γ' (a.tmp :: Θ) σ (v :: τ) S' → Q Γ' a → Qv v S'.h) → t σ S.h Qv
def VAX (K : PySem.W.Frag) (Γ : List Cell) (Θ : List Tmp) (t : TA) (Q : List Cell → List Arg → Prop) : Prop := ∀ (L : Addr → Prop) (S0 : Hs) (σ : L2.St) (τ : List V) (S : Hs) (Qv : List V → Hp → Prop), Env K L S0 Γ Θ σ τ S →
  (∀ Γ' S' vs as, Env K L S0 Γ' Θ σ τ S' → ArgsOk K S'.b vs as → Q Γ' as → Qv vs S'.h) → t σ S.h Qv
/-- what is under way becomes an argument -/
def Az (Γ : List Cell) (Q : List Cell → Arg → Prop) : Tmp → Prop
  | .dt d => Q Γ (.dt d)
  | .fr ds => Q Γ (.dt (.list ds))
  | .br i => ∃ ds, Γ[i]? = some (.ow ds) ∧ Q (Γ.set i (.dt (.list ds))) (.dt (.list ds))
  | .sc ns => Q Γ (.sc ns)
  | .ob _ => False
  | .li _ => False
theorem vx_of {t : TE} {Q : List Cell → Arg → Prop} (h : VE K Γ Θ t fun Γ1 c => Az Γ1 Q c) : VX K Γ Θ t Q := fun L S0 σ τ S Qv E q => h L S0 σ τ S Qv E fun Γ' S' v c E' z => by
  cases c with
  | dt d => exact q Γ' S' v (.dt d) E' z
  | fr ds =>
    obtain ⟨S2, e, E2⟩ := E'.frzTop
    rw [← e]
    exact q Γ' S2 v (.dt _) E2 z
  | sc ns => exact q Γ' S' v (.sc ns) E' z
  | ob pp => exact z.elim
  | li R => exact z.elim
  | br i =>
    obtain ⟨ds, hi, z⟩ := z
    obtain ⟨S2, e, E2⟩ := E'.frzSlot hi
    rw [← e]
    obtain ⟨w, h1, z2, h2⟩ := id E2.ok
    have hl := (List.getElem?_eq_some_iff.mp hi).1
    obtain ⟨u, eu, qu⟩ := h1 i _ (List.getElem?_set_self hl)
    have z2' : σ[i]? = some (some v) := z2
    rw [z2'] at eu; cases eu
    exact q _ S2 v (.dt _) (E2.pop.push qu) z
theorem argOk_top {L : Addr → Prop} {S0 S : Hs} {σ : L2.St} {τ : List V} {v : V} {a : Arg} (E : Env K L S0 Γ (a.tmp :: Θ) σ (v :: τ) S) : ArgOk K S.b v a := by
  obtain ⟨w, z⟩ := E.top
  cases a with
  | dt d => exact z
  | sc ns => exact z
theorem vax_nil {Q : List Cell → List Arg → Prop} (q : Q Γ []) : VAX K Γ Θ tNil Q := fun L S0 σ τ S Qv E k => k Γ S [] [] E .nil q
theorem vax_cons {te : TE} {t : TA} {Q : List Cell → List Arg → Prop} (h : VX K Γ Θ te fun Γ1 a => VAX K Γ1 (a.tmp :: Θ) t fun Γ2 as => Q Γ2 (a :: as)) : VAX K Γ Θ (tCons te t) Q := fun L S0 σ τ S Qv E k =>
  h L S0 σ τ S _ E fun Γ1 S1 v a E1 h1 => h1 L S0 σ (v :: τ) S1 _ E1 fun Γ2 S2 vs as E2 p q => k Γ2 S2 (v :: vs) (a :: as) E2.pop (.cons (argOk_top E2) p) q
/-- arguments that are data -/
def dts : List Arg → Option (List Dat)
  | [] => some []
  | .dt d :: as => (dts as).map (d :: ·)
  | .sc _ :: _ => none
theorem dts_ok {B : Hp} : ∀ {vs : List V} {as : List Arg} {ds : List Dat}, ArgsOk K B vs as → dts as = some ds → DqAll B vs ds
  | _, _, _, .nil, h => by cases h; exact .nil
  | _, _, ds, .cons (a := .dt d) (as := as) h t, e => by
    unfold dts at e
    cases q : dts as with
    | none => rw [q] at e; cases e
    | some es =>
      rw [q] at e
      cases e
      exact .cons h (dts_ok t q)
  | _, _, _, .cons (a := .sc _) _ _, e => by cases e
/-! ### displays -/
theorem ve_tup {t : TA} {Q : List Cell → Tmp → Prop} (h : VAX K Γ Θ t fun Γ1 as => ∃ ds, dts as = some ds ∧ ds.length ≤ sizeLine ∧ Q Γ1 (.dt (.tuple ds))) : VE K Γ Θ (tTupF t) Q := fun L S0 σ τ S Qv E k => h L S0 σ τ S _ E fun Γ1 S1 vs as E1 p ⟨ds, e, z, q⟩ => by
  have g := dts_ok p e
  exact ⟨by rw [g.len]; exact z, fun l o hd hl => k Γ1 _ _ _ (E1.newTup hd hl g) q⟩
theorem ve_lst {t : TA} {Q : List Cell → Tmp → Prop} (h : VAX K Γ Θ t fun Γ1 as => ∃ ds, dts as = some ds ∧ ds.length ≤ sizeLine ∧ Q Γ1 (.fr ds)) : VE K Γ Θ (tLst t) Q := fun L S0 σ τ S Qv E k => h L S0 σ τ S _ E fun Γ1 S1 vs as E1 p ⟨ds, e, z, q⟩ => by
  have g := dts_ok p e
  exact ⟨by rw [g.len]; exact z, fun l hl => k Γ1 _ _ _ (E1.newLst hl g) q⟩
/-! ### calls of defs -/
theorem Env.lent {L : Addr → Prop} {S0 S S' : Hs} {σ : L2.St} {τ : List V} {a : Addr} {i : Nat} {c : Cell} {ds zs : List Dat} (E : Env K L S0 Γ Θ σ τ S) (hi : Γ[i]? = some c) (hc : c.ls = some ds) (ha : σ[i]? = some (some (.ref a)))
    (g : Gr (fun b => b = a) S S') (sub : Same S'.b S'.h) (nb : S'.b a = none) (h : ∃ us, S'.h a = some (.lst us) ∧ DqAll S'.b us zs) : Env K L S0 (Γ.set i (c.put zs)) Θ σ τ S' := by
  obtain ⟨w, h1, h2⟩ := E.ok
  have hil := (List.getElem?_eq_some_iff.mp hi).1
  obtain ⟨o, n0⟩ : Own w (.inl i) S a ds ∧ (S0.h a = none ∨ L a) := by
    have z := h1 i c hi
    cases c with
    | no => cases hc
    | dt d => cases hc
    | sc ns => cases hc
    | ob pp => cases hc
    | li R => cases hc
    | ow es => cases hc; obtain ⟨b, e, r, n⟩ := z; rw [ha] at e; cases e; exact ⟨r, .inl n⟩
    | ln es => cases hc; obtain ⟨b, e, r, n⟩ := z; rw [ha] at e; cases e; exact ⟨r, .inr n⟩
  have keep : ∀ {k : Sum Nat Nat} {b : Addr} {es : List Dat}, Own w k S b es → k ≠ .inl i → Own w k S' b es := fun {k b es} r n => by
    have ne : b ≠ a := r.apart o n
    obtain ⟨nb', e, us, q, p⟩ := r
    exact ⟨g.own b nb' (by rw [q]; exact fun z => nomatch z), e, us, g.h b _ ne q, dpa_mono g.b _ _ p⟩
  have keepO : ∀ {k : Sum Nat Nat} {b : Addr} {es : HO}, OwnO w k S b es → k ≠ .inl i → OwnO w k S' b es := fun {k b es} r n => by
    have ne : b ≠ a := (o.apartO r n.symm).symm
    obtain ⟨nb', e, q⟩ := r
    exact ⟨g.own b nb' (by rw [q]; exact fun z => nomatch z), e, g.h b _ ne q⟩
  have keepL : ∀ {k : Sum Nat Nat} {b : Addr} {R : Res} {N : Addr → Prop}, OwnL w k S b R N → k ≠ .inl i → OwnL w k S' b R N := fun {k b R N} r n => by
    obtain ⟨F, q, f⟩ := r
    have ne : ∀ x, F x → x ≠ a := fun x hx e => n (by
      have e1 := o.at_
      rw [← e, (f x hx).2.1] at e1
      exact Option.some.inj e1)
    refine ⟨F, R.frame q g.b fun x hx => ?_, fun x hx => ⟨g.own x (f x hx).1 (R.dom q hx), (f x hx).2⟩⟩
    cases e : S.h x with
    | none => exact absurd e (R.dom q hx)
    | some u => exact g.h x u (ne x hx) e
  refine ⟨E.gr.trans g fun b e => ?_, sub, by rw [List.length_set]; exact E.len, w, fun j c' e => ?_, h2.imp fun k u t hk z => ?_⟩
  · rw [e]; exact n0.symm
  · by_cases hj : i = j
    · subst hj
      rw [List.getElem?_set_self hil] at e
      have z := h1 i c hi
      cases c with
      | no => cases hc
      | dt d => cases hc
      | sc ns => cases hc
      | ob pp => cases hc
      | li R => cases hc
      | ow es => cases e; obtain ⟨b, e, r, n⟩ := z; rw [ha] at e; cases e; exact ⟨_, ha, ⟨nb, o.at_, h⟩, n⟩
      | ln es => cases e; obtain ⟨b, e, r, n⟩ := z; rw [ha] at e; cases e; exact ⟨_, ha, ⟨nb, o.at_, h⟩, n⟩
    · rw [List.getElem?_set_ne hj] at e
      have z := h1 j c' e
      cases c' with
      | no => trivial
      | dt d => obtain ⟨v, e, r⟩ := z; exact ⟨v, e, dp_mono g.b _ _ r⟩
      | ow es => obtain ⟨b, e, r, n⟩ := z; exact ⟨b, e, keep r (fun z => hj (Sum.inl.inj z).symm), n⟩
      | ln es => obtain ⟨b, e, r, n⟩ := z; exact ⟨b, e, keep r (fun z => hj (Sum.inl.inj z).symm), n⟩
      | sc ns => obtain ⟨b, e, r⟩ := z; exact ⟨b, e, g.b.seq r⟩
      | ob pp => obtain ⟨b, e, r, n⟩ := z; exact ⟨b, e, keepO r (fun z => hj (Sum.inl.inj z).symm), n⟩
      | li R => obtain ⟨b, e, r⟩ := z; exact ⟨b, e, keepL r (fun z => hj (Sum.inl.inj z).symm)⟩
  · cases t with
    | dt d => exact dp_mono g.b _ _ z
    | fr es => obtain ⟨b, e, r, n⟩ := z; exact ⟨b, e, keep r (fun z => nomatch z), n⟩
    | br j => exact z
    | sc ns => obtain ⟨b, e, r⟩ := z; exact ⟨b, e, g.b.seq r⟩
    | ob pp => obtain ⟨b, e, r, n⟩ := z; exact ⟨b, e, keepO r (fun z => nomatch z), n⟩
    | li R => obtain ⟨b, e, r⟩ := z; exact ⟨b, e, keepL r (fun z => nomatch z)⟩
theorem Env.own {L : Addr → Prop} {S0 S : Hs} {σ : L2.St} {τ : List V} {i : Nat} {c : Cell} {ds : List Dat} (E : Env K L S0 Γ Θ σ τ S) (hi : Γ[i]? = some c) (hc : c.ls = some ds) : ∃ a, σ[i]? = some (some (.ref a)) ∧ S.b a = none ∧ ∃ us, S.h a = some (.lst us) ∧ DqAll S.b us ds := by
  obtain ⟨w, h1, h2⟩ := E.ok
  have z := h1 i c hi
  cases c with
  | no => cases hc
  | dt d => cases hc
  | sc ns => cases hc
  | ob pp => cases hc
  | li R => cases hc
  | ow es => cases hc; obtain ⟨b, e, r, n⟩ := z; exact ⟨b, e, r.nb, r.is⟩
  | ln es => cases hc; obtain ⟨b, e, r, n⟩ := z; exact ⟨b, e, r.nb, r.is⟩
/-- slot i holds a list of one's own or a lent one -/
def IsLs (Γ : List Cell) (i : Nat) (ds : List Dat) : Prop := ∃ c, Γ[i]? = some c ∧ c.ls = some ds
/-- .. what it holds is changed -/
def putC (Γ : List Cell) (i : Nat) (ds : List Dat) : List Cell := match Γ[i]? with
  | some c => Γ.set i (c.put ds)
  | none => Γ
theorem putC_eq {i : Nat} {c : Cell} {ds : List Dat} (h : Γ[i]? = some c) : putC Γ i ds = Γ.set i (c.put ds) := by unfold putC; rw [h]
/-! ### built-ins by one value, two values -/
def C1V (K : PySem.W.Frag) (r : List V → Hp → VK → Prop) (Γ : List Cell) (Θ : List Tmp) (x : Tmp) (Q : List Cell → Tmp → Prop) : Prop := ∀ (L : Addr → Prop) (S0 : Hs) (σ : L2.St) (τ : List V) (S : Hs) (vx : V) (Qv : VK), Env K L S0 Γ (x :: Θ) σ (vx :: τ) S →
  (∀ Γ' S' v c, Env K L S0 Γ' (c :: Θ) σ (v :: τ) S' → Q Γ' c → Qv v S'.h) → r [vx] S.h Qv
def C2V (K : PySem.W.Frag) (r : List V → Hp → VK → Prop) (Γ : List Cell) (Θ : List Tmp) (x y : Tmp) (Q : List Cell → Tmp → Prop) : Prop := ∀ (L : Addr → Prop) (S0 : Hs) (σ : L2.St) (τ : List V) (S : Hs) (vx vy : V) (Qv : VK), Env K L S0 Γ (y :: x :: Θ) σ (vy :: vx :: τ) S →
  (∀ Γ' S' v c, Env K L S0 Γ' (c :: Θ) σ (v :: τ) S' → Q Γ' c → Qv v S'.h) → r [vx, vy] S.h Qv
theorem ve_c1 {r : List V → Hp → VK → Prop} {ta : TE} {Q : List Cell → Tmp → Prop} (h : VE K Γ Θ ta fun Γ1 x => C1V K r Γ1 Θ x Q) : VE K Γ Θ (tCB r (tCons ta tNil)) Q := fun L S0 σ τ S Qv E k =>
  h L S0 σ τ S _ E fun Γ1 S1 vx x E1 h1 => h1 L S0 σ τ S1 vx Qv E1 k
theorem ve_c2 {r : List V → Hp → VK → Prop} {ta tb : TE} {Q : List Cell → Tmp → Prop} (h : VE K Γ Θ ta fun Γ1 x => VE K Γ1 (x :: Θ) tb fun Γ2 y => C2V K r Γ2 Θ x y Q) : VE K Γ Θ (tCB r (tCons ta (tCons tb tNil))) Q := fun L S0 σ τ S Qv E k =>
  h L S0 σ τ S _ E fun Γ1 S1 vx x E1 h1 => h1 L S0 σ _ S1 _ E1 fun Γ2 S2 vy y E2 h2 => h2 L S0 σ τ S2 vx vy Qv E2 k
def rLenSeq (K : PySem.W.Frag) : List V → Hp → VK → Prop := fun xs H Q => ∃ p ys, xs = [.ref p] ∧ (SqL K H p ys ∨ SqT K H p ys) ∧ Q (.int ys.length) H
theorem cl_len {X : Cx} : CallR X (.builtin "len") (rLenSeq X.K) := call_len_seq
theorem c1_len {x : Tmp} {ds : List Dat} {Q : List Cell → Tmp → Prop} (hx : SeqD Γ x ds) (q : Q Γ (.dt (.int ds.length))) : C1V K (rLenSeq K) Γ Θ x Q := fun L S0 σ τ S vx Qv E k => by
  obtain ⟨a, xs, e, h, p⟩ := seqD_ok E hx
  exact ⟨a, xs, by rw [e], h, by rw [p.len]; exact k Γ S _ _ (E.pop.push (.int _)) q⟩
theorem c1_lenS {ns : List Int} {Q : List Cell → Tmp → Prop} (q : Q Γ (.dt (.int ns.length))) : C1V K (rLenSeq K) Γ Θ (.sc ns) Q := fun L S0 σ τ S vx Qv E k => by
  obtain ⟨w, a, ea, hs⟩ := E.top
  exact ⟨a, _, by rw [ea], .inl (E.sub.seq hs), by rw [List.length_map]; exact k Γ S _ _ (E.pop.push (.int _)) q⟩
def rMx2 : List V → Hp → VK → Prop := fun xs H Q => ∃ i j, xs = [.int i, .int j] ∧ Q (.int (if j > i then j else i)) H
def rMn2 : List V → Hp → VK → Prop := fun xs H Q => ∃ i j, xs = [.int i, .int j] ∧ Q (.int (if j < i then j else i)) H
theorem cl_min2 {X : Cx} (hc : X.calm = true) : CallR X (.builtin "min") rMn2 := call_min2 hc
theorem c2_max {i j : Int} {Q : List Cell → Tmp → Prop} (q : Q Γ (.dt (.int (max i j)))) : C2V K rMx2 Γ Θ (.dt (.int i)) (.dt (.int j)) Q := fun L S0 σ τ S vx vy Qv E k =>
  ⟨i, j, by rw [dp_int E.dt, dp_int E.pop.dt], by
    rw [show (if j > i then j else i) = max i j by split <;> omega]
    exact k Γ S _ _ (E.pop.pop.push (.int _)) q⟩
theorem c2_min {i j : Int} {Q : List Cell → Tmp → Prop} (q : Q Γ (.dt (.int (min i j)))) : C2V K rMn2 Γ Θ (.dt (.int i)) (.dt (.int j)) Q := fun L S0 σ τ S vx vy Qv E k =>
  ⟨i, j, by rw [dp_int E.dt, dp_int E.pop.dt], by
    rw [show (if j < i then j else i) = min i j by split <;> omega]
    exact k Γ S _ _ (E.pop.pop.push (.int _)) q⟩
theorem intsL {L : Addr → Prop} {S0 S : Hs} {σ : L2.St} {τ : List V} {v : V} {c : Tmp} {ns : List Int} (E : Env K L S0 Γ (c :: Θ) σ (v :: τ) S) (h : rd Γ c (.list (ns.map .int))) : ∃ a, v = .ref a ∧ SqL K S.h a (ns.map V.int) := by
  obtain ⟨a, xs, e, q, p⟩ := dp_list (E.rd h)
  rw [dpa_ints p] at q
  exact ⟨a, e, .of q⟩
theorem boolsL {L : Addr → Prop} {S0 S : Hs} {σ : L2.St} {τ : List V} {v : V} {c : Tmp} {ns : List Bool} (E : Env K L S0 Γ (c :: Θ) σ (v :: τ) S) (h : rd Γ c (.list (ns.map .bool))) : ∃ a, v = .ref a ∧ SqL K S.h a (ns.map V.bl) := by
  obtain ⟨a, xs, e, q, p⟩ := dp_list (E.rd h)
  rw [dpa_bools p] at q
  exact ⟨a, e, .of q⟩
theorem c1_all {x : Tmp} {ns : List Bool} {Q : List Cell → Tmp → Prop} (hx : rd Γ x (.list (ns.map .bool))) (q : Q Γ (.dt (.bool (ns.all id)))) : C1V K (L2.rAll K) Γ Θ x Q := fun L S0 σ τ S vx Qv E k => by
  obtain ⟨a, e, h⟩ := boolsL E hx
  exact ⟨a, ns, by rw [e], h, k Γ S _ _ (E.pop.push (.bl _)) q⟩
def rInt1 : List V → Hp → VK → Prop := fun xs H Q => (∃ i, xs = [.int i] ∧ Q (.int i) H) ∨ ∃ k, xs = [.bl k] ∧ Q (.int (if k then 1 else 0)) H
theorem c1_intB {b : Bool} {Q : List Cell → Tmp → Prop} (q : Q Γ (.dt (.int (if b then 1 else 0)))) : C1V K rInt1 Γ Θ (.dt (.bool b)) Q := fun L S0 σ τ S vx Qv E k =>
  .inr ⟨b, by rw [dp_bool E.dt], k Γ S _ _ (E.pop.push (.int _)) q⟩
theorem c1_intI {b : Int} {Q : List Cell → Tmp → Prop} (q : Q Γ (.dt (.int b))) : C1V K rInt1 Γ Θ (.dt (.int b)) Q := fun L S0 σ τ S vx Qv E k =>
  .inl ⟨b, by rw [dp_int E.dt], k Γ S _ _ (E.pop.push (.int _)) q⟩
def rListOf (K : PySem.W.Frag) : List V → Hp → VK → Prop := fun xs H Q => ∃ p ys, xs = [.ref p] ∧ (SqL K H p ys ∨ SqT K H p ys) ∧ ∀ l, H l = none → Q (.ref l) (upd H l (.lst ys))
theorem cl_list {X : Cx} : CallR X (.type "list") (rListOf X.K) := call_list_of
theorem rdB_l {L : Addr → Prop} {S0 S : Hs} {σ : L2.St} {τ : List V} {v : V} {c : Tmp} {ds : List Dat} (E : Env K L S0 Γ (c :: Θ) σ (v :: τ) S) (h : rd Γ c (.list ds)) : ∃ a us, v = .ref a ∧ S.h a = some (.lst us) ∧ DqAll S.b us ds := by
  obtain ⟨w, h1, z, h2⟩ := E.ok
  cases c with
  | dt e => cases h; obtain ⟨a, xs, e, q, p⟩ := dp_list (show Dq S.b v (.list ds) from z); exact ⟨a, xs, e, E.sub _ _ q, p⟩
  | fr es => cases h; obtain ⟨a, e, o, _⟩ := z; obtain ⟨_, _, us, q, p⟩ := o; exact ⟨a, us, e, q, p⟩
  | sc ns => exact h.elim
  | ob pp => exact h.elim
  | li R => exact h.elim
  | br i =>
    have z' : σ[i]? = some (some v) := z
    rcases h with h | ⟨es, e, h⟩
    · obtain ⟨u, e, q⟩ := h1 i _ h
      rw [z'] at e; cases e
      obtain ⟨a, xs, e, q, p⟩ := dp_list q
      exact ⟨a, xs, e, E.sub _ _ q, p⟩
    · cases e
      rcases h with h | h
      · obtain ⟨a, e, o, _⟩ := h1 i _ h
        rw [z'] at e; cases e
        obtain ⟨_, _, us, q, p⟩ := o
        exact ⟨a, us, rfl, q, p⟩
      · obtain ⟨a, e, o, _⟩ := h1 i _ h
        rw [z'] at e; cases e
        obtain ⟨_, _, us, q, p⟩ := o
        exact ⟨a, us, rfl, q, p⟩
theorem c1_listL {x : Tmp} {ds : List Dat} {Q : List Cell → Tmp → Prop} (hx : rd Γ x (.list ds)) (q : Q Γ (.fr ds)) : C1V K (rListOf K) Γ Θ x Q := fun L S0 σ τ S vx Qv E k => by
  obtain ⟨a, us, e, h, p⟩ := rdB_l E hx
  exact ⟨a, us, by rw [e], .inl (.of h), fun l hl => k Γ _ _ _ (E.pop.newLst hl p) q⟩
theorem c1_listT {ds : List Dat} {Q : List Cell → Tmp → Prop} (q : Q Γ (.fr ds)) : C1V K (rListOf K) Γ Θ (.dt (.tuple ds)) Q := fun L S0 σ τ S vx Qv E k => by
  obtain ⟨a, o, us, e, _, h, p⟩ := dp_tup E.dt
  exact ⟨a, us, by rw [e], .inr (sqt_f (E.sub _ _ h)), fun l hl => k Γ _ _ _ (E.pop.newLst hl p) q⟩
theorem c1_tupL {x : Tmp} {ds : List Dat} {Q : List Cell → Tmp → Prop} (hx : rd Γ x (.list ds)) (q : Q Γ (.dt (.tuple ds))) : C1V K (rTupOfF K) Γ Θ x Q := fun L S0 σ τ S vx Qv E k => by
  obtain ⟨a, us, e, h, p⟩ := rdB_l E hx
  exact ⟨a, us, by rw [e], .inl ⟨.of h, fun l o hd hl => k Γ _ _ _ (E.pop.newTup hd hl p) q⟩⟩
theorem c1_tupT {ds : List Dat} {Q : List Cell → Tmp → Prop} (q : Q Γ (.dt (.tuple ds))) : C1V K (rTupOfF K) Γ Θ (.dt (.tuple ds)) Q := fun L S0 σ τ S vx Qv E k => by
  obtain ⟨a, o, us, e, hd, h, p⟩ := dp_tup E.dt
  exact ⟨a, us, by rw [e], .inr ⟨sqt_f (E.sub _ _ h), k Γ S _ _ (E.pop.push (.tup hd h p)) q⟩⟩
/-! ### len(set(..)), reversed copies, slices -/
theorem ve_lenSet {ta : TE} {Q : List Cell → Tmp → Prop} (h : VE K Γ Θ ta fun Γ1 x => ∃ ns : List Int, rd Γ1 x (.list (ns.map .int)) ∧ ns.Nodup ∧ ns.length ≤ 4000 ∧ Q Γ1 (.dt (.int ns.length))) : VE K Γ Θ (RZ.tLenSetI K ta) Q := fun L S0 σ τ S Qv E k => h L S0 σ τ S _ E fun Γ1 S1 v x E1 ⟨ns, hx, h1, h2, q⟩ => by
  obtain ⟨a, e, h⟩ := intsL E1 hx
  exact ⟨a, ns, e, h, h1, h2, k Γ1 S1 _ _ (E1.pop.push (.int _)) q⟩
theorem ve_revL {ta : TE} {Q : List Cell → Tmp → Prop} (h : VE K Γ Θ ta fun Γ1 x => ∃ ds, rd Γ1 x (.list ds) ∧ Q Γ1 (.fr ds.reverse)) : VE K Γ Θ (tRevL K ta) Q := fun L S0 σ τ S Qv E k => h L S0 σ τ S _ E fun Γ1 S1 v x E1 ⟨ds, hx, q⟩ => by
  obtain ⟨a, us, e, h, p⟩ := rdB_l E1 hx
  exact ⟨a, us, e, .of h, fun l hl => k Γ1 _ _ _ (E1.pop.newLst hl p.rev) q⟩
theorem vo_none {Q : List Cell → Option Int → Prop} (q : Q Γ none) : VO K Γ Θ tNoPart Q := fun L S0 σ τ S Qv E k => k Γ S none E q
theorem vo_some {te : TE} {Q : List Cell → Option Int → Prop} (h : VE K Γ Θ te fun Γ1 x => ∃ i, x = .dt (.int i) ∧ Q Γ1 (some i)) : VO K Γ Θ (tPart te) Q := fun L S0 σ τ S Qv E k => h L S0 σ τ S _ E fun Γ1 S1 v x E1 ⟨i, ex, q⟩ => by
  subst ex
  exact ⟨i, dp_int E1.dt, k Γ1 S1 (some i) E1.pop q⟩
def cutD (xs : List Dat) (lo hi : Option Int) : List Dat := (xs.drop (HT.sIx xs.length 0 lo)).take (HT.sIx xs.length xs.length hi - HT.sIx xs.length 0 lo)
theorem dqa_cut {H : Hp} {vs : List V} {ds : List Dat} (h : DqAll H vs ds) (lo hi : Option Int) : DqAll H (cutV vs lo hi) (cutD ds lo hi) := by
  unfold cutV cutD
  rw [h.len]
  exact (h.drop _).take _
theorem ve_slL {te : TE} {tl th : TO} {Q : List Cell → Tmp → Prop} (h : VE K Γ Θ te fun Γ1 x => VO K Γ1 (x :: Θ) tl fun Γ2 lo => VO K Γ2 (x :: Θ) th fun Γ3 hi => ∃ ds, rd Γ3 x (.list ds) ∧ Q Γ3 (.fr (cutD ds lo hi))) : VE K Γ Θ (tSl (rSlL K) te tl th) Q := fun L S0 σ τ S Qv E k =>
  h L S0 σ τ S _ E fun Γ1 S1 v x E1 h1 => h1 L S0 σ _ S1 _ E1 fun Γ2 S2 lo E2 h2 => h2 L S0 σ _ S2 _ E2 fun Γ3 S3 hi E3 ⟨ds, hx, q⟩ => by
    obtain ⟨a, us, e, h, p⟩ := rdB_l E3 hx
    exact ⟨a, us, e, .of h, fun l hl => k Γ3 _ _ _ (E3.pop.newLst hl (dqa_cut p lo hi)) q⟩
theorem cutD_whole {ds : List Dat} {lo hi : Option Int} (h : HT.sIx ds.length 0 lo = 0 ∧ HT.sIx ds.length ds.length hi = ds.length) : cutD ds lo hi = ds := by
  unfold cutD
  rw [h.1, h.2, List.drop_zero, Nat.sub_zero, List.take_length]
theorem ve_slT {te : TE} {tl th : TO} {Q : List Cell → Tmp → Prop} (h : VE K Γ Θ te fun Γ1 x => VO K Γ1 (x :: Θ) tl fun Γ2 lo => VO K Γ2 (x :: Θ) th fun Γ3 hi => ∃ ds, x = .dt (.tuple ds) ∧ Q Γ3 (.dt (.tuple (cutD ds lo hi)))) : VE K Γ Θ (tSl (rSlF K) te tl th) Q := fun L S0 σ τ S Qv E k =>
  h L S0 σ τ S _ E fun Γ1 S1 v x E1 h1 => h1 L S0 σ _ S1 _ E1 fun Γ2 S2 lo E2 h2 => h2 L S0 σ _ S2 _ E2 fun Γ3 S3 hi E3 ⟨ds, hx, q⟩ => by
    subst hx
    obtain ⟨a, o, us, e, hd, h, p⟩ := dp_tup E3.dt
    refine ⟨a, us, e, sqt_f (E3.sub _ _ h), fun w => ?_, fun _ l o hd hl => k Γ3 _ _ _ (E3.pop.newTup hd hl (dqa_cut p lo hi)) q⟩
    rw [p.len] at w
    rw [cutD_whole w] at q
    exact k Γ3 S3 _ _ (E3.pop.push (.tup hd h p)) q
/-- t.index(x) -/
theorem ve_tidx {ta te : TE} {Q : List Cell → Tmp → Prop}
    (h : VE K Γ Θ ta fun Γ1 x => ∃ ds, x = .dt (.tuple ds) ∧ VE K Γ1 (x :: Θ) te fun Γ2 y => ∃ d j z, rd Γ2 y d ∧ flD d = true ∧ ds.all flD = true ∧ ds[j]? = some z ∧ eqF z d = true ∧ (∀ (m : Nat) z', m < j → ds[m]? = some z' → eqF z' d = false) ∧ Q Γ2 (.dt (.int (j : Nat)))) :
    VE K Γ Θ (tTIdx ta te) Q := fun L S0 σ τ S Qv E k => h L S0 σ τ S _ E fun Γ1 S1 vx x E1 ⟨ds, ex, h1⟩ => by
  subst ex
  obtain ⟨a, o, us, ea, hd, hu, pu⟩ := dp_tup E1.dt
  subst ea
  refine ⟨⟨a, o, us, rfl, hd, E1.sub _ _ hu⟩, h1 L S0 σ _ S1 _ E1 fun Γ2 S2 vy y E2 ⟨d, j, z, hy, f1, f2, hj, hz, hno, q⟩ => ?_⟩
  obtain ⟨a', o', zs, ea, hd', hs, p⟩ := dp_tup E2.pop.dt
  cases ea
  have p' := dpa_mono E2.sub _ _ p
  have gy := E2.rd hy
  obtain ⟨v, hv, gv⟩ := p'.get hj
  have fz : flD z = true := List.all_eq_true.mp f2 z (List.mem_of_getElem? hj)
  refine ⟨vy, rfl, a, o', zs, j, v, rfl, hd', E2.sub _ _ hs, dq_flat gy f1, dqa_flat p' f2, hv, (dq_eqF gv gy fz f1).trans hz, fun m z' hm hm' => ?_, k Γ2 S2 _ _ (E2.pop.pop.push (.int _)) q⟩
  obtain ⟨d', hd', gd'⟩ := p'.getV hm'
  rw [dq_eqF gd' gy (List.all_eq_true.mp f2 d' (List.mem_of_getElem? hd')) f1]
  exact hno m d' hm hd'
/-! ### methods of a list in a slot -/
theorem ve_append {i : Nat} {te : TE} {Q : List Cell → Tmp → Prop} (h0 : ∃ ds, IsLs Γ i ds) (h : VX K Γ Θ te fun Γ1 a => ∃ d ds, a = .dt d ∧ IsLs Γ1 i ds ∧ ds.length < sizeLine ∧ Q (putC Γ1 i (ds ++ [d])) (.dt .none)) : VE K Γ Θ (tBM K "list" rAppend (tVar i) (tCons te tNil)) Q := fun L S0 σ τ S Qv E k => by
  obtain ⟨ds0, c0, hc0, hl0⟩ := h0
  obtain ⟨a, ea, _, us, hu, _⟩ := E.own hc0 hl0
  refine ⟨_, ea, .inl ⟨rfl, us, .of hu⟩, h L S0 σ τ S _ E fun Γ1 S1 v x E1 ⟨d, ds, ex, ⟨c, hc, hl⟩, hz, q⟩ => ?_⟩
  subst ex
  obtain ⟨a', vs, ea', hv, p, mk⟩ := E1.pop.mutSlot hc hl
  rw [ea] at ea'; cases ea'
  have hd : Dq S1.b v d := E1.dt
  rw [putC_eq hc] at q
  exact ⟨a, vs, v, rfl, rfl, hv, by rw [p.len]; exact hz, k _ _ _ _ ((mk _ _ (p.app (.one hd))).push .non) q⟩
def rInsert : V → List V → Hp → VK → Prop := fun x vs H Q => ∃ (l : Addr) (xs : List V) (i : Int) (y : V), x = .ref l ∧ vs = [.int i, y] ∧ H l = some (.lst xs) ∧ xs.length < sizeLine ∧ 0 ≤ i ∧ i < 2 ^ 63 ∧ Q .non (upd H l (.lst (xs.take i.toNat ++ [y] ++ xs.drop i.toNat)))
theorem cm_insert {X : Cx} : MtR X "list.insert" rInsert := mt_insert
theorem ve_insert {i : Nat} {ti te : TE} {Q : List Cell → Tmp → Prop} (h0 : ∃ ds, IsLs Γ i ds)
    (h : VX K Γ Θ ti fun Γ1 b => VX K Γ1 (b.tmp :: Θ) te fun Γ2 a => ∃ j d ds, b = .dt (.int j) ∧ a = .dt d ∧ IsLs Γ2 i ds ∧ ds.length < sizeLine ∧ 0 ≤ j ∧ j < 2 ^ 63 ∧ Q (putC Γ2 i (ds.take j.toNat ++ [d] ++ ds.drop j.toNat)) (.dt .none)) :
    VE K Γ Θ (tBM K "list" rInsert (tVar i) (tCons ti (tCons te tNil))) Q := fun L S0 σ τ S Qv E k => by
  obtain ⟨ds0, c0, hc0, hl0⟩ := h0
  obtain ⟨a, ea, _, us, hu, _⟩ := E.own hc0 hl0
  refine ⟨_, ea, .inl ⟨rfl, us, .of hu⟩, h L S0 σ τ S _ E fun Γ1 S1 vj b E1 h1 => h1 L S0 σ _ S1 _ E1 fun Γ2 S2 v x E2 ⟨j, d, ds, eb, ex, ⟨c, hc, hl⟩, hz, hj0, hj1, q⟩ => ?_⟩
  subst ex eb
  obtain ⟨a', vs, ea', hv, p, mk⟩ := E2.pop.pop.mutSlot hc hl
  rw [ea] at ea'; cases ea'
  have hd : Dq S2.b v d := E2.dt
  have ej : vj = .int j := dp_int (show Dq S2.b vj (.int j) from E2.pop.dt)
  rw [putC_eq hc] at q
  exact ⟨a, vs, j, v, rfl, by rw [ej], hv, by rw [p.len]; exact hz, hj0, hj1, k _ _ _ _ ((mk _ _ (((p.take _).app (.one hd)).app (p.drop _))).push .non) q⟩
theorem ve_extend {i : Nat} {te : TE} {Q : List Cell → Tmp → Prop} (h0 : ∃ ds, IsLs Γ i ds) (h : VX K Γ Θ te fun Γ1 a => ∃ es ds, a = .dt (.list es) ∧ IsLs Γ1 i ds ∧ ds.length + es.length ≤ sizeLine ∧ Q (putC Γ1 i (ds ++ es)) (.dt .none)) : VE K Γ Θ (tBM K "list" rExtend (tVar i) (tCons te tNil)) Q := fun L S0 σ τ S Qv E k => by
  obtain ⟨ds0, c0, hc0, hl0⟩ := h0
  obtain ⟨a, ea, _, us, hu, _⟩ := E.own hc0 hl0
  refine ⟨_, ea, .inl ⟨rfl, us, .of hu⟩, h L S0 σ τ S _ E fun Γ1 S1 v x E1 ⟨es, ds, ex, ⟨c, hc, hl⟩, hz, q⟩ => ?_⟩
  subst ex
  obtain ⟨a', vs, ea', hv, p, mk⟩ := E1.pop.mutSlot hc hl
  rw [ea] at ea'; cases ea'
  obtain ⟨b, zs, eb, hb, pb⟩ := dp_list (show Dq S1.b v (.list es) from E1.dt)
  rw [putC_eq hc] at q
  exact ⟨a, b, vs, zs, rfl, by rw [eb], hv, E1.sub _ _ hb, by rw [p.len, pb.len]; exact hz, k _ _ _ _ ((mk _ _ (p.app pb)).push .non) q⟩
/-- l.index(x), flat -/
theorem ve_indexL {ta te : TE} {Q : List Cell → Tmp → Prop}
    (h : VE K Γ Θ ta fun Γ1 x => (∃ ds, rd Γ1 x (.list ds)) ∧ VE K Γ1 (x :: Θ) te fun Γ2 y => ∃ ds d j z, rd Γ2 x (.list ds) ∧ rd Γ2 y d ∧ flD d = true ∧ ds.all flD = true ∧ ds[j]? = some z ∧ eqF z d = true ∧ (∀ (m : Nat) z', m < j → ds[m]? = some z' → eqF z' d = false) ∧ Q Γ2 (.dt (.int (j : Nat)))) :
    VE K Γ Θ (tBM K "list" (rIndex K) ta (tCons te tNil)) Q := fun L S0 σ τ S Qv E k => h L S0 σ τ S _ E fun Γ1 S1 vx x E1 ⟨⟨ds0, hx0⟩, h1⟩ => by
  obtain ⟨a, us, ea, hu, _⟩ := rdB_l E1 hx0
  subst ea
  refine ⟨.inl ⟨rfl, us, .of hu⟩, h1 L S0 σ _ S1 _ E1 fun Γ2 S2 vy y E2 ⟨ds, d, j, z, hx, hy, f1, f2, hj, hz, hno, q⟩ => ?_⟩
  obtain ⟨a', zs, ea, hs, p⟩ := dp_list (E2.pop.rd hx)
  cases ea
  have gy := E2.rd hy
  obtain ⟨v, hv, gv⟩ := p.get hj
  have fz : flD z = true := List.all_eq_true.mp f2 z (List.mem_of_getElem? hj)
  refine ⟨a, zs, vy, j, v, rfl, rfl, .of hs, dq_flat gy f1, dqa_flat p f2, hv, (dq_eqF gv gy fz f1).trans hz, fun m z' hm hm' => ?_, k Γ2 S2 _ _ (E2.pop.pop.push (.int _)) q⟩
  obtain ⟨d', hd', gd'⟩ := p.getV hm'
  rw [dq_eqF gd' gy (List.all_eq_true.mp f2 d' (List.mem_of_getElem? hd')) f1]
  exact hno m d' hm hd'
end
end Ld
set_option Elab.async false
set_option linter.all false
set_option maxRecDepth 100000
namespace Ld
open PySem PySem.Spec PyProof.Rows L2 Lx
/-! ### statements: what is under way are the sources of the loops around -/
def srcT (ss : List Dat) : List Tmp := ss.map .dt
theorem nb_src {i : Nat} {ss : List Dat} : ∀ t ∈ srcT ss, t ≠ Tmp.br i := fun t ht e => by
  obtain ⟨d, _, rfl⟩ := List.mem_map.mp ht
  cases e
def VSs (K : PySem.W.Frag) (Γ : List Cell) (t : TS) (R : DE) : Prop := ∀ ss : List Dat, VS K Γ (srcT ss) t R
section
variable {K : PySem.W.Frag} {Γ : List Cell} {Θ : List Tmp}
abbrev DE.wn (R : DE) (n : List Cell → Prop) : DE := { R with nx := n }
theorem ss_seq {t u : TS} {R : DE} (h : VSs K Γ t (R.wn fun Γ' => VSs K Γ' u R)) : VSs K Γ (tSeq t u) R := fun ss L S0 σ τ S D E kn kr kb kc =>
  h ss L S0 σ τ S { D with nx := u D } E (fun Γ' σ' S' E' q => q ss L S0 σ' τ S' D E' kn kr kb kc) kr kb kc
theorem ss_next {R : DE} (h : R.nx Γ) : VSs K Γ tNext R := fun ss L S0 σ τ S D E kn kr kb kc => kn Γ σ S E h
theorem ss_cont {R : DE} (h : R.ct Γ) : VSs K Γ tCont R := fun ss L S0 σ τ S D E kn kr kb kc => kc Γ σ S E h
theorem ss_ret {te : TE} {R : DE} (h : ∀ ss, VD K Γ (srcT ss) te R.rt) : VSs K Γ (tRet te) R := fun ss L S0 σ τ S D E kn kr kb kc =>
  h ss L S0 σ τ S D.rt E fun Γ' S' v d E' q => kr Γ' σ S' v d E'.pop E'.dt q
theorem ss_retN {R : DE} (h : R.rt Γ .none) : VSs K Γ tRetN R := fun ss L S0 σ τ S D E kn kr kb kc => kr Γ σ S .non .none E .non h
theorem ss_drop {te : TE} {R : DE} (h : ∀ ss, VE K Γ (srcT ss) te fun Γ1 _ => R.nx Γ1) : VSs K Γ (tDrop te) R := fun ss L S0 σ τ S D E kn kr kb kc =>
  h ss L S0 σ τ S _ E fun Γ' S' v c E' q => kn Γ' σ S' E'.pop q
theorem ss_if {c : TT} {t u : TS} {R : DE} (h : ∀ ss, VT K Γ (srcT ss) c fun Γ1 b => (b = true → VSs K Γ1 t R) ∧ (b = false → VSs K Γ1 u R)) : VSs K Γ (tIfS c t u) R := fun ss L S0 σ τ S D E kn kr kb kc =>
  h ss L S0 σ τ S _ E fun Γ' S' b E' q => by
    cases b with
    | true => rw [if_pos rfl]; exact q.1 rfl ss L S0 σ τ S' D E' kn kr kb kc
    | false => rw [if_neg Bool.false_ne_true]; exact q.2 rfl ss L S0 σ τ S' D E' kn kr kb kc
/-- a stored value's cell -/
def Sto (Γ : List Cell) (i : Nat) (Q : List Cell → Prop) : Tmp → Prop
  | .dt d => Q (Γ.set i (.dt d))
  | .fr ds => Q (Γ.set i (.ow ds))
  | .br j => ∃ ds, Γ[j]? = some (.ow ds) ∧ Q ((Γ.set j (.dt (.list ds))).set i (.dt (.list ds)))
  | .sc _ => False
  | .ob p => Q (Γ.set i (.ob p))
  | .li R => Q (Γ.set i (.li R))
theorem ss_set {i : Nat} {te : TE} {R : DE} (h : ∀ ss, VE K Γ (srcT ss) te fun Γ1 c => Sto Γ1 i R.nx c) : VSs K Γ (tAsg te (gName i)) R := fun ss L S0 σ τ S D E kn kr kb kc =>
  h ss L S0 σ τ S _ E fun Γ' S' v c E' q => by
    cases c with
    | dt d => exact kn _ _ S' (E'.pop.setDt nb_src E'.dt) q
    | fr ds => exact kn _ _ S' (E'.setFr nb_src) q
    | sc ns => exact q.elim
    | ob pp => exact kn _ _ S' (E'.setOb nb_src) q
    | li R => exact kn _ _ S' (E'.setLi nb_src) q
    | br j =>
      obtain ⟨ds, hj, q⟩ := q
      obtain ⟨S2, e, E2⟩ := E'.frzSlot hj
      obtain ⟨w, h1, z2, h2⟩ := id E2.ok
      obtain ⟨u, eu, qu⟩ := h1 j _ (List.getElem?_set_self (List.getElem?_eq_some_iff.mp hj).1)
      have z2' : σ[j]? = some (some v) := z2
      rw [z2'] at eu; cases eu
      show D.nx _ S'.h
      rw [← e]
      exact kn _ _ S2 (E2.pop.setDt nb_src qu) q
end
section
variable {K : PySem.W.Frag} {Γ : List Cell} {Θ : List Tmp} {L : Addr → Prop} {S0 S : Hs} {σ : L2.St} {τ : List V}
/-- what is second is taken out -/
theorem Env.swap {x y : Tmp} {u v : V} (E : Env K L S0 Γ (y :: x :: Θ) σ (v :: u :: τ) S) : Env K L S0 Γ (x :: y :: Θ) σ (u :: v :: τ) S := by
  obtain ⟨w, g1, g3, g2, g4⟩ := E.ok
  refine ⟨E.gr, E.sub, E.len, fun a => match w a with
    | some (.inr n) => if n = Θ.length then some (.inr (n + 1)) else if n = Θ.length + 1 then some (.inr Θ.length) else some (.inr n)
    | o => o, fun i c e => ?_, ?_, ?_, g4.imp fun n t q hn z => ?_⟩
  · have q := g1 i c e
    cases c with
    | no => trivial
    | dt d => exact q
    | ow ds => obtain ⟨a, e, o, n⟩ := q; exact ⟨a, e, ⟨o.nb, by simp only [o.at_], o.is⟩, n⟩
    | ln ds => obtain ⟨a, e, o, n⟩ := q; exact ⟨a, e, ⟨o.nb, by simp only [o.at_], o.is⟩, n⟩
    | sc ns => exact q
    | ob pp => obtain ⟨a, e, o, n⟩ := q; exact ⟨a, e, ⟨o.nb, by simp only [o.at_], o.is⟩, n⟩
    | li R => obtain ⟨a, e, o⟩ := q; exact ⟨a, e, o.reK (fun x ho => by simp only [ho]) fun _ h => h⟩
  · cases x with
    | dt d => exact g2
    | fr ds => obtain ⟨a, e, o, n⟩ := g2; exact ⟨a, e, ⟨o.nb, by simp only [o.at_, if_pos, List.length_cons], o.is⟩, n⟩
    | br i => exact g2
    | sc ns => exact g2
    | ob pp => obtain ⟨a, e, o, n⟩ := g2; exact ⟨a, e, ⟨o.nb, by simp only [o.at_, if_pos, List.length_cons], o.is⟩, n⟩
    | li R => obtain ⟨a, e, o⟩ := g2; exact ⟨a, e, o.reK (fun x ho => by simp only [ho, if_pos, List.length_cons]) fun _ h => h⟩
  · cases y with
    | dt d => exact g3
    | fr ds => obtain ⟨a, e, o, n⟩ := g3; exact ⟨a, e, ⟨o.nb, by simp only [o.at_, List.length_cons, if_neg (Nat.succ_ne_self _), if_pos], o.is⟩, n⟩
    | br i => exact g3
    | sc ns => exact g3
    | ob pp => obtain ⟨a, e, o, n⟩ := g3; exact ⟨a, e, ⟨o.nb, by simp only [o.at_, List.length_cons, if_neg (Nat.succ_ne_self _), if_pos], o.is⟩, n⟩
    | li R => obtain ⟨a, e, o⟩ := g3; exact ⟨a, e, o.reK (fun x ho => by simp only [ho, List.length_cons, if_neg (Nat.succ_ne_self _), if_pos]) fun _ h => h⟩
  · cases q with
    | dt d => exact z
    | fr ds => obtain ⟨a, e, o, m⟩ := z; exact ⟨a, e, ⟨o.nb, by simp only [o.at_, if_neg (Nat.ne_of_lt hn), if_neg (Nat.ne_of_lt (Nat.lt_succ_of_lt hn))], o.is⟩, m⟩
    | br i => exact z
    | sc ns => exact z
    | ob pp => obtain ⟨a, e, o, m⟩ := z; exact ⟨a, e, ⟨o.nb, by simp only [o.at_, if_neg (Nat.ne_of_lt hn), if_neg (Nat.ne_of_lt (Nat.lt_succ_of_lt hn))], o.is⟩, m⟩
    | li R => obtain ⟨a, e, o⟩ := z; exact ⟨a, e, o.reK (fun x ho => by simp only [ho, if_neg (Nat.ne_of_lt hn), if_neg (Nat.ne_of_lt (Nat.lt_succ_of_lt hn))]) fun _ h => h⟩
/-- data or a new list, stored -/
def St1 (Γ : List Cell) (i : Nat) : Tmp → Option (List Cell)
  | .dt d => some (Γ.set i (.dt d))
  | .fr ds => some (Γ.set i (.ow ds))
  | .ob p => some (Γ.set i (.ob p))
  | .li R => some (Γ.set i (.li R))
  | _ => none
theorem Env.st1 {i : Nat} {c : Tmp} {v : V} {Γ' : List Cell} (E : Env K L S0 Γ (c :: Θ) σ (v :: τ) S) (hb : ∀ t ∈ Θ, t ≠ .br i) (h : St1 Γ i c = some Γ') : Env K L S0 Γ' Θ (σ.set i (some v)) τ S := by
  cases c with
  | dt d => cases h; exact E.pop.setDt hb E.dt
  | fr ds => cases h; exact E.setFr hb
  | br j => cases h
  | sc ns => cases h
  | ob pp => cases h; exact E.setOb hb
  | li R => cases h; exact E.setLi hb
end
section
variable {K : PySem.W.Frag} {Γ : List Cell} {Θ : List Tmp}
/-- a, b = x, y -/
theorem ss_par {i j : Nat} {ta tb : TE} {R : DE} (h : ∀ ss, VE K Γ (srcT ss) ta fun Γ1 x => VE K Γ1 (x :: srcT ss) tb fun Γ2 y => (∀ k, x ≠ .br k) ∧ ∃ Γ3 Γ4, St1 Γ2 i x = some Γ3 ∧ St1 Γ3 j y = some Γ4 ∧ R.nx Γ4) : VSs K Γ (tPar i j (tCons ta (tCons tb tNil))) R := fun ss L S0 σ τ S D E kn kr kb kc =>
  h ss L S0 σ τ S _ E fun Γ1 S1 u x E1 h1 => h1 L S0 σ _ S1 _ E1 fun Γ2 S2 v y E2 ⟨nx, Γ3, Γ4, e3, e4, q⟩ => by
    refine ⟨u, v, rfl, ?_⟩
    have ny : y ≠ .br i := fun z => by subst z; cases e4
    exact kn Γ4 _ S2 (((E2.swap).st1 (fun t ht => by
      rcases List.mem_cons.mp ht with rfl | ht
      · exact ny
      · exact nb_src t ht) e3).st1 nb_src e4) q
theorem ss_par3 {i j l : Nat} {ta tb tc : TE} {R : DE} (h : ∀ ss, VE K Γ (srcT ss) ta fun Γ1 x => VE K Γ1 (x :: srcT ss) tb fun Γ2 y => VE K Γ2 (y :: x :: srcT ss) tc fun Γ3 z => ∃ Γ4 Γ5 Γ6, St1 Γ3 i x = some Γ4 ∧ St1 Γ4 j y = some Γ5 ∧ St1 Γ5 l z = some Γ6 ∧ R.nx Γ6) :
    VSs K Γ (tPar3 i j l (tCons ta (tCons tb (tCons tc tNil)))) R := fun ss L S0 σ τ S D E kn kr kb kc =>
  h ss L S0 σ τ S _ E fun Γ1 S1 u x E1 h1 => h1 L S0 σ _ S1 _ E1 fun Γ2 S2 v y E2 h2 => h2 L S0 σ _ S2 _ E2 fun Γ3 S3 w z E3 ⟨Γ4, Γ5, Γ6, e4, e5, e6, q⟩ => by
    refine ⟨u, v, w, rfl, ?_⟩
    have ny : ∀ k, y ≠ .br k := fun k z => by subst z; cases e5
    have nz : ∀ k, z ≠ .br k := fun k q => by subst q; cases e6
    -- z :: y :: x  ->  x first
    obtain ⟨wd, g1, gz, gy, gx, g4⟩ := id E3.ok
    have E4 : Env K L S0 Γ3 (y :: x :: srcT ss) σ (v :: u :: τ) S3 := E3.pop
    -- store z last: keep it by storing x, y under it
    have a1 : Env K L S0 Γ3 (y :: z :: x :: srcT ss) σ (v :: w :: u :: τ) S3 := E3.swap
    have a2 : ∃ E' : True, Env K L S0 Γ3 (x :: z :: y :: srcT ss) σ (u :: w :: v :: τ) S3 := by
      -- rotate by hand: the word w over the three places
      refine ⟨trivial, E3.gr, E3.sub, E3.len, fun a => match wd a with
        | some (.inr n) => if n = ss.length then some (.inr (n + 2)) else if n = ss.length + 1 then some (.inr ss.length) else if n = ss.length + 2 then some (.inr (ss.length + 1)) else some (.inr n)
        | o => o, fun i c e => ?_, ?_, ?_, ?_, g4.imp fun n t q hn z => ?_⟩
      · have q := g1 i c e
        cases c with
        | no => trivial
        | dt d => exact q
        | ow ds => obtain ⟨a, e, o, n⟩ := q; exact ⟨a, e, ⟨o.nb, by simp only [o.at_], o.is⟩, n⟩
        | ln ds => obtain ⟨a, e, o, n⟩ := q; exact ⟨a, e, ⟨o.nb, by simp only [o.at_], o.is⟩, n⟩
        | sc ns => exact q
        | ob pp => obtain ⟨a, e, o, n⟩ := q; exact ⟨a, e, ⟨o.nb, by simp only [o.at_], o.is⟩, n⟩
        | li R => obtain ⟨a, e, o⟩ := q; exact ⟨a, e, o.reK (fun x ho => by simp only [ho]) fun _ h => h⟩
      · cases x with
        | dt d => exact gx
        | fr ds => obtain ⟨a, e, o, n⟩ := gx; exact ⟨a, e, ⟨o.nb, by simp [o.at_, srcT] <;> omega, o.is⟩, n⟩
        | br i => exact gx
        | sc ns => exact gx
        | ob pp => obtain ⟨a, e, o, n⟩ := gx; exact ⟨a, e, ⟨o.nb, by simp [o.at_, srcT] <;> omega, o.is⟩, n⟩
        | li R => obtain ⟨a, e, o⟩ := gx; exact ⟨a, e, o.reK (fun x ho => by simp [ho, srcT] <;> omega) fun _ h => h⟩
      · cases z with
        | dt d => exact gz
        | fr ds => obtain ⟨a, e, o, n⟩ := gz; exact ⟨a, e, ⟨o.nb, by simp [o.at_, srcT] <;> omega, o.is⟩, n⟩
        | br i => exact gz
        | sc ns => exact gz
        | ob pp => obtain ⟨a, e, o, n⟩ := gz; exact ⟨a, e, ⟨o.nb, by simp [o.at_, srcT] <;> omega, o.is⟩, n⟩
        | li R => obtain ⟨a, e, o⟩ := gz; exact ⟨a, e, o.reK (fun x ho => by simp [ho, srcT] <;> omega) fun _ h => h⟩
      · cases y with
        | dt d => exact gy
        | fr ds => obtain ⟨a, e, o, n⟩ := gy; exact ⟨a, e, ⟨o.nb, by simp [o.at_, srcT] <;> omega, o.is⟩, n⟩
        | br i => exact gy
        | sc ns => exact gy
        | ob pp => obtain ⟨a, e, o, n⟩ := gy; exact ⟨a, e, ⟨o.nb, by simp [o.at_, srcT] <;> omega, o.is⟩, n⟩
        | li R => obtain ⟨a, e, o⟩ := gy; exact ⟨a, e, o.reK (fun x ho => by simp [ho, srcT] <;> omega) fun _ h => h⟩
      · have hn' : n < ss.length := by simpa [srcT] using hn
        cases q with
        | dt d => exact z
        | fr ds => obtain ⟨a, e, o, m⟩ := z; exact ⟨a, e, ⟨o.nb, by simp only [o.at_, if_neg (Nat.ne_of_lt hn'), if_neg (show n ≠ ss.length + 1 by omega), if_neg (show n ≠ ss.length + 2 by omega)], o.is⟩, m⟩
        | br i => exact z
        | sc ns => exact z
        | ob pp => obtain ⟨a, e, o, m⟩ := z; exact ⟨a, e, ⟨o.nb, by simp only [o.at_, if_neg (Nat.ne_of_lt hn'), if_neg (show n ≠ ss.length + 1 by omega), if_neg (show n ≠ ss.length + 2 by omega)], o.is⟩, m⟩
        | li R => obtain ⟨a, e, o⟩ := z; exact ⟨a, e, o.reK (fun x ho => by simp only [ho, if_neg (Nat.ne_of_lt hn'), if_neg (show n ≠ ss.length + 1 by omega), if_neg (show n ≠ ss.length + 2 by omega)]) fun _ h => h⟩
    obtain ⟨_, a2⟩ := a2
    have a3 := a2.st1 (Γ' := Γ4) (fun t ht => by
      rcases List.mem_cons.mp ht with rfl | ht
      · exact nz i
      · rcases List.mem_cons.mp ht with rfl | ht
        · exact ny i
        · exact nb_src t ht) e4
    have a4 := (a3.swap).st1 (Γ' := Γ5) (fun t ht => by
      rcases List.mem_cons.mp ht with rfl | ht
      · exact nz j
      · exact nb_src t ht) e5
    exact kn Γ6 _ S3 (a4.st1 nb_src e6) q
/-- xs[i] = e, a list of one's own -/
theorem ss_setL {j : Nat} {te ti : TE} {R : DE} (h : ∀ ss, VX K Γ (srcT ss) te fun Γ1 a => (∃ ds, IsLs Γ1 j ds) ∧ VE K Γ1 (a.tmp :: srcT ss) ti fun Γ2 y => ∃ d i ds k, a = .dt d ∧ y = .dt (.int i) ∧ IsLs Γ2 j ds ∧ ixN ds.length i = some k ∧ R.nx (putC Γ2 j (ds.set k d))) :
    VSs K Γ (tAsg te (gSub (tVar j) ti rSetL)) R := fun ss L S0 σ τ S D E kn kr kb kc => h ss L S0 σ τ S _ E fun Γ1 S1 v a E1 ⟨⟨ds0, c0, hc0, hl0⟩, h1⟩ => by
  obtain ⟨l, el, _⟩ := E1.own hc0 hl0
  refine ⟨_, el, h1 L S0 σ _ S1 _ E1 fun Γ2 S2 vi y E2 ⟨d, i, ds, k, ea, ey, ⟨c, hc, hl⟩, hk, q⟩ => ?_⟩
  subst ea ey
  obtain ⟨l', vs, el', hv, p, mk⟩ := E2.pop.pop.mutSlot hc hl
  rw [el] at el'; cases el'
  have hd : Dq S2.b v d := E2.pop.dt
  rw [putC_eq hc] at q
  exact ⟨l, vs, i, k, rfl, dp_int E2.dt, hv, by rw [p.len]; exact hk, kn _ _ _ (mk _ _ (p.set hd k)) q⟩
theorem dqa_one {H : Hp} {v : V} {d : Dat} (h : DqAll H [v] [d]) : Dq H v d := by cases h with | cons a _ => exact a
theorem dqa_two {H : Hp} {u v : V} {d e : Dat} (h : DqAll H [u, v] [d, e]) : Dq H u d ∧ Dq H v e := by cases h with | cons a b => exact ⟨a, dqa_one b⟩
theorem src_l {K : PySem.W.Frag} {S : Hs} {a : Addr} {ds : List Dat} (sub : Same S.b S.h) (h : Dq S.b (.ref a) (.list ds)) : ∃ ys, SqL K S.h a ys ∧ DqAll S.b ys ds := by
  obtain ⟨b, ys, eb, hy, py⟩ := dp_list h
  cases eb
  exact ⟨ys, SqL.of (sub _ _ hy), py⟩
theorem src_t {K : PySem.W.Frag} {S : Hs} {a : Addr} {ds : List Dat} (sub : Same S.b S.h) (h : Dq S.b (.ref a) (.tuple ds)) : ∃ ys, SqT K S.h a ys ∧ DqAll S.b ys ds := by
  obtain ⟨b, o, ys, eb, _, hy, py⟩ := dp_tup h
  cases eb
  exact ⟨ys, sqt_f (sub _ _ hy), py⟩
/-- an item that a loop gives: data, or a pair that was just made -/
def Itm (H : Hp) (v : V) (d : Dat) : Bool → Prop
  | false => Dq H v d
  | true => ∃ a xs ds, v = .ref a ∧ d = .tuple ds ∧ H a = some (.tup xs) ∧ DqAll H xs ds
/-! ### what a loop walks -/
structure Dw (K : PySem.W.Frag) (J : It) (srcs : List Dat) (τ1 : List V) (pr : Bool) (ds : List Dat) : Prop where
  go : ∀ (S : Hs) i, Same S.b S.h → DqAll S.b τ1 srcs → i < ds.length → J.go i S.h
  stop : ∀ (S : Hs), Same S.b S.h → DqAll S.b τ1 srcs → J.stop ds.length S.h
  yld : ∀ (S : Hs) i x H', Same S.b S.h → DqAll S.b τ1 srcs → i < ds.length → J.yld i S.h x H' → ∃ S' d, S'.h = H' ∧ Gr L0 S S' ∧ Same S'.b S'.h ∧ ds[i]? = some d ∧ Itm S'.b x d pr
def VI (K : PySem.W.Frag) (Γ : List Cell) (Θ : List Tmp) (wi : TI) (Q : List Cell → Bool → List Dat → Prop) : Prop := ∀ (L : Addr → Prop) (S0 : Hs) (σ : L2.St) (τ : List V) (S : Hs) (R : It → Hp → Prop), Env K L S0 Γ Θ σ τ S →
  (∀ Γ' srcs τ1 S' J pr ds, Env K L S0 Γ' (srcT srcs ++ Θ) σ (τ1 ++ τ) S' → τ1.length = srcs.length → Dw K J srcs τ1 pr ds → Q Γ' pr ds → R J S'.h) → wi σ S.h R
theorem srcs_ok {L : Addr → Prop} {S0 S : Hs} {σ : L2.St} {τ : List V} {w : Wh} : ∀ {srcs : List Dat} {τ1 : List V}, TmpsOk K S0 w S σ (srcT srcs ++ Θ) (τ1 ++ τ) → τ1.length = srcs.length → DqAll S.b τ1 srcs
  | [], [], _, _ => .nil
  | d :: ds, v :: vs, h, e => .cons h.1 (srcs_ok (L := L) h.2 (by simpa using e))
  | [], _ :: _, _, e => by cases e
  | _ :: _, [], _, e => by cases e
theorem Env.srcs {L : Addr → Prop} {S0 S : Hs} {σ : L2.St} {τ τ1 : List V} {srcs : List Dat} (E : Env K L S0 Γ (srcT srcs ++ Θ) σ (τ1 ++ τ) S) (e : τ1.length = srcs.length) : DqAll S.b τ1 srcs := by
  obtain ⟨w, _, h⟩ := E.ok
  exact srcs_ok (L := L) h e
theorem Env.unsrc {L : Addr → Prop} {S0 S : Hs} {σ : L2.St} {τ : List V} : ∀ {srcs : List Dat} {τ1 : List V}, Env K L S0 Γ (srcT srcs ++ Θ) σ (τ1 ++ τ) S → τ1.length = srcs.length → Env K L S0 Γ Θ σ τ S
  | [], [], E, _ => E
  | d :: ds, v :: vs, E, e => Env.unsrc (srcs := ds) (τ1 := vs) E.pop (by simpa using e)
  | [], _ :: _, _, e => by cases e
  | _ :: _, [], _, e => by cases e
/-- a list -/
theorem vi_list {te : TE} {Q : List Cell → Bool → List Dat → Prop} (h : VD K Γ Θ te fun Γ1 d => ∃ ds, d = .list ds ∧ Q Γ1 false ds) : VI K Γ Θ (iList K te) Q := fun L S0 σ τ S R E k => h L S0 σ τ S _ E fun Γ1 S1 v d E1 ⟨ds, ed, q⟩ => by
  subst ed
  obtain ⟨a, xs, ev, hx, p⟩ := dp_list E1.dt
  subst ev
  refine ⟨a, rfl, ⟨xs, .of (E1.sub _ _ hx)⟩, k Γ1 [.list ds] [.ref a] S1 _ false ds E1 rfl ⟨fun S i sub hs hi => ?_, fun S sub hs => ?_, fun S i x H' sub hs hi y => ?_⟩ q⟩
  · obtain ⟨ys, hy', py⟩ := src_l (K := K) sub (dqa_one hs)
    obtain ⟨z, hz, _⟩ := py.get (List.getElem?_eq_getElem hi)
    exact ⟨ys, z, hy', hz⟩
  · obtain ⟨ys, hy', py⟩ := src_l (K := K) sub (dqa_one hs)
    exact ⟨ys, hy', Nat.le_of_eq py.len⟩
  · obtain ⟨ys, hy', py⟩ := src_l (K := K) sub (dqa_one hs)
    obtain ⟨rfl, y⟩ := y
    obtain ⟨d, hd, gd⟩ := py.getV (y ys hy')
    exact ⟨S, d, rfl, Gr.refl _ _, sub, hd, gd⟩
theorem vi_tup {te : TE} {Q : List Cell → Bool → List Dat → Prop} (h : VD K Γ Θ te fun Γ1 d => ∃ ds, d = .tuple ds ∧ Q Γ1 false ds) : VI K Γ Θ (iTup K te) Q := fun L S0 σ τ S R E k => h L S0 σ τ S _ E fun Γ1 S1 v d E1 ⟨ds, ed, q⟩ => by
  subst ed
  obtain ⟨a, o, xs, ev, _, hx, p⟩ := dp_tup E1.dt
  subst ev
  refine ⟨a, rfl, ⟨xs, sqt_f (E1.sub _ _ hx)⟩, k Γ1 [.tuple ds] [.ref a] S1 _ false ds E1 rfl ⟨fun S i sub hs hi => ?_, fun S sub hs => ?_, fun S i x H' sub hs hi y => ?_⟩ q⟩
  · obtain ⟨ys, hy', py⟩ := src_t (K := K) sub (dqa_one hs)
    obtain ⟨z, hz, _⟩ := py.get (List.getElem?_eq_getElem hi)
    exact ⟨ys, z, hy', hz⟩
  · obtain ⟨ys, hy', py⟩ := src_t (K := K) sub (dqa_one hs)
    exact ⟨ys, hy', Nat.le_of_eq py.len⟩
  · obtain ⟨ys, hy', py⟩ := src_t (K := K) sub (dqa_one hs)
    obtain ⟨rfl, y⟩ := y
    obtain ⟨d, hd, gd⟩ := py.getV (y ys hy')
    exact ⟨S, d, rfl, Gr.refl _ _, sub, hd, gd⟩
def rngD (lo hi : Int) : List Dat := (List.range (hi - lo).toNat).map fun i => .int (lo + (i : Nat))
theorem rngD_len {lo hi : Int} : (rngD lo hi).length = (hi - lo).toNat := by unfold rngD; rw [List.length_map, List.length_range]
theorem rngD_at {lo hi : Int} {i : Nat} (h : i < (hi - lo).toNat) : (rngD lo hi)[i]? = some (.int (lo + (i : Nat))) := by
  unfold rngD
  rw [List.getElem?_map, List.getElem?_eq_getElem (by rw [List.length_range]; exact h), List.getElem_range] <;> rfl
theorem dw_rng {lo : Int} {hi : Int} : Dw K (Itr lo (hi - lo).toNat) [] [] false (rngD lo hi) :=
  ⟨fun S i _ _ h => by rw [rngD_len] at h; exact h, fun S _ _ => by rw [rngD_len]; exact Nat.le_refl _, fun S i x H' sub _ hi y => by
    obtain ⟨rfl, rfl⟩ := y
    rw [rngD_len] at hi
    exact ⟨S, _, rfl, Gr.refl _ _, sub, rngD_at hi, .int _⟩⟩
theorem vi_rng1 {te : TE} {Q : List Cell → Bool → List Dat → Prop} (h : VE K Γ Θ te fun Γ1 x => ∃ n, x = .dt (.int n) ∧ -(2 ^ 62) ≤ n ∧ n < 2 ^ 62 ∧ Q Γ1 false (rngD 0 n)) : VI K Γ Θ (iRng1 (tCons te tNil)) Q := fun L S0 σ τ S R E k => h L S0 σ τ S _ E fun Γ1 S1 v x E1 ⟨n, ex, h1, h2, q⟩ => by
  subst ex
  refine ⟨n, by rw [dp_int E1.dt], h1, h2, ?_⟩
  have w := dw_rng (K := K) (lo := 0) (hi := n)
  rw [Int.sub_zero] at w
  exact k Γ1 [] [] S1 _ false _ E1.pop rfl w q
theorem vi_rng2 {ta tb : TE} {Q : List Cell → Bool → List Dat → Prop} (h : VE K Γ Θ ta fun Γ1 x => VE K Γ1 (x :: Θ) tb fun Γ2 y => ∃ m n, x = .dt (.int m) ∧ y = .dt (.int n) ∧ (-(2 ^ 62) ≤ m ∧ m < 2 ^ 62 ∧ -(2 ^ 62) ≤ n ∧ n < 2 ^ 62) ∧ Q Γ2 false (rngD m n)) :
    VI K Γ Θ (iRng2 (tCons ta (tCons tb tNil))) Q := fun L S0 σ τ S R E k => h L S0 σ τ S _ E fun Γ1 S1 u x E1 h1 => h1 L S0 σ _ S1 _ E1 fun Γ2 S2 v y E2 ⟨m, n, ex, ey, hb, q⟩ => by
  subst ex ey
  exact ⟨m, n, by rw [dp_int E2.dt, dp_int E2.pop.dt], hb, k Γ2 [] [] S2 _ false _ E2.pop.pop rfl dw_rng q⟩
def enumD (xs : List Dat) : List Dat := xs.zipIdx.map fun p => .tuple [.int (p.2 : Nat), p.1]
theorem enumD_len {xs : List Dat} : (enumD xs).length = xs.length := by unfold enumD; rw [List.length_map, List.length_zipIdx]
theorem enumD_at {xs : List Dat} {i : Nat} {d : Dat} (h : xs[i]? = some d) : (enumD xs)[i]? = some (.tuple [.int (i : Nat), d]) := by
  unfold enumD
  rw [List.getElem?_map, List.getElem?_zipIdx, h]
  show some (PyData.tuple [.int ((0 + i : Nat) : Int), d]) = _
  rw [Nat.zero_add]
/-- a new pair -/
theorem gr_pair {S : Hs} {T : Addr} {x y : V} {d e : Dat} (sub : Same S.b S.h) (hT : S.h T = none) (hx : Dq S.b x d) (hy : Dq S.b y e) :
    ∃ S' : Hs, S'.h = upd S.h T (.tup [x, y]) ∧ Gr L0 S S' ∧ Same S'.b S'.h ∧ Itm S'.b (.ref T) (.tuple [d, e]) true := by
  have g := gr_newB (o := .tup [x, y]) hT sub
  exact ⟨⟨upd S.b T (.tup [x, y]), upd S.h T (.tup [x, y])⟩, rfl, g, sub_newB hT sub, T, _, _, rfl, rfl, upd_same, .cons (dp_mono g.b _ _ hx) (.cons (dp_mono g.b _ _ hy) .nil)⟩
theorem vi_enum {te : TE} {Q : List Cell → Bool → List Dat → Prop} (h : VD K Γ Θ te fun Γ1 d => ∃ ds, d = .list ds ∧ Q Γ1 true (enumD ds)) : VI K Γ Θ (iEnum K (tCons te tNil)) Q := fun L S0 σ τ S R E k => h L S0 σ τ S _ E fun Γ1 S1 v d E1 ⟨ds, ed, q⟩ => by
  subst ed
  obtain ⟨a, xs, ev, hx, p⟩ := dp_list E1.dt
  subst ev
  refine ⟨a, xs, rfl, .of (E1.sub _ _ hx), k Γ1 [.list ds] [.ref a] S1 _ true (enumD ds) E1 rfl ⟨fun S i sub hs hi => ?_, fun S sub hs => ?_, fun S i x H' sub hs hi y => ?_⟩ q⟩
  · obtain ⟨ys, hy', py⟩ := src_l (K := K) sub (dqa_one hs)
    rw [enumD_len] at hi
    obtain ⟨z, hz, _⟩ := py.get (List.getElem?_eq_getElem hi)
    exact ⟨ys, z, hy', hz⟩
  · obtain ⟨ys, hy', py⟩ := src_l (K := K) sub (dqa_one hs)
    exact ⟨ys, hy', by rw [enumD_len]; exact Nat.le_of_eq py.len⟩
  · obtain ⟨ys, hy', py⟩ := src_l (K := K) sub (dqa_one hs)
    rw [enumD_len] at hi
    obtain ⟨T, z, rfl, hT, rfl, y⟩ := y
    obtain ⟨d, hd, gd⟩ := py.getV (y ys hy')
    obtain ⟨S', e1, g1, s1, q1⟩ := gr_pair sub hT (.int (i : Nat)) gd
    exact ⟨S', _, e1, g1, s1, enumD_at hd, q1⟩
def zipD (xs ys : List Dat) : List Dat := (xs.zip ys).map fun p => .tuple [p.1, p.2]
theorem zipD_len {xs ys : List Dat} : (zipD xs ys).length = min xs.length ys.length := by unfold zipD; rw [List.length_map, List.length_zip]
theorem zipD_at {xs ys : List Dat} {i : Nat} {d e : Dat} (h : xs[i]? = some d) (h' : ys[i]? = some e) : (zipD xs ys)[i]? = some (.tuple [d, e]) := by
  unfold zipD
  rw [List.getElem?_map, List.zip_eq_zipWith, List.getElem?_zipWith, h, h'] <;> rfl
theorem vi_zip {ta tb : TE} {Q : List Cell → Bool → List Dat → Prop} (h : VD K Γ Θ ta fun Γ1 d => VD K Γ1 (.dt d :: Θ) tb fun Γ2 e => ∃ ds es, d = .list ds ∧ e = .list es ∧ Q Γ2 true (zipD ds es)) : VI K Γ Θ (iZip K (tCons ta (tCons tb tNil))) Q := fun L S0 σ τ S R E k =>
  h L S0 σ τ S _ E fun Γ1 S1 u d E1 h1 => h1 L S0 σ _ S1 _ E1 fun Γ2 S2 v e E2 ⟨ds, es, ed, ee, q⟩ => by
  subst ed ee
  obtain ⟨b, zs, eb, hb, pb⟩ := dp_list E2.dt
  obtain ⟨a, xs, ea, hx, p⟩ := dp_list E2.pop.dt
  subst ea eb
  refine ⟨a, b, xs, zs, rfl, .of (E2.sub _ _ hx), .of (E2.sub _ _ hb), k Γ2 [.list es, .list ds] [.ref b, .ref a] S2 _ true (zipD ds es) E2 rfl ⟨fun S i sub hs hi => ?_, fun S sub hs => ?_, fun S i x H' sub hs hi y => ?_⟩ q⟩
  · obtain ⟨ws, hw', pw⟩ := src_l (K := K) sub (dqa_two hs).1
    obtain ⟨ys, hy', py⟩ := src_l (K := K) sub (dqa_two hs).2
    rw [zipD_len] at hi
    have i1 : i < ds.length := by omega
    have i2 : i < es.length := by omega
    obtain ⟨z, hz, _⟩ := py.get (List.getElem?_eq_getElem i1)
    obtain ⟨z', hz', _⟩ := pw.get (List.getElem?_eq_getElem i2)
    exact ⟨ys, ws, z, z', hy', hw', hz, hz'⟩
  · obtain ⟨ws, hw', pw⟩ := src_l (K := K) sub (dqa_two hs).1
    obtain ⟨ys, hy', py⟩ := src_l (K := K) sub (dqa_two hs).2
    refine ⟨ys, ws, hy', hw', ?_⟩
    rw [zipD_len, py.len, pw.len]
    omega
  · obtain ⟨ws, hw', pw⟩ := src_l (K := K) sub (dqa_two hs).1
    obtain ⟨ys, hy', py⟩ := src_l (K := K) sub (dqa_two hs).2
    obtain ⟨T, z, z', rfl, hT, rfl, y1, y2⟩ := y
    obtain ⟨d, hd, gd⟩ := py.getV (y1 ys hy')
    obtain ⟨e, he, ge⟩ := pw.getV (y2 ws hw')
    obtain ⟨S', e1, g1, s1, q1⟩ := gr_pair sub hT gd ge
    exact ⟨S', _, e1, g1, s1, zipD_at hd he, q1⟩
/-! ### targets -/
def VG (K : PySem.W.Frag) (pr : Bool) (Γ : List Cell) (g : TG) (d : Dat) (Q : List Cell → Prop) : Prop := ∀ (L : Addr → Prop) (S0 : Hs) (Θ : List Tmp) (σ : L2.St) (τ : List V) (S : Hs) (v : V) (R : L2.St → Hp → Prop), (∀ i, ∀ t ∈ Θ, t ≠ Tmp.br i) → Env K L S0 Γ Θ σ τ S → Itm S.b v d pr →
  (∀ Γ' σ', Env K L S0 Γ' Θ σ' τ S → Q Γ' → R σ' S.h) → g v σ S.h R
theorem vg_name {i : Nat} {d : Dat} {Q : List Cell → Prop} (q : Q (Γ.set i (.dt d))) : VG K false Γ (gName i) d Q := fun L S0 Θ σ τ S v R nb E hd k => k _ _ (E.setDt (nb i) hd) q
theorem vg_pair {pr : Bool} {i j : Nat} {x y : Dat} {Q : List Cell → Prop} (q : Q ((Γ.set i (.dt x)).set j (.dt y))) : VG K pr Γ (gTup K 2 (gCons (gName i) (gCons (gName j) gNil))) (.tuple [x, y]) Q := fun L S0 Θ σ τ S v R nb E hd k => by
  obtain ⟨a, xs, e, h, p⟩ : ∃ a xs, v = .ref a ∧ SqT K S.h a xs ∧ DqAll S.b xs [x, y] := by
    cases pr with
    | false =>
      obtain ⟨a, o, xs, e, _, h, p⟩ := dp_tup (show Dq S.b v (.tuple [x, y]) from hd)
      exact ⟨a, xs, e, sqt_f (E.sub _ _ h), p⟩
    | true =>
      obtain ⟨a, xs, ds, e, e2, h, p⟩ := hd
      cases e2
      exact ⟨a, xs, e, .of (E.sub _ _ h), p⟩
  cases p with
  | cons p1 p =>
    cases p with
    | cons p2 p =>
      cases p
      exact ⟨a, _, e, h, rfl, _, _, rfl, _, _, rfl, rfl, k _ _ ((E.setDt (nb i) p1).setDt (nb j) p2) q⟩
/-- a, b = e -/
theorem ss_asgG {te : TE} {g : TG} {R : DE} (h : ∀ ss, VD K Γ (srcT ss) te fun Γ1 d => VG K false Γ1 g d R.nx) : VSs K Γ (tAsg te g) R := fun ss L S0 σ τ S D E kn kr kb kc =>
  h ss L S0 σ τ S _ E fun Γ' S' v d E' q => q L S0 (srcT ss) σ τ S' v _ (fun i => nb_src) E'.pop E'.dt fun Γ2 σ2 E2 z => kn Γ2 σ2 S' E2 z
/-! ### for, while -/
theorem ss_for {wi : TI} {g : TG} {tb : TS} {R : DE} (P : Nat → List Cell → Prop)
    (h : ∀ ss, VI K Γ (srcT ss) wi fun Γ1 pr ds => P 0 Γ1 ∧ (∀ i d Γ2, ds[i]? = some d → P i Γ2 → VG K pr Γ2 g d fun Γ3 => VSs K Γ3 tb ⟨P (i + 1), R.rt, R.nx, P (i + 1)⟩) ∧ ∀ Γ2, P ds.length Γ2 → R.nx Γ2) : VSs K Γ (tFor wi g tb) R := fun ss L S0 σ τ S D E kn kr kb kc =>
  h ss L S0 σ τ S _ E fun Γ1 srcs τ1 S1 J pr ds E1 hl w ⟨h0, hs, hd⟩ => by
    have nbr : ∀ i, ∀ t ∈ srcT srcs ++ srcT ss, t ≠ Tmp.br i := fun i t ht => (List.mem_append.mp ht).elim (nb_src t) (nb_src t)
    refine ⟨fun i m σ H => m = ds.length - i ∧ i ≤ ds.length ∧ ∃ Γ2 S2, S2.h = H ∧ Env K L S0 Γ2 (srcT srcs ++ srcT ss) σ (τ1 ++ τ) S2 ∧ P i Γ2, ⟨_, rfl, Nat.zero_le _, Γ1, S1, rfl, E1, h0⟩, ?_⟩
    rintro i m σ2 H ⟨rfl, hi, Γ2, S2, rfl, E2, p⟩
    have dq := E2.srcs hl
    by_cases hlt : i < ds.length
    · refine .inr ⟨w.go S2 i E2.sub dq hlt, fun σ3 H3 => ∃ Γ3 S3, S3.h = H3 ∧ Env K L S0 Γ3 (srcT srcs ++ srcT ss) σ3 (τ1 ++ τ) S3 ∧ P (i + 1) Γ3, fun σ' H' ⟨Γ3, S3, e, E3, p3⟩ => ⟨_, by omega, rfl, hlt, Γ3, S3, e, E3, p3⟩, fun x H' y => ?_⟩
      obtain ⟨S3, d, e3, g3, s3, hd3, q3⟩ := w.yld S2 i x H' E2.sub dq hlt y
      subst e3
      refine hs i d Γ2 hd3 p L S0 _ σ2 _ S3 x _ nbr (E2.grow g3 s3) q3 fun Γ4 σ4 E4 q4 => ?_
      have es : srcT srcs ++ srcT ss = srcT (srcs ++ ss) := by unfold srcT; rw [List.map_append]
      rw [es] at E4
      refine q4 (srcs ++ ss) L S0 σ4 _ S3 _ E4 (fun Γ' σ' S' E' q => ?_) (fun Γ' σ' S' v d E' hv q => ?_) (fun Γ' σ' S' E' q => ?_) (fun Γ' σ' S' E' q => ?_)
      · rw [← es] at E'; exact ⟨Γ', S', rfl, E', q⟩
      · rw [← es] at E'; exact kr Γ' σ' S' v d (E'.unsrc hl) hv q
      · rw [← es] at E'; exact kn Γ' σ' S' (E'.unsrc hl) q
      · rw [← es] at E'; exact ⟨Γ', S', rfl, E', q⟩
    · have e : i = ds.length := by omega
      subst e
      exact .inl ⟨w.stop S2 E2.sub dq, kn Γ2 σ2 S2 (E2.unsrc hl) (hd Γ2 p)⟩
theorem ss_while {c : TT} {tb : TS} {R : DE} (P : Nat → List Cell → Prop) (m0 : Nat) (h0 : P m0 Γ)
    (hs : ∀ m Γ1, P m Γ1 → ∀ ss, VT K Γ1 (srcT ss) c fun Γ2 b => (b = true → VSs K Γ2 tb ⟨fun Γ3 => ∃ m', m' < m ∧ P m' Γ3, R.rt, R.nx, fun Γ3 => ∃ m', m' < m ∧ P m' Γ3⟩) ∧ (b = false → R.nx Γ2)) : VSs K Γ (tWhile c tb) R := fun ss L S0 σ τ S D E kn kr kb kc => by
  refine ⟨fun m σ H => ∃ Γ2 S2, S2.h = H ∧ Env K L S0 Γ2 (srcT ss) σ τ S2 ∧ P m Γ2, ⟨m0, Γ, S, rfl, E, h0⟩, ?_⟩
  rintro m σ2 H ⟨Γ2, S2, rfl, E2, p⟩
  refine hs m Γ2 p ss L S0 σ2 τ S2 _ E2 fun Γ3 S3 b E3 q => ?_
  cases b with
  | true =>
    rw [if_pos rfl]
    refine ⟨fun σ' H' => ∃ m' Γ' S', m' < m ∧ S'.h = H' ∧ Env K L S0 Γ' (srcT ss) σ' τ S' ∧ P m' Γ', fun σ' H' ⟨m', Γ', S', hm, e, E', p'⟩ => ⟨m', hm, Γ', S', e, E', p'⟩, ?_⟩
    refine q.1 rfl ss L S0 σ2 τ S3 _ E3 (fun Γ' σ' S' E' q => ?_) kr (fun Γ' σ' S' E' q => kn Γ' σ' S' E' q) (fun Γ' σ' S' E' q => ?_)
    · obtain ⟨m', hm, p'⟩ := q; exact ⟨m', Γ', S', hm, rfl, E', p'⟩
    · obtain ⟨m', hm, p'⟩ := q; exact ⟨m', Γ', S', hm, rfl, E', p'⟩
  | false => rw [if_neg Bool.false_ne_true]; exact kn Γ3 σ2 S3 E3 (q.2 rfl)
end
end Ld
set_option Elab.async false
set_option linter.all false
set_option maxRecDepth 100000
namespace Ld
open PySem PySem.Spec PyProof.Rows L2 Lx
/-! ### comprehensions -/
def clr : List Nat → List Cell → List Cell
  | [], Γ => Γ
  | v :: vs, Γ => (clr vs Γ).set v .no
theorem clr_len {Γ : List Cell} : ∀ vs : List Nat, (clr vs Γ).length = Γ.length
  | [] => rfl
  | v :: vs => by unfold clr; rw [List.length_set, clr_len vs]
theorem clr_at {Γ : List Cell} {i : Nat} {c : Cell} : ∀ {vs : List Nat}, (clr vs Γ)[i]? = some c → c = Cell.no ∨ Γ[i]? = some c
  | [], h => .inr h
  | v :: vs, h => by
    unfold clr at h
    by_cases e : v = i
    · subst e
      rw [List.getElem?_set_self (by
        have := (List.getElem?_eq_some_iff.mp h).1
        rw [List.length_set] at this; exact this)] at h
      cases h
      exact .inl rfl
    · rw [List.getElem?_set_ne e] at h
      exact clr_at h
theorem wipe_ne {σ : L2.St} {i : Nat} : ∀ {vs : List Nat}, i ∉ vs → (wipe σ vs)[i]? = σ[i]?
  | [], _ => rfl
  | v :: vs, h => by
    unfold wipe
    rw [List.getElem?_set_ne (fun e => h (by rw [e]; exact List.mem_cons_self))]
    exact wipe_ne fun z => h (List.mem_cons_of_mem _ z)
theorem wipe_at {σ : L2.St} {i : Nat} : ∀ {vs : List Nat}, i ∈ vs → i < σ.length → (wipe σ vs)[i]? = some none
  | [], h, _ => by cases h
  | v :: vs, h, hl => by
    unfold wipe
    by_cases e : v = i
    · subst e
      exact List.getElem?_set_self (by rw [wipe_length]; exact hl)
    · rw [List.getElem?_set_ne e]
      exact wipe_at ((List.mem_cons.mp h).resolve_left (fun z => e z.symm)) hl
theorem wipe_eq {σ σ' : L2.St} {vs : List Nat} (hl : σ'.length = σ.length) (h : ∀ i, i ∉ vs → σ'[i]? = σ[i]?) : wipe σ' vs = wipe σ vs := by
  refine List.ext_getElem? fun i => ?_
  by_cases hi : i ∈ vs
  · by_cases hlt : i < σ.length
    · rw [wipe_at hi hlt, wipe_at hi (by rw [hl]; exact hlt)]
    · rw [List.getElem?_eq_none (by rw [wipe_length]; omega), List.getElem?_eq_none (by rw [wipe_length]; omega)]
  · rw [wipe_ne hi, wipe_ne hi]; exact h i hi
theorem wipe_set {σ : L2.St} {vs : List Nat} {j : Nat} {x : Option V} (hj : j ∈ vs) : wipe ((wipe σ vs).set j x) vs = wipe σ vs := by
  refine (wipe_eq (σ' := (wipe σ vs).set j x) (σ := σ) (by rw [List.length_set, wipe_length]) fun i hi => ?_)
  rw [List.getElem?_set_ne (fun e => hi (by rw [← e]; exact hj)), wipe_ne hi]
theorem wipe_set2 {σ : L2.St} {vs : List Nat} {i j : Nat} {x y : Option V} (hi : i ∈ vs) (hj : j ∈ vs) : wipe (((wipe σ vs).set i x).set j y) vs = wipe σ vs := by
  refine (wipe_eq (σ := σ) (by rw [List.length_set, List.length_set, wipe_length]) fun k hk => ?_)
  rw [List.getElem?_set_ne (fun e => hk (by rw [← e]; exact hj)), List.getElem?_set_ne (fun e => hk (by rw [← e]; exact hi)), wipe_ne hk]
def NB (vs : List Nat) (Θ : List Tmp) : Prop := ∀ t ∈ Θ, ∀ v ∈ vs, t ≠ Tmp.br v
theorem nb_nil {vs : List Nat} : NB vs [] := fun t h => by cases h
theorem nb_srcT {vs : List Nat} {ss : List Dat} : NB vs (srcT ss) := fun t h v _ => nb_src t h
theorem nb_dt {vs : List Nat} {d : Dat} {Θ : List Tmp} (h : NB vs Θ) : NB vs (.dt d :: Θ) := fun t ht v hv => by
  rcases List.mem_cons.mp ht with rfl | ht
  · exact fun z => nomatch z
  · exact h t ht v hv
theorem nb_fr {vs : List Nat} {d : List Dat} {Θ : List Tmp} (h : NB vs Θ) : NB vs (.fr d :: Θ) := fun t ht v hv => by
  rcases List.mem_cons.mp ht with rfl | ht
  · exact fun z => nomatch z
  · exact h t ht v hv
theorem nb_sc {vs : List Nat} {d : List Int} {Θ : List Tmp} (h : NB vs Θ) : NB vs (.sc d :: Θ) := fun t ht v hv => by
  rcases List.mem_cons.mp ht with rfl | ht
  · exact fun z => nomatch z
  · exact h t ht v hv
theorem nb_br {vs : List Nat} {i : Nat} {Θ : List Tmp} (hi : i ∉ vs) (h : NB vs Θ) : NB vs (.br i :: Θ) := fun t ht v hv => by
  rcases List.mem_cons.mp ht with rfl | ht
  · intro z; cases z; exact hi hv
  · exact h t ht v hv
theorem nb_arg {vs : List Nat} {a : Arg} {Θ : List Tmp} (h : NB vs Θ) : NB vs (a.tmp :: Θ) := by
  cases a with
  | dt d => exact nb_dt h
  | sc ns => exact nb_sc h
theorem nb_app {vs : List Nat} {Θ Θ' : List Tmp} (h : NB vs Θ) (h' : NB vs Θ') : NB vs (Θ ++ Θ') := fun t ht v hv => (List.mem_append.mp ht).elim (fun z => h t z v hv) fun z => h' t z v hv
section
variable {K : PySem.W.Frag} {Γ : List Cell} {Θ : List Tmp} {L : Addr → Prop} {S0 S : Hs} {σ σ' : L2.St} {τ : List V}
/-- slots that nothing is known of may hold anything -/
theorem Env.reslot {vs : List Nat} (E : Env K L S0 Γ Θ σ τ S) (hl : σ'.length = σ.length) (h : ∀ i, i ∉ vs → σ'[i]? = σ[i]?) (hn : ∀ v ∈ vs, Γ[v]? = some .no) (nb : NB vs Θ) : Env K L S0 Γ Θ σ' τ S := by
  obtain ⟨w, h1, h2⟩ := E.ok
  refine ⟨E.gr, E.sub, hl.trans E.len, w, fun i c e => ?_, h2.imp' fun k v t hk hm q => ?_⟩
  · by_cases hi : i ∈ vs
    · rw [hn i hi] at e; cases e; trivial
    · rw [h i hi]; exact h1 i c e
  · cases t with
    | dt d => exact q
    | fr ds => exact q
    | sc ns => exact q
    | ob pp => exact q
    | li R => exact q
    | br i =>
      show σ'[i]? = some (some v)
      rw [h i (fun hi => nb _ hm i hi rfl)]; exact q
theorem Env.wiped {vs : List Nat} (E : Env K L S0 Γ Θ σ τ S) (hn : ∀ v ∈ vs, Γ[v]? = some .no) (nb : NB vs Θ) : Env K L S0 Γ Θ (wipe σ vs) τ S := E.reslot (wipe_length _ _) (fun i hi => wipe_ne hi) hn nb
theorem Env.unwiped {vs : List Nat} (E : Env K L S0 Γ Θ (wipe σ vs) τ S) (hn : ∀ v ∈ vs, Γ[v]? = some .no) (nb : NB vs Θ) : Env K L S0 Γ Θ σ τ S := E.reslot (wipe_length _ _).symm (fun i hi => (wipe_ne hi).symm) hn nb
theorem Env.under {t : Tmp} {v : V} : ∀ {srcs : List Dat} {τ1 : List V}, Env K L S0 Γ (t :: (srcT srcs ++ Θ)) σ (v :: (τ1 ++ τ)) S → τ1.length = srcs.length → Env K L S0 Γ (t :: Θ) σ (v :: τ) S
  | [], [], E, _ => E
  | d :: ds, u :: us, E, e => Env.under (srcs := ds) (τ1 := us) (Env.swap E).pop (by simpa using e)
  | [], _ :: _, _, e => by cases e
  | _ :: _, [], _, e => by cases e
end
/-- what a comprehension's target does to the cells -/
structure TgI (K : PySem.W.Frag) (pr : Bool) (g : TG) (vs : List Nat) (d : Dat) (f : List Cell → List Cell) : Prop where
  run : ∀ (L : Addr → Prop) (S0 : Hs) (Γ : List Cell) (Θ : List Tmp) (σ : L2.St) (τ : List V) (S : Hs) (v : V) (R : L2.St → Hp → Prop), NB vs Θ → Env K L S0 Γ Θ (wipe σ vs) τ S → Itm S.b v d pr →
    (∀ σ', Env K L S0 (f Γ) Θ σ' τ S → wipe σ' vs = wipe σ vs → R σ' S.h) → g v (wipe σ vs) S.h R
theorem tg_name {K : PySem.W.Frag} {j : Nat} {vs : List Nat} {d : Dat} (hj : j ∈ vs) : TgI K false (gName j) vs d fun Γ => Γ.set j (.dt d) := ⟨fun L S0 Γ Θ σ τ S v R nb E hd k => k _ (E.setDt (fun t ht => nb t ht j hj) hd) (wipe_set hj)⟩
theorem tg_pair {K : PySem.W.Frag} {pr : Bool} {i j : Nat} {vs : List Nat} {x y : Dat} (hi : i ∈ vs) (hj : j ∈ vs) : TgI K pr (gTup K 2 (gCons (gName i) (gCons (gName j) gNil))) vs (.tuple [x, y]) fun Γ => (Γ.set i (.dt x)).set j (.dt y) := ⟨fun L S0 Γ Θ σ τ S v R nb E hd k => by
  obtain ⟨a, xs, e, h, p⟩ : ∃ a xs, v = .ref a ∧ SqT K S.h a xs ∧ DqAll S.b xs [x, y] := by
    cases pr with
    | false =>
      obtain ⟨a, o, xs, e, _, h, p⟩ := dp_tup (show Dq S.b v (.tuple [x, y]) from hd)
      exact ⟨a, xs, e, sqt_f (E.sub _ _ h), p⟩
    | true =>
      obtain ⟨a, xs, ds, e, e2, h, p⟩ := hd
      cases e2
      exact ⟨a, xs, e, .of (E.sub _ _ h), p⟩
  cases p with
  | cons p1 p =>
    cases p with
    | cons p2 p =>
      cases p
      exact ⟨a, _, e, h, rfl, _, _, rfl, _, _, rfl, rfl, k _ ((E.setDt (fun t ht => nb t ht i hi) p1).setDt (fun t ht => nb t ht j hj) p2) (wipe_set2 hi hj)⟩⟩
section
variable {K : PySem.W.Frag} {Γ : List Cell} {Θ : List Tmp}
theorem ve_lc {wi : TI} {g : TG} {tt : TT} {te : TE} {vs : List Nat} {Q : List Cell → Tmp → Prop} (P : Nat → List Cell → List Dat → Prop) (nb : NB vs Θ) (hP : ∀ i Γ2 acc, P i Γ2 acc → ∀ v ∈ vs, Γ2[v]? = some Cell.no)
    (h : VI K Γ Θ wi fun Γ1 pr ds => P 0 Γ1 [] ∧ ds.length < sizeLine ∧ (∀ i d Γ2 acc, ds[i]? = some d → P i Γ2 acc → ∃ f, TgI K pr g vs d f ∧ ∀ srcs, VT K (f Γ2) (.fr acc :: (srcT srcs ++ Θ)) tt fun Γ3 b =>
      (b = true → VD K Γ3 (.fr acc :: (srcT srcs ++ Θ)) te fun Γ4 y => P (i + 1) (clr vs Γ4) (acc ++ [y])) ∧ (b = false → P (i + 1) (clr vs Γ3) acc)) ∧ ∀ Γ2 acc, P ds.length Γ2 acc → Q Γ2 (.fr acc)) : VE K Γ Θ (tLc wi g tt te vs) Q := fun L S0 σ τ S Qv E k =>
  h L S0 σ τ S _ E fun Γ1 srcs τ1 S1 J pr ds E1 hl w ⟨h0, hsz, hs, hd⟩ => fun D hD => by
    have nbs : NB vs (srcT srcs ++ Θ) := nb_app nb_srcT nb
    have E1w : Env K L S0 Γ1 (.fr [] :: (srcT srcs ++ Θ)) (wipe σ vs) (.ref D :: (τ1 ++ τ)) ⟨S1.b, upd S1.h D (.lst [])⟩ := (E1.newLst hD .nil).wiped (hP _ _ _ h0) (nb_fr nbs)
    refine ⟨fun i m H => m = ds.length - i ∧ i ≤ ds.length ∧ ∃ Γ2 acc S2, S2.h = H ∧ acc.length ≤ i ∧ Env K L S0 Γ2 (.fr acc :: (srcT srcs ++ Θ)) (wipe σ vs) (.ref D :: (τ1 ++ τ)) S2 ∧ P i Γ2 acc, ⟨_, rfl, Nat.zero_le _, Γ1, [], _, rfl, Nat.le_refl _, E1w, h0⟩, ?_⟩
    rintro i m H ⟨rfl, hi, Γ2, acc, S2, rfl, ha, E2, p⟩
    have dq := E2.pop.srcs hl
    by_cases hlt : i < ds.length
    · refine .inr ⟨w.go S2 i E2.sub dq hlt, fun H3 => ∃ Γ3 acc3 S3, S3.h = H3 ∧ acc3.length ≤ i + 1 ∧ Env K L S0 Γ3 (.fr acc3 :: (srcT srcs ++ Θ)) (wipe σ vs) (.ref D :: (τ1 ++ τ)) S3 ∧ P (i + 1) Γ3 acc3,
        fun H' ⟨Γ3, acc3, S3, e, ha3, E3, p3⟩ => ⟨_, by omega, rfl, hlt, Γ3, acc3, S3, e, ha3, E3, p3⟩, fun x H' y => ?_⟩
      obtain ⟨S3, d, e3, g3, s3, hd3, q3⟩ := w.yld S2 i x H' E2.sub dq hlt y
      subst e3
      obtain ⟨f, tg, hf⟩ := hs i d Γ2 acc hd3 p
      refine tg.run L S0 Γ2 _ σ _ S3 x _ (nb_fr nbs) (E2.grow g3 s3) q3 fun σ3 E3 ew => ⟨ew, ?_⟩
      refine hf srcs L S0 σ3 _ S3 _ E3 fun Γ4 S4 b E4 q4 => ?_
      have fin : ∀ {Γ5 : List Cell} {acc5 : List Dat} {S5 : Hs}, Env K L S0 Γ5 (.fr acc5 :: (srcT srcs ++ Θ)) σ3 (.ref D :: (τ1 ++ τ)) S5 → P (i + 1) (clr vs Γ5) acc5 → Env K L S0 (clr vs Γ5) (.fr acc5 :: (srcT srcs ++ Θ)) (wipe σ vs) (.ref D :: (τ1 ++ τ)) S5 := fun {Γ5 acc5 S5} E5 p5 => by
        rw [← ew]
        exact (E5.forget (clr_len vs) fun i c e => clr_at e).wiped (hP _ _ _ p5) (nb_fr nbs)
      cases b with
      | true =>
        rw [if_pos rfl]
        refine q4.1 rfl L S0 σ3 _ S4 _ E4 fun Γ5 S5 v y E5 p5 => ?_
        obtain ⟨a, us, ea, hu, pu, mk⟩ := E5.swap.mutTop
        cases ea
        have hv : Dq S5.b v y := E5.dt
        refine ⟨us, hu, ?_, _, acc ++ [y], _, rfl, ?_, fin (Env.pop (Env.swap (mk (us ++ [v]) (acc ++ [y]) (pu.app (.one hv))))) p5, p5⟩
        · rw [pu.len]; omega
        · rw [List.length_append, List.length_singleton]; omega
      | false =>
        rw [if_neg Bool.false_ne_true]
        exact ⟨_, acc, S4, rfl, by omega, fin E4 (q4.2 rfl), q4.2 rfl⟩
    · have e : i = ds.length := by omega
      subst e
      exact .inl ⟨w.stop S2 E2.sub dq, k Γ2 S2 _ _ ((E2.under hl).unwiped (hP _ _ _ p) (nb_fr nb)) (hd Γ2 acc p)⟩
end
/-! ### a def -/
theorem args_cells {K : PySem.W.Frag} {L : Addr → Prop} {S0 S : Hs} {w : Wh} : ∀ {vs : List V} {as : List Arg} (j : Nat), ArgsOk K S.b vs as → ∀ i c, (as.map Arg.cell)[i]? = some c → SlotOk K L S0 w S (j + i) ((vs.map some)[i]?) c
  | _, _, _, .nil, i, c, e => by simp at e
  | _, _, j, .cons (v := v) (a := a) h t, 0, c, e => by
    cases e
    cases a with
    | dt d => exact ⟨v, rfl, h⟩
    | sc ns => obtain ⟨b, rfl, q⟩ := h; exact ⟨b, rfl, q⟩
  | _, _, j, .cons h t, i + 1, c, e => by
    have := args_cells (K := K) (L := L) (S0 := S0) (S := S) (w := w) (j + 1) t i c e
    rw [show j + (i + 1) = j + 1 + i by omega]
    exact this
def cells0 (N : List Str) (cs : List Cell) : List Cell := cs ++ List.replicate (N.length - cs.length) .no
theorem start_at {N : List Str} {vs : List V} {i : Nat} (h : i < vs.length) : (L2.start N vs)[i]? = (vs.map some)[i]? := by
  unfold L2.start
  rw [List.getElem?_append_left (by rw [List.length_map]; exact h)]
theorem env_start {K : PySem.W.Frag} {N : List Str} {vs : List V} {as : List Arg} {B H : Hp} (sub : Same B H) (h : ArgsOk K B vs as) (hl : vs.length ≤ N.length) : Env K L0 ⟨B, H⟩ (cells0 N (as.map Arg.cell)) [] (L2.start N vs) [] ⟨B, H⟩ := by
  refine ⟨Gr.refl _ _, sub, ?_, fun _ => none, fun i c e => ?_, trivial⟩
  · unfold L2.start cells0
    rw [List.length_append, List.length_append, List.length_map, List.length_map, List.length_replicate, List.length_replicate, h.len]
  · unfold cells0 at e
    by_cases hi : i < (as.map Arg.cell).length
    · rw [List.getElem?_append_left hi] at e
      rw [start_at (by rw [h.len]; rw [List.length_map] at hi; exact hi)]
      have := args_cells (K := K) (L := L0) (S0 := ⟨B, H⟩) (S := ⟨B, H⟩) (w := fun _ => none) 0 h i c e
      rw [Nat.zero_add] at this
      exact this
    · rw [List.getElem?_append_right (by omega)] at e
      have e2 := List.mem_of_getElem? e
      rw [List.mem_replicate] at e2
      rw [e2.2]
      trivial
section
variable {P : Program} {w : World} {K : PySem.W.Frag} {mg : Str → Option Value} {base : Heap}
abbrev Bx (P : Program) (w : World) (K : PySem.W.Frag) (mg : Str → Option Value) (base : Heap) (N : List Str) (qual : Str) (st : Stmt) (f : Addr) (cdv : Value) (A : Around) (outer : List PySem.Env) (s : Shared) (H : Hp) (E : XK) : Cx := (cxOf CX0 P w K mg base N qual (defScope st) f cdv A outer s H E).nox
/-- a def that changes the list that is its second argument -/
theorem env_startT {N : List Str} {v0 : V} {t : Addr} {rest : List V} {a0 : Arg} {as : List Arg} {zs : List Dat} {B H : Hp} (sub : Same B H) (h0 : ArgOk K B v0 a0) (h : ArgsOk K B rest as) (nb : B t = none) (hz : ∃ us, H t = some (.lst us) ∧ DqAll B us zs) (hl : rest.length + 2 ≤ N.length) :
    Env K (fun a => a = t) ⟨B, H⟩ (cells0 N (a0.cell :: .ln zs :: as.map Arg.cell)) [] (L2.start N (v0 :: .ref t :: rest)) [] ⟨B, H⟩ := by
  refine ⟨Gr.refl _ _, sub, ?_, fun a => if a = t then some (.inl 1) else none, fun i c e => ?_, trivial⟩
  · unfold L2.start cells0
    simp only [List.length_append, List.length_map, List.length_replicate, List.length_cons, h.len]
  · unfold cells0 at e
    by_cases hi : i < (a0.cell :: .ln zs :: as.map Arg.cell).length
    · rw [List.getElem?_append_left hi] at e
      rw [start_at (by simp only [List.length_cons, List.length_map, h.len] at hi ⊢; exact hi)]
      match i, e with
      | 0, e =>
        cases e
        cases a0 with
        | dt d => exact ⟨v0, rfl, h0⟩
        | sc ns => obtain ⟨b, rfl, q⟩ := h0; exact ⟨b, rfl, q⟩
      | 1, e =>
        cases e
        exact ⟨t, rfl, ⟨nb, if_pos rfl, hz⟩, rfl⟩
      | i + 2, e =>
        have := args_cells (K := K) (L := fun a => a = t) (S0 := ⟨B, H⟩) (S := ⟨B, H⟩) (w := fun a => if a = t then some (.inl 1) else none) 2 h i c e
        have e3 : 2 + i = i + 2 := Nat.add_comm 2 i
        rw [e3] at this
        exact this
    · rw [List.getElem?_append_right (by omega)] at e
      have e2 := List.mem_of_getElem? e
      rw [List.mem_replicate] at e2
      rw [e2.2]
      trivial
end
end Ld
set_option Elab.async false
set_option linter.all false
set_option maxRecDepth 100000
namespace Ld
open PySem PySem.Spec PyProof.Rows L2 Lx
/-! ### isinstance of data -/
def tyN : Dat → String
  | .none => "NoneType"
  | .bool _ => "bool"
  | .int _ => "int"
  | .str _ => "str"
  | .list _ => "list"
  | .tuple _ => "tuple"
  | .dict _ => "dict"
theorem dq_ty {K : PySem.W.Frag} {H : Hp} {v : V} {d : Dat} (h : Dq H v d) : TyX K H v (.type (tyN d)) := by
  cases h with
  | non => exact .base .non
  | bl b => exact .base (.bl b)
  | int i => exact .base (.int i)
  | str x => exact .base (.str x)
  | lst h _ => exact .base (.lst h)
  | tup hd h _ => exact .fTuple h
section
variable {K : PySem.W.Frag} {Γ : List Cell} {Θ : List Tmp}
theorem ve_isi {ta : TE} {n : String} {Q : List Cell → Tmp → Prop} (h : VE K Γ Θ ta fun Γ1 x => ∃ d b, rd Γ1 x d ∧ kitB (tyN d) n = some b ∧ Q Γ1 (.dt (.bool b))) : VE K Γ Θ (tCB (rIsi K) (tCons ta (tCons (tC (.ty n)) tNil))) Q := fun L S0 σ τ S Qv E k => h L S0 σ τ S _ E fun Γ1 S1 v x E1 ⟨d, b, hd, hb, q⟩ =>
  ⟨v, .ty n, _, _, b, rfl, .ty n, dq_ty (E1.rd hd), kit_ty hb, k Γ1 S1 _ _ (E1.pop.push (.bl b)) q⟩
end
section
variable {K : PySem.W.Frag} {Γ : List Cell} {Θ : List Tmp}
/-! ### what is under way, by its form -/
theorem fz_dt {d : Dat} {Q : List Cell → Dat → Prop} (q : Q Γ d) : Fz Γ Q (.dt d) := q
theorem fz_fr {d : List Dat} {Q : List Cell → Dat → Prop} (q : Q Γ (.list d)) : Fz Γ Q (.fr d) := q
theorem fz_br {i : Nat} {ds : List Dat} {Q : List Cell → Dat → Prop} (h : Γ[i]? = some (.ow ds)) (q : Q (Γ.set i (.dt (.list ds))) (.list ds)) : Fz Γ Q (.br i) := ⟨ds, h, q⟩
theorem az_dt {d : Dat} {Q : List Cell → Arg → Prop} (q : Q Γ (.dt d)) : Az Γ Q (.dt d) := q
theorem az_sc {d : List Int} {Q : List Cell → Arg → Prop} (q : Q Γ (.sc d)) : Az Γ Q (.sc d) := q
theorem az_fr {d : List Dat} {Q : List Cell → Arg → Prop} (q : Q Γ (.dt (.list d))) : Az Γ Q (.fr d) := q
theorem az_br {i : Nat} {ds : List Dat} {Q : List Cell → Arg → Prop} (h : Γ[i]? = some (.ow ds)) (q : Q (Γ.set i (.dt (.list ds))) (.dt (.list ds))) : Az Γ Q (.br i) := ⟨ds, h, q⟩
theorem asb {b : Bool} {Q : List Cell → Bool → Prop} (q : Q Γ b) : AsB Γ Q (.dt (.bool b)) := q
theorem sto_dt {i : Nat} {d : Dat} {Q : List Cell → Prop} (q : Q (Γ.set i (.dt d))) : Sto Γ i Q (.dt d) := q
theorem sto_fr {i : Nat} {d : List Dat} {Q : List Cell → Prop} (q : Q (Γ.set i (.ow d))) : Sto Γ i Q (.fr d) := q
theorem sto_br {i j : Nat} {ds : List Dat} {Q : List Cell → Prop} (h : Γ[j]? = some (.ow ds)) (q : Q ((Γ.set j (.dt (.list ds))).set i (.dt (.list ds)))) : Sto Γ i Q (.br j) := ⟨ds, h, q⟩
theorem rd_dt {d : Dat} : rd Γ (.dt d) d := rfl
theorem rd_fr {ds : List Dat} : rd Γ (.fr ds) (.list ds) := rfl
theorem rd_ow {i : Nat} {ds : List Dat} (h : Γ[i]? = some (.ow ds)) : rd Γ (.br i) (.list ds) := .inr ⟨ds, rfl, .inl h⟩
theorem rd_ln {i : Nat} {ds : List Dat} (h : Γ[i]? = some (.ln ds)) : rd Γ (.br i) (.list ds) := .inr ⟨ds, rfl, .inr h⟩
theorem sq_l {x : Tmp} {ds : List Dat} (h : rd Γ x (.list ds)) : SeqD Γ x ds := .inl h
theorem sq_t {ds : List Dat} : SeqD Γ (.dt (.tuple ds)) ds := .inr rfl
theorem isl_ow {i : Nat} {ds : List Dat} (h : Γ[i]? = some (.ow ds)) : IsLs Γ i ds := ⟨_, h, rfl⟩
theorem isl_ln {i : Nat} {ds : List Dat} (h : Γ[i]? = some (.ln ds)) : IsLs Γ i ds := ⟨_, h, rfl⟩
theorem b2 {A B : Prop} {b : Bool} (h1 : b = true → A) (h2 : b = false → B) : (b = true → A) ∧ (b = false → B) := ⟨h1, h2⟩
theorem r2_eqS {ns : List Int} {y : Tmp} {e : Dat} {Q : List Cell → Tmp → Prop} (hy : rd Γ y e) (sd : SeqAt.shaped (.list (ns.map .int)) = true) (se : SeqAt.shaped e = true) (q : Q Γ (.dt (.bool (PyData.eqv (.list (ns.map .int)) e)))) : R2V K (rEqD K) Γ Θ (.sc ns) y Q := fun L S0 σ τ S vx vy Qv E k => by
  obtain ⟨w, a, ea, hs⟩ := E.pop.top
  have dpi : ∀ ns : List Int, DpAll K S.h (ns.map V.int) (ns.map PyData.int) := fun ns => by
    induction ns with
    | nil => exact .nil
    | cons n ns ih => exact .cons (.int n) ih
  exact ⟨_, e, by rw [ea]; exact .lst (E.sub.seq hs) (dpi ns), dq_dp _ _ (E.rd hy), sd, se, k Γ S _ _ (E.pop.pop.push (.bl _)) q⟩
theorem ve_scr {i : Nat} {ns : List Int} {Q : List Cell → Tmp → Prop} (h : Γ[i]? = some (.sc ns)) (q : Q Γ (.sc ns)) : VE K Γ Θ (tVar i) Q := fun L S0 σ τ S Qv E k => by
  obtain ⟨w, h1, h2⟩ := id E.ok
  obtain ⟨a, e, p⟩ := h1 i _ h
  exact ⟨_, e, k Γ S (.ref a) (.sc ns) ⟨E.gr, E.sub, E.len, w, h1, ⟨a, rfl, p⟩, h2⟩ q⟩
end
/-! ### a def of the text, a def that keeps its promise -/
structure Df (K : PySem.W.Frag) (mg : Str → Option Value) (x : Str) (st : Stmt) (ps : List Str) (f : Addr) (fd : FuncData) : Prop where
  F : Fun K x x st f fd
  g : mg x = some (.ref f)
  b : Binds K fd ps []
structure Cal (P : Program) (w : World) (K : PySem.W.Frag) (mg : Str → Option Value) (base : Heap) (k : Nat) (x : Str) (ps : List Str) (sp : Sp) (f : Addr) (fd : FuncData) : Prop where
  G : FnOk P w K mg base CX0 k f fd ps sp
  g : mg x = some (.ref f)
  kp : PySem.W.keepIn K (.ref f) = true
  b : Binds K fd ps []
theorem Df.cal {P : Program} {w : World} {K : PySem.W.Frag} {mg : Str → Option Value} {base : Heap} {k : Nat} {x : Str} {st : Stmt} {ps : List Str} {sp : Sp} {f : Addr} {fd : FuncData} (D : Df K mg x st ps f fd) (G : FnOk P w K mg base CX0 k f fd ps sp) : Cal P w K mg base k x ps sp f fd := ⟨G, D.g, D.F.kp, D.b⟩
end Ld
set_option Elab.async false
set_option linter.all false
set_option maxRecDepth 100000
namespace PySem
open Sem (wp)
open Builtin Builtin.Str
end PySem
namespace Ld
open PySem PySem.Spec PyProof.Rows L2 Lx
/-! ### enumerate(tuple) -/
def IteT (K : PySem.W.Frag) (a : Addr) : It :=
  ⟨fun i H => ∃ (xs : List V) (x : V), SqT K H a xs ∧ xs[i]? = some x, fun i H v H' => ∃ T x, v = .ref T ∧ H T = none ∧ H' = upd H T (.tup [.int (i : Nat), x]) ∧ ∀ xs, SqT K H a xs → xs[i]? = some x, fun i H => ∃ xs : List V, SqT K H a xs ∧ xs.length ≤ i⟩
def iEnumT (K : PySem.W.Frag) (ta : TA) : TI := fun σ H R => ta σ H fun vs H1 => ∃ a xs, vs = [.ref a] ∧ SqT K H1 a xs ∧ R (IteT K a) H1
section
variable {K : PySem.W.Frag} {Γ : List Cell} {Θ : List Tmp}
theorem vi_enumT {te : TE} {Q : List Cell → Bool → List Dat → Prop} (h : VD K Γ Θ te fun Γ1 d => ∃ ds, d = .tuple ds ∧ Q Γ1 true (enumD ds)) : VI K Γ Θ (iEnumT K (tCons te tNil)) Q := fun L S0 σ τ S R E k => h L S0 σ τ S _ E fun Γ1 S1 v d E1 ⟨ds, ed, q⟩ => by
  subst ed
  obtain ⟨a, o, xs, ev, _, hx, p⟩ := dp_tup E1.dt
  subst ev
  refine ⟨a, xs, rfl, sqt_f (E1.sub _ _ hx), k Γ1 [.tuple ds] [.ref a] S1 _ true (enumD ds) E1 rfl ⟨fun S i sub hs hi => ?_, fun S sub hs => ?_, fun S i x H' sub hs hi y => ?_⟩ q⟩
  · obtain ⟨ys, hy', py⟩ := src_t (K := K) sub (dqa_one hs)
    rw [enumD_len] at hi
    obtain ⟨z, hz, _⟩ := py.get (List.getElem?_eq_getElem hi)
    exact ⟨ys, z, hy', hz⟩
  · obtain ⟨ys, hy', py⟩ := src_t (K := K) sub (dqa_one hs)
    exact ⟨ys, hy', by rw [enumD_len]; exact Nat.le_of_eq py.len⟩
  · obtain ⟨ys, hy', py⟩ := src_t (K := K) sub (dqa_one hs)
    rw [enumD_len] at hi
    obtain ⟨T, z, rfl, hT, rfl, y⟩ := y
    obtain ⟨d, hd, gd⟩ := py.getV (y ys hy')
    obtain ⟨S', e1, g1, s1, q1⟩ := gr_pair sub hT (.int (i : Nat)) gd
    exact ⟨S', _, e1, g1, s1, enumD_at hd, q1⟩
end
/-! ### sorted of a tuple of ints -/
end Ld
set_option Elab.async false
set_option linter.all false
set_option maxRecDepth 100000
namespace Ld
open PySem PySem.Spec PyProof.Rows L2 Lx
/-! ### promises with a ghost -/
def spG {α : Type} (K : PySem.W.Frag) (A : α → List Arg) (pre : α → Prop) (post : α → Dat → Prop) : Sp := fun vs H Q _ => ∃ (B : Hp) (x : α), Same B H ∧ ArgsOk K B vs (A x) ∧ pre x ∧
  ∀ v S' d, Gr L0 ⟨B, H⟩ S' → Same S'.b S'.h → Dq S'.b v d → post x d → Q v S'.h
abbrev spF {α : Type} (K : PySem.W.Frag) (A : α → List Arg) (pre : α → Prop) (g : α → Dat) : Sp := spG K A pre fun x d => d = g x
def spW {α : Type} (K : PySem.W.Frag) (A : α → Arg × List Arg) (pre : α → List Dat → Prop) (post : α → List Dat → List Dat → Dat → Prop) : Sp := fun vs H Q _ => ∃ (B : Hp) (v0 : V) (t : Addr) (rest : List V) (x : α) (zs : List Dat), vs = v0 :: .ref t :: rest ∧ Same B H ∧ ArgsOk K B (v0 :: rest) ((A x).1 :: (A x).2) ∧
  B t = none ∧ (∃ us, H t = some (.lst us) ∧ DqAll B us zs) ∧ pre x zs ∧
  ∀ v S' zs' d, Gr (fun a => a = t) ⟨B, H⟩ S' → Same S'.b S'.h → S'.b t = none → (∃ us, S'.h t = some (.lst us) ∧ DqAll S'.b us zs') → Dq S'.b v d → post x zs zs' d → Q v S'.h
section
variable {K : PySem.W.Frag} {Γ : List Cell} {Θ : List Tmp}
theorem ve_callG {α : Type} {A : α → List Arg} {pre : α → Prop} {post : α → Dat → Prop} {X : XK} {t : TA} {Q : List Cell → Tmp → Prop} (h : VAX K Γ Θ t fun Γ1 as => ∃ x, as = A x ∧ pre x ∧ ∀ d, post x d → Q Γ1 (.dt d)) : VE K Γ Θ (tCall (spG K A pre post) [] X t) Q := fun L S0 σ τ S Qv E k => h L S0 σ τ S _ E fun Γ1 S1 vs as E1 p ⟨x, ex, hp, q⟩ => by
  show spG K A pre post (vs ++ []) S1.h Qv X
  rw [List.append_nil]
  subst ex
  exact ⟨S1.b, x, E1.sub, p, hp, fun v S' d g s hd hq => k Γ1 S' v _ ((E1.grow g s).push hd) (q d hq)⟩
theorem ve_callF {α : Type} {A : α → List Arg} {pre : α → Prop} {g : α → Dat} {X : XK} {t : TA} {Q : List Cell → Tmp → Prop} (h : VAX K Γ Θ t fun Γ1 as => ∃ x, as = A x ∧ pre x ∧ Q Γ1 (.dt (g x))) : VE K Γ Θ (tCall (spF K A pre g) [] X t) Q :=
  ve_callG fun L S0 σ τ S Qv E k => h L S0 σ τ S Qv E fun Γ1 S1 vs as E1 p ⟨x, ex, hp, q⟩ => k Γ1 S1 vs as E1 p ⟨x, ex, hp, fun d hd => by rw [hd]; exact q⟩
theorem ve_callW {α : Type} {A : α → Arg × List Arg} {pre : α → List Dat → Prop} {post : α → List Dat → List Dat → Dat → Prop} {X : XK} {t0 : TE} {i : Nat} {t : TA} {Q : List Cell → Tmp → Prop}
    (h : VX K Γ Θ t0 fun Γ1 a0 => (∃ ds, IsLs Γ1 i ds) ∧ VAX K Γ1 (a0.tmp :: Θ) t fun Γ2 as => ∃ x zs, IsLs Γ2 i zs ∧ (a0, as) = A x ∧ pre x zs ∧ ∀ zs' d, post x zs zs' d → Q (putC Γ2 i zs') (.dt d)) :
    VE K Γ Θ (tCall (spW K A pre post) [] X (tCons t0 (tCons (tVar i) t))) Q := fun L S0 σ τ S Qv E k => h L S0 σ τ S _ E fun Γ1 S1 v0 a0 E1 ⟨⟨ds, c1, hc1, hl1⟩, h1⟩ => by
  obtain ⟨a, ea, _⟩ := E1.own hc1 hl1
  refine ⟨_, ea, h1 L S0 σ (v0 :: τ) S1 _ E1 fun Γ2 S2 vs as E2 p ⟨x, zs, ⟨c, hc, hl⟩, ex, hp, q⟩ => ?_⟩
  obtain ⟨a', ea', nb, us, hu, pu⟩ := E2.own hc hl
  rw [ea] at ea'; cases ea'
  show spW K A pre post ((v0 :: .ref a :: vs) ++ []) S2.h Qv X
  rw [List.append_nil]
  refine ⟨S2.b, v0, a, vs, x, zs, rfl, E2.sub, ?_, nb, ⟨us, hu, pu⟩, hp, fun v S' zs' d g s nb' hz hd hq => ?_⟩
  · rw [← ex]; exact .cons (argOk_top E2) p
  · have q' := q zs' d hq
    rw [putC_eq hc] at q'
    exact k _ S' v _ ((E2.pop.lent hc hl ea g s nb' hz).push hd) q'
/-- a comprehension over items of one kind -/
theorem ve_lcT {α : Type} (inj : α → Dat) (xs : List α) (p : α → Bool) (v : α → Dat) {wi : TI} {g : TG} {tt : TT} {te : TE} {vs : List Nat} {Q : List Cell → Tmp → Prop} (nb : NB vs Θ)
    (h : VI K Γ Θ wi fun Γ1 pr ds => ds = xs.map inj ∧ (∀ v ∈ vs, Γ1[v]? = some Cell.no) ∧ xs.length < sizeLine ∧ (∀ a, a ∈ xs → ∃ f, TgI K pr g vs (inj a) f ∧ ∀ acc srcs, VT K (f Γ1) (.fr acc :: (srcT srcs ++ Θ)) tt fun Γ3 b =>
      b = p a ∧ (b = true → VD K Γ3 (.fr acc :: (srcT srcs ++ Θ)) te fun Γ4 y => y = v a ∧ clr vs Γ4 = Γ1) ∧ (b = false → clr vs Γ3 = Γ1)) ∧ Q Γ1 (.fr ((xs.filter p).map v))) : VE K Γ Θ (tLc wi g tt te vs) Q := fun L S0 σ τ S Qv E k =>
  h L S0 σ τ S _ E fun Γ1 srcs τ1 S1 J pr ds E1 hl w ⟨eds, hn, hsz, hs, hq⟩ => fun D hD => by
    have nbs : NB vs (srcT srcs ++ Θ) := nb_app nb_srcT nb
    have hls : ds.length = xs.length := by rw [eds, List.length_map]
    have E1w : Env K L S0 Γ1 (.fr [] :: (srcT srcs ++ Θ)) (wipe σ vs) (.ref D :: (τ1 ++ τ)) ⟨S1.b, upd S1.h D (.lst [])⟩ := (E1.newLst hD .nil).wiped hn (nb_fr nbs)
    refine ⟨fun i m H => m = ds.length - i ∧ i ≤ ds.length ∧ ∃ S2, S2.h = H ∧ Env K L S0 Γ1 (.fr (((xs.take i).filter p).map v) :: (srcT srcs ++ Θ)) (wipe σ vs) (.ref D :: (τ1 ++ τ)) S2, ⟨_, rfl, Nat.zero_le _, _, rfl, E1w⟩, ?_⟩
    rintro i m H ⟨rfl, hi, S2, rfl, E2⟩
    have dq := E2.pop.srcs hl
    by_cases hlt : i < ds.length
    · refine .inr ⟨w.go S2 i E2.sub dq hlt, fun H3 => ∃ S3, S3.h = H3 ∧ Env K L S0 Γ1 (.fr (((xs.take (i + 1)).filter p).map v) :: (srcT srcs ++ Θ)) (wipe σ vs) (.ref D :: (τ1 ++ τ)) S3,
        fun H' ⟨S3, e, E3⟩ => ⟨_, by omega, rfl, hlt, S3, e, E3⟩, fun x H' y => ?_⟩
      obtain ⟨S3, d, e3, g3, s3, hd3, q3⟩ := w.yld S2 i x H' E2.sub dq hlt y
      subst e3
      obtain ⟨a, ha, ead⟩ : ∃ a, xs[i]? = some a ∧ inj a = d := by
        rw [eds, List.getElem?_map] at hd3
        exact Option.map_eq_some_iff.mp hd3
      subst ead
      obtain ⟨f, tg, hf⟩ := hs a (List.mem_of_getElem? ha)
      refine tg.run L S0 Γ1 _ σ _ S3 x _ (nb_fr nbs) (E2.grow g3 s3) q3 fun σ3 E3 ew => ⟨ew, ?_⟩
      refine hf _ srcs L S0 σ3 _ S3 _ E3 fun Γ4 S4 b E4 ⟨eb, q4⟩ => ?_
      have fin : ∀ {Γ5 : List Cell} {acc5 : List Dat} {S5 : Hs}, Env K L S0 Γ5 (.fr acc5 :: (srcT srcs ++ Θ)) σ3 (.ref D :: (τ1 ++ τ)) S5 → clr vs Γ5 = Γ1 → Env K L S0 Γ1 (.fr acc5 :: (srcT srcs ++ Θ)) (wipe σ vs) (.ref D :: (τ1 ++ τ)) S5 := fun {Γ5 acc5 S5} E5 p5 => by
        rw [← ew, ← p5]
        exact (E5.forget (clr_len vs) fun i c e => clr_at e).wiped (by rw [p5]; exact hn) (nb_fr nbs)
      have tk : xs.take (i + 1) = xs.take i ++ [a] := by rw [List.take_add_one, ha] <;> rfl
      cases b with
      | true =>
        rw [if_pos rfl]
        refine q4.1 rfl L S0 σ3 _ S4 _ E4 fun Γ5 S5 u y E5 ⟨ey, p5⟩ => ?_
        obtain ⟨a', us, ea, hu, pu, mk⟩ := E5.swap.mutTop
        cases ea
        have hv : Dq S5.b u y := E5.dt
        have le : us.length ≤ xs.length := by
          rw [pu.len, List.length_map]
          exact Nat.le_trans (List.length_filter_le _ _) (by rw [List.length_take]; omega)
        refine ⟨us, hu, by omega, ⟨S5.b, upd S5.h D (.lst (us ++ [u]))⟩, rfl, ?_⟩
        have := fin (Env.pop (Env.swap (mk (us ++ [u]) _ (pu.app (.one hv))))) p5
        rw [tk, List.filter_append, List.map_append, List.filter_cons, if_pos eb.symm, List.filter_nil, List.map_singleton, ← ey]
        exact this
      | false =>
        rw [if_neg Bool.false_ne_true]
        refine ⟨S4, rfl, ?_⟩
        have := fin E4 (q4.2 rfl)
        rw [tk, List.filter_append, List.map_append, List.filter_cons, if_neg (by rw [← eb]; exact Bool.false_ne_true), List.filter_nil, List.map_nil, List.append_nil]
        exact this
    · have e : i = ds.length := by omega
      subst e
      rw [hls, List.take_length] at E2
      exact .inl ⟨w.stop S2 E2.sub dq, k Γ1 S2 _ _ ((E2.under hl).unwiped hn (nb_fr nb)) hq⟩
end
section
variable {P : Program} {w : World} {K : PySem.W.Frag} {mg : Str → Option Value} {base : Heap}
theorem ok_G {α : Type} {x qual : Str} {st : Stmt} {f : Addr} {fd : FuncData} {N ps : List Str} {k : Nat} {Ar : α → List Arg} {pre : α → Prop} {post : α → Dat → Prop} (F : Fun K x qual st f fd) (Sc : FnScope N ps (defScope st)) (hl : ∀ x, (Ar x).length = ps.length) (hN : ps.length ≤ N.length)
    (hb : ∀ (cdv : Value) (A : Around) (outer : List PySem.Env) (s : Shared) (H : Hp) (E : XK), Room k (A.deeper (envOfC qual (defScope st) s.heap.objs.size f cdv)) →
      ∃ t, PSs (Bx P w K mg base N qual st f cdv A outer s H E) (defBody st) t ∧ ∀ x, pre x → VSs K (cells0 N ((Ar x).map Arg.cell)) t ⟨fun _ => post x .none, fun _ d => post x d, fun _ => False, fun _ => False⟩) : FnOk P w K mg base CX0 (k + 1) f fd ps (spG K Ar pre post) := by
  refine F.ok Sc (fun vs H Q E h => ?_) (fun cdv A outer s H vs Q E hr h => ?_)
  · obtain ⟨B, x, _, p, hp, _⟩ := h
    rw [p.len, hl x]
  · obtain ⟨t, ht, hv⟩ := hb cdv A outer s H E hr
    obtain ⟨B, x, sub, p, hp, q⟩ := h
    have hlv : vs.length ≤ N.length := by rw [p.len, hl x]; exact hN
    refine ⟨t, ht, ?_⟩
    refine hv x hp [] L0 ⟨B, H⟩ (L2.start N vs) [] ⟨B, H⟩ _ (env_start sub p hlv) (fun Γ' σ' S' E' z => ?_) (fun Γ' σ' S' v d E' hd z => ?_) (fun Γ' σ' S' E' z => z.elim) (fun Γ' σ' S' E' z => z.elim)
    · exact q .non S' .none E'.gr E'.sub .non z
    · exact q v S' d E'.gr E'.sub hd z
theorem ok_W {α : Type} {x qual : Str} {st : Stmt} {f : Addr} {fd : FuncData} {N ps : List Str} {k : Nat} {Ar : α → Arg × List Arg} {pre : α → List Dat → Prop} {post : α → List Dat → List Dat → Dat → Prop} (F : Fun K x qual st f fd) (Sc : FnScope N ps (defScope st)) (hl : ∀ x, (Ar x).2.length + 2 = ps.length) (hN : ps.length ≤ N.length)
    (hb : ∀ (cdv : Value) (A : Around) (outer : List PySem.Env) (s : Shared) (H : Hp) (E : XK), Room k (A.deeper (envOfC qual (defScope st) s.heap.objs.size f cdv)) →
      ∃ t, PSs (Bx P w K mg base N qual st f cdv A outer s H E) (defBody st) t ∧ ∀ x zs, pre x zs → VSs K (cells0 N ((Ar x).1.cell :: .ln zs :: (Ar x).2.map Arg.cell)) t
        ⟨fun Γ => ∃ zs', Γ[1]? = some (.ln zs') ∧ post x zs zs' .none, fun Γ d => ∃ zs', Γ[1]? = some (.ln zs') ∧ post x zs zs' d, fun _ => False, fun _ => False⟩) : FnOk P w K mg base CX0 (k + 1) f fd ps (spW K Ar pre post) := by
  refine F.ok Sc (fun vs H Q E h => ?_) (fun cdv A outer s H vs Q E hr h => ?_)
  · obtain ⟨B, v0, t, rest, x, zs, rfl, _, p, _, _, hp, _⟩ := h
    have := hl x
    have := p.len
    simp only [List.length_cons] at *
    omega
  · obtain ⟨tr, ht, hv⟩ := hb cdv A outer s H E hr
    obtain ⟨B, v0, t, rest, x, zs, rfl, sub, p, nb, hz, hp, q⟩ := h
    obtain ⟨p0, p1⟩ : ArgOk K B v0 (Ar x).1 ∧ ArgsOk K B rest (Ar x).2 := by cases p with | cons a b => exact ⟨a, b⟩
    have hlv := hl x
    have hle := p1.len
    refine ⟨tr, ht, ?_⟩
    have fin : ∀ {Γ' : List Cell} {σ' : L2.St} {S' : Hs} {v : V} {d : Dat}, Env K (fun a => a = t) ⟨B, H⟩ Γ' [] σ' [] S' → Dq S'.b v d → (∃ zs', Γ'[1]? = some (.ln zs') ∧ post x zs zs' d) → Q v S'.h := fun {Γ' σ' S' v d} E' hd ⟨zs', h1, z⟩ => by
      obtain ⟨wd, g1, _⟩ := E'.ok
      obtain ⟨b, _, o, hb⟩ := g1 1 _ h1
      cases hb
      exact q v S' zs' d E'.gr E'.sub o.nb o.is hd z
    refine hv x zs hp [] (fun a => a = t) ⟨B, H⟩ _ [] ⟨B, H⟩ _ (env_startT sub p0 p1 nb hz (by omega)) (fun Γ' σ' S' E' z => ?_) (fun Γ' σ' S' v d E' hd z => fin E' hd z) (fun Γ' σ' S' E' z => z.elim) (fun Γ' σ' S' E' z => z.elim)
    exact fin E' .non z
end
end Ld
namespace Ld
open PySem PySem.Spec PyProof.Rows L2 Lx
/-- a module's whole number -/
structure GlobI (K : PySem.W.Frag) (mg : Str → Option Value) (x : Str) (n : Int) : Prop where
  u : ∃ t, mg x = some (.int n t)
end Ld
namespace Ld
open PySem PySem.Spec PyProof.Rows L2 Lx
section
variable {K : PySem.W.Frag} {Γ : List Cell} {Θ : List Tmp}
theorem c1_allF {ds : List Dat} (bs : List Bool) {Q : List Cell → Tmp → Prop} (h : ds = bs.map .bool) (q : Q Γ (.dt (.bool (bs.all id)))) : C1V K (L2.rAll K) Γ Θ (.fr ds) Q := c1_all (ns := bs) (by rw [h]; exact rd_fr) q
end
end Ld
set_option Elab.async false
set_option linter.all false
set_option maxRecDepth 100000
namespace Ld
open PySem PySem.Spec PyProof.Rows L2 Lx
section
variable {X : Cx} {K : PySem.W.Frag}
theorem ix_listK (e : X.K = K) : IxR X (rIxL K) := e ▸ ix_list
theorem op_eqDK (e : X.K = K) (hu : X.A.units + 64 < cLine) : OpR X (compareOp .Eq) (rEqD K) := e ▸ op_eqD hu
theorem cl_tupleFK (e : X.K = K) : CallR X (.type "tuple") (rTupOfF K) := e ▸ cl_tupleF
theorem sl_listK (e : X.K = K) : SlR X (rSlL K) := e ▸ sl_list
theorem pi_listK {tg l : Expr} {tl : TE} (e : X.K = K) (hl : PE X l tl) : PI X tg l (iList K tl) := e ▸ pi_list hl
theorem pg_tupK {es : List Expr} {k : Nat} {t : TGs} {n : Nat} {pos : Pos} (e : X.K = K) (hc : X.calm = true) (h : PGs X es t)
    (hn : (assignEach es X.env).length = n := by rfl) (hst : (assignEach es X.env).findIdx? (·.1) = none := by rfl) : PG X (.Tuple es k pos) (gTup K n t) := e ▸ pg_tup hc h hn hst
end
end Ld
set_option Elab.async false
set_option linter.all false
set_option maxRecDepth 100000
namespace Sh
open PySem PySem.Spec PyProof.Rows L2 Lx Ld
/-! ### data of rows -/
abbrev iL (ns : List Int) : List Dat := ns.map .int
def oD : Option Int → Dat
  | none => .none
  | some i => .int i
abbrev oL (row : List (Option Int)) : List Dat := row.map oD
def nums (row : List (Option Int)) : List Int := row.filterMap id
def gr (ns : List Int) : List Int := ns.zipIdx.map fun p => (((ns.take p.2).filter fun o => decide (o > p.1)).length : Nat)
def RowOk (r : List (Option Int)) : Prop := r.length ≤ 24 ∧ (nums r).Nodup
def lL (ll : List (List Int)) : List Dat := ll.map fun l => .list (iL l)
def asc (ns : List Int) : List Int := ns.mergeSort fun a b => decide (a ≤ b)
theorem kb_ii : kitB "int" "int" = some true := by decide +kernel
theorem kb_ib : kitB "int" "bool" = some false := by decide +kernel
theorem kb_tt : kitB "tuple" "tuple" = some true := by decide +kernel
theorem kb_ll : kitB "list" "list" = some true := by decide +kernel
theorem gl_le {n : Nat} (h : n ≤ 100000) : n ≤ sizeLine := by
  have : 100000 < sizeLine := by decide +kernel
  omega
theorem gl_lt {n : Nat} (h : n ≤ 100000) : n < sizeLine := by
  have : 100000 < sizeLine := by decide +kernel
  omega
theorem nums_eq : ∀ row : List (Option Int), (row.filter fun o => !isNo (oD o)).map oD = iL (nums row)
  | [] => rfl
  | none :: r => nums_eq r
  | some i :: r => by
    show PyData.int i :: ((r.filter fun o => !isNo (oD o)).map oD) = PyData.int i :: iL (nums r)
    rw [nums_eq r]
theorem nums_len (row : List (Option Int)) : (nums row).length ≤ row.length := List.length_filterMap_le _ _
theorem cut_to (ds : List Dat) (n : Nat) : Ld.cutD ds none (some (n : Int)) = ds.take n := by
  unfold Ld.cutD
  rw [HT.sIx_none, HT.sIx_nat, List.drop_zero, Nat.sub_zero, List.take_eq_take_iff]
  omega
theorem ixN_at {n j : Nat} (hj : j < n) : ixN n (j : Int) = some j := by
  unfold ixN
  rw [if_pos (by omega), if_pos (by omega), Int.toNat_natCast]
theorem atI_nat {α : Type} {xs : List α} {j : Nat} {x : α} (h : xs[j]? = some x) : atI xs (j : Int) = some x := by
  have hj := (List.getElem?_eq_some_iff.mp h).1
  unfold atI
  rw [ixN_at hj]
  exact h
theorem take_snoc {α : Type} {r : List α} {i : Nat} {o : α} (h : r[i]? = some o) : r.take (i + 1) = r.take i ++ [o] := by rw [List.take_add_one, h] <;> rfl
theorem nums_app (a b : List (Option Int)) : nums (a ++ b) = nums a ++ nums b := List.filterMap_append
/-! ### sorting -/
theorem eq_asc {ns ns' : List Int} (p : ns'.Perm ns) (h : ns'.Pairwise (· ≤ ·)) : ns' = asc ns := by
  refine List.Perm.eq_of_pairwise (le := fun a b : Int => a ≤ b) (fun a b _ _ x y => by omega) h ?_ (p.trans (List.mergeSort_perm _ _).symm)
  have := List.pairwise_mergeSort (le := fun a b : Int => decide (a ≤ b)) (fun a b c x y => by simp at *; omega) (fun a b => by simp; omega) ns
  exact this.imp (fun h => by simpa using h)
theorem asc_perm (ns : List Int) : (asc ns).Perm ns := List.mergeSort_perm _ _
theorem asc_srt (ns : List Int) : (asc ns).Pairwise (· ≤ ·) := (List.pairwise_mergeSort (le := fun a b : Int => decide (a ≤ b)) (fun a b c x y => by simp at *; omega) (fun a b => by simp; omega) ns).imp (fun h => by simpa using h)
end Sh
namespace Sh
open PySem PySem.Spec PyProof.Rows L2 Lx Ld
theorem oL_some (ns : List Int) : oL (ns.map some) = iL ns := by
  show List.map oD (List.map some ns) = _
  rw [List.map_map]
  rfl
theorem nums_some : ∀ ns : List Int, nums (ns.map some) = ns
  | [] => rfl
  | n :: ns => by
    show n :: nums (ns.map some) = _
    rw [nums_some ns]
end Sh
namespace Sh
theorem fil_true {α : Type} (xs : List α) : xs.filter (fun _ => true) = xs := List.filter_eq_self.mpr fun _ _ => rfl
end Sh
namespace Sh
open PySem PySem.Spec PyProof.Rows L2 Lx Ld
section
variable {K : PySem.W.Frag} {Γ : List Cell} {Θ : List Tmp}
theorem eqv_ii (i j : Int) : PyData.eqv (.int i) (.int j) = decide (i = j) := by
  simp [PyData.eqv, BEq.beq]
theorem r2_eqI {i j : Int} {Q : List Cell → Tmp → Prop} (q : Q Γ (.dt (.bool (decide (i = j))))) : R2V K (rEqD K) Γ Θ (.dt (.int i)) (.dt (.int j)) Q := r2_eqD rd_dt rd_dt rfl rfl (by rw [eqv_ii]; exact q)
theorem r2_neI {i j : Int} {Q : List Cell → Tmp → Prop} (q : Q Γ (.dt (.bool (!decide (i = j))))) : R2V K (rNeD K) Γ Θ (.dt (.int i)) (.dt (.int j)) Q := r2_neD rd_dt rd_dt rfl rfl (by rw [eqv_ii]; exact q)
end
end Sh
namespace Sh
open PySem PySem.Spec PyProof.Rows L2 Lx Ld
end Sh
namespace Sh
open PySem PySem.Spec PyProof.Rows L2 Lx Ld
/-! ### data that are compared -/
def Shp (n : Nat) (d : Dat) : Prop := d.canLay0 = true ∧ d.depth ≤ n
theorem shp_all {n : Nat} : ∀ {ds : List Dat}, (∀ d ∈ ds, Shp n d) → PyData.canLayAll0 ds = true ∧ PyData.depthAll ds ≤ n
  | [], _ => ⟨by simp only [PyData.canLayAll0], by simp only [PyData.depthAll]; exact Nat.zero_le _⟩
  | d :: ds, h => by
    have h1 := h d (by simp)
    have h2 := shp_all fun e he => h e (List.mem_cons_of_mem _ he)
    refine ⟨by simp only [PyData.canLayAll0, h1.1, h2.1]; rfl, ?_⟩
    simp only [PyData.depthAll]
    have := h1.2
    have := h2.2
    omega
theorem shp_list {n : Nat} {ds : List Dat} (h : ∀ d ∈ ds, Shp n d) : Shp (n + 1) (.list ds) := by
  have := shp_all h
  refine ⟨by simp only [PyData.canLay0]; exact this.1, ?_⟩
  have := this.2
  simp only [PyData.depth]
  omega
theorem shp_tup {n : Nat} {ds : List Dat} (h : ∀ d ∈ ds, Shp n d) : Shp (n + 1) (.tuple ds) := by
  have := shp_all h
  refine ⟨by simp only [PyData.canLay0]; exact this.1, ?_⟩
  have := this.2
  simp only [PyData.depth]
  omega
theorem shp_int (i : Int) : Shp 1 (.int i) := ⟨by simp only [PyData.canLay0], by simp [PyData.depth]⟩
theorem shp_none : Shp 1 .none := ⟨by simp only [PyData.canLay0], by simp [PyData.depth]⟩
theorem shp_ok {n : Nat} {d : Dat} (h : Shp n d) (l : n ≤ 64) : SeqAt.shaped d = true := by
  show (d.canLay0 && decide (d.depth ≤ 64)) = true
  rw [h.1, decide_eq_true (Nat.le_trans h.2 l)]
  rfl
theorem shp_iL (ns : List Int) : ∀ d ∈ iL ns, Shp 1 d := fun d h => by
  obtain ⟨i, _, rfl⟩ := List.mem_map.mp h
  exact shp_int i
theorem shp_oL (r : List (Option Int)) : ∀ d ∈ oL r, Shp 1 d := fun d h => by
  obtain ⟨i, _, rfl⟩ := List.mem_map.mp h
  cases i with
  | none => exact shp_none
  | some i => exact shp_int i
theorem shp_li (ns : List Int) : Shp 2 (.list (iL ns)) := shp_list (shp_iL ns)
theorem shp_to (r : List (Option Int)) : Shp 2 (.tuple (oL r)) := shp_tup (shp_oL r)
theorem eqv_li (xs ys : List Int) : PyData.eqvAll (iL xs) (iL ys) = decide (xs = ys) := by
  induction xs generalizing ys with
  | nil => cases ys <;> simp [PyData.eqvAll]
  | cons x xs ih =>
    cases ys with
    | nil => simp [PyData.eqvAll]
    | cons y ys =>
      show PyData.eqvAll (.int x :: iL xs) (.int y :: iL ys) = _
      simp only [PyData.eqvAll, ih, eqv_ii]
      by_cases h : x = y <;> simp [h]
theorem eqv_l (xs ys : List Int) : PyData.eqv (.list (iL xs)) (.list (iL ys)) = decide (xs = ys) := by
  simp only [PyData.eqv, eqv_li]
theorem eqv_oo (x y : Option Int) : PyData.eqv (oD x) (oD y) = decide (x = y) := by
  cases x <;> cases y <;> simp [oD, PyData.eqv, eqv_ii]
theorem eqv_to (xs ys : List (Option Int)) : PyData.eqv (.tuple (oL xs)) (.tuple (oL ys)) = decide (xs = ys) := by
  simp only [PyData.eqv]
  induction xs generalizing ys with
  | nil => cases ys <;> simp [PyData.eqvAll]
  | cons x xs ih =>
    cases ys with
    | nil => simp [PyData.eqvAll]
    | cons y ys =>
      show PyData.eqvAll (oD x :: oL xs) (oD y :: oL ys) = _
      simp only [PyData.eqvAll, ih, eqv_oo]
      by_cases h : x = y <;> simp [h]
section
variable {K : PySem.W.Frag} {Γ : List Cell} {Θ : List Tmp}
theorem r2_eqSL {ns ys : List Int} {y : Tmp} {Q : List Cell → Tmp → Prop} (hy : rd Γ y (.list (iL ys))) (q : Q Γ (.dt (.bool (decide (ns = ys))))) : R2V K (rEqD K) Γ Θ (.sc ns) y Q := r2_eqS hy (shp_ok (shp_li _) (by decide)) (shp_ok (shp_li _) (by decide)) (by rw [eqv_l]; exact q)
end
theorem atI_in {α : Type} {xs : List α} {i : Int} (h0 : 0 ≤ i) (h1 : i < xs.length) : ∃ x, atI xs i = some x ∧ x ∈ xs := by
  obtain ⟨n, rfl⟩ := Int.eq_ofNat_of_zero_le h0
  have hn : n < xs.length := by omega
  exact ⟨xs[n], atI_nat (List.getElem?_eq_getElem hn), List.getElem_mem _⟩
end Sh
namespace Sh
open PySem PySem.Spec PyProof.Rows L2 Lx Ld
def insA {α : Type} (l : List α) (j : Nat) (x : α) : List α := l.take j ++ [x] ++ l.drop j
theorem insA_len {α : Type} (l : List α) (j : Nat) (x : α) : (insA l j x).length = l.length + 1 := by
  unfold insA
  simp only [List.length_append, List.length_take, List.length_drop, List.length_singleton]
  omega
theorem insA_perm {α : Type} (l : List α) (j : Nat) (x : α) : (insA l j x).Perm (x :: l) := by
  unfold insA
  have h : (l.take j ++ [x] ++ l.drop j).Perm (x :: (l.take j ++ l.drop j)) := by
    rw [List.append_assoc]
    exact List.perm_middle
  rwa [List.take_append_drop] at h
theorem nums_ins (r : List (Option Int)) (j : Nat) : nums (insA r j none) = nums r := by
  unfold insA
  rw [nums_app, nums_app]
  show nums _ ++ [] ++ nums _ = _
  rw [List.append_nil, ← nums_app, List.take_append_drop]
def cntG (l : List Int) (a : Int) : Nat := (l.filter fun o => decide (o > a)).length
end Sh
namespace Sh
open PySem PySem.Spec PyProof.Rows L2 Lx Ld
theorem rng0_len {m : Nat} : (rngD 0 (m : Int)).length = m := by rw [rngD_len]; omega
theorem rng0 {m i : Nat} {d : Dat} (h : (rngD 0 (m : Int))[i]? = some d) : i < m ∧ d = .int (i : Int) := by
  have hi := (List.getElem?_eq_some_iff.mp h).1
  rw [rngD_len] at hi
  rw [rngD_at hi] at h
  exact ⟨by omega, by cases h; rw [Int.zero_add]⟩
theorem iL_ins (l : List Int) (j : Nat) (x : Int) : (iL l).take j ++ [PyData.int x] ++ (iL l).drop j = iL (insA l j x) := by
  simp only [iL, insA, List.map_append, List.map_take, List.map_drop, List.map_cons, List.map_nil]
theorem oL_ins (l : List (Option Int)) (j : Nat) (x : Option Int) : (oL l).take j ++ [oD x] ++ (oL l).drop j = oL (insA l j x) := by
  simp only [oL, insA, List.map_append, List.map_take, List.map_drop, List.map_cons, List.map_nil]
end Sh
namespace Sh
end Sh
namespace Sh
end Sh
set_option Elab.async false
set_option linter.all false
set_option maxRecDepth 100000
namespace Sh
open PySem PySem.Spec PyProof.Rows L2 Lx Ld
end Sh
set_option Elab.async false
set_option linter.all false
set_option maxRecDepth 100000
namespace Sh
open PySem PySem.Spec PyProof.Rows L2 Lx Ld
/-! ### counts and rows: there and back -/
def gc (l : List Int) (x : Int) : Nat := cntG (l.takeWhile fun y => y != x) x
theorem take_idx (x : Int) : ∀ l : List Int, l.take (l.idxOf x) = l.takeWhile fun y => y != x
  | [] => rfl
  | y :: l => by
    rw [List.idxOf_cons, List.takeWhile_cons]
    by_cases h : y = x
    · subst h
      simp
    · have : (y == x) = false := by simp [h]
      rw [this]
      simp [h, take_idx x l]
theorem tw_out {x : Int} (R : List Int) : ∀ {A : List Int}, x ∉ A → ((A ++ R).takeWhile fun y => y != x) = A ++ R.takeWhile fun y => y != x
  | [], _ => rfl
  | y :: A, h => by
    have h1 : y ≠ x := fun z => h (by simp [z])
    rw [List.cons_append, List.takeWhile_cons, tw_out R fun z => h (List.mem_cons_of_mem _ z)]
    simp [h1]
theorem cntG_app (A B : List Int) (x : Int) : cntG (A ++ B) x = cntG A x + cntG B x := by
  unfold cntG
  rw [List.filter_append, List.length_append]
theorem asc_of_perm {M N : List Int} (h : M.Perm N) : asc M = asc N := eq_asc ((asc_perm M).trans h) (asc_srt M)
end Sh
namespace Sh
open PySem PySem.Spec PyProof.Rows L2 Lx Ld
section
variable {K : PySem.W.Frag} {Γ : List Cell} {Θ : List Tmp}
theorem eqF_ii (a b : Int) : eqF (.int a) (.int b) = decide (a = b) := by simp [eqF, BEq.beq]
theorem iL_fl (ns : List Int) : (iL ns).all flD = true := by simp [flD]
theorem idx_at {ns : List Int} {n : Int} (h : n ∈ ns) : (iL ns)[ns.idxOf n]? = some (.int n) := by
  have hi := List.idxOf_lt_length_iff.mpr h
  rw [List.getElem?_map, List.getElem?_eq_getElem hi]
  simp
theorem idx_no {ns : List Int} {n : Int} {m : Nat} {z : Dat} (hm : m < ns.idxOf n) (hz : (iL ns)[m]? = some z) : eqF z (.int n) = false := by
  rw [List.getElem?_map] at hz
  obtain ⟨k, hk, rfl⟩ := Option.map_eq_some_iff.mp hz
  rw [eqF_ii]
  refine decide_eq_false fun e => ?_
  subst e
  obtain ⟨hl, e2⟩ := List.getElem?_eq_some_iff.mp hk
  have := List.not_of_lt_findIdx (xs := ns) (p := (· == k)) (i := m) hm
  simp [e2] at this
theorem ve_indexI {ta te : TE} {Q : List Cell → Tmp → Prop}
    (h : VE K Γ Θ ta fun Γ1 x => (∃ ds, rd Γ1 x (.list ds)) ∧ VE K Γ1 (x :: Θ) te fun Γ2 y => ∃ ns n, rd Γ2 x (.list (iL ns)) ∧ y = .dt (.int n) ∧ n ∈ ns ∧ Q Γ2 (.dt (.int (ns.idxOf n : Nat)))) :
    VE K Γ Θ (tBM K "list" (rIndex K) ta (tCons te tNil)) Q := ve_indexL (ve_mono h fun Γ1 x ⟨h1, h2⟩ => ⟨h1, ve_mono h2 fun Γ2 y ⟨ns, n, g1, g2, g3, g4⟩ => by
  subst g2
  exact ⟨iL ns, .int n, ns.idxOf n, .int n, g1, rd_dt, rfl, iL_fl ns, idx_at g3, by rw [eqF_ii]; simp, fun m z hm hz => idx_no hm hz, g4⟩⟩)
theorem ve_tidxI {ta te : TE} {Q : List Cell → Tmp → Prop}
    (h : VE K Γ Θ ta fun Γ1 x => ∃ ns, x = .dt (.tuple (iL ns)) ∧ VE K Γ1 (x :: Θ) te fun Γ2 y => ∃ n, y = .dt (.int n) ∧ n ∈ ns ∧ Q Γ2 (.dt (.int (ns.idxOf n : Nat)))) :
    VE K Γ Θ (tTIdx ta te) Q := ve_tidx (ve_mono h fun Γ1 x ⟨ns, hx, h2⟩ => ⟨iL ns, hx, ve_mono h2 fun Γ2 y ⟨n, g2, g3, g4⟩ => by
  subst g2
  exact ⟨.int n, ns.idxOf n, .int n, rd_dt, rfl, iL_fl ns, idx_at g3, by rw [eqF_ii]; simp, fun m z hm hz => idx_no hm hz, g4⟩⟩)
end
end Sh
namespace Sh
open PySem PySem.Spec PyProof.Rows L2 Lx Ld
section
variable {K : PySem.W.Frag} {Γ : List Cell} {Θ : List Tmp}
theorem eqvAll_rfl : ∀ {ds : List Dat}, (∀ d ∈ ds, PyData.eqv d d = true) → PyData.eqvAll ds ds = true
  | [], _ => by simp only [PyData.eqvAll]
  | d :: ds, h => by
    have h1 := h d (by simp)
    have h2 := eqvAll_rfl fun e he => h e (List.mem_cons_of_mem _ he)
    simp only [PyData.eqvAll, h1, h2]
    rfl
theorem eqv_rfl : ∀ (n : Nat) (d : Dat), Shp n d → PyData.eqv d d = true
  | 0, d, h => by
    have := h.2
    cases d <;> first
      | (simp [PyData.depth] at this; done)
      | (simp [PyData.eqv]; done)
  | n + 1, d, h => by
    have h1 := h.1
    have h2 := h.2
    have each : ∀ ds : List Dat, PyData.canLayAll0 ds = true → PyData.depthAll ds ≤ n → ∀ e ∈ ds, PyData.eqv e e = true := by
      intro ds
      induction ds with
      | nil => intro _ _ e he; cases he
      | cons e ds ih =>
        intro a b f hf
        simp only [PyData.canLayAll0, Bool.and_eq_true] at a
        simp only [PyData.depthAll] at b
        rcases List.mem_cons.mp hf with rfl | hf
        · exact eqv_rfl n f ⟨a.1, by omega⟩
        · exact ih a.2 (by omega) f hf
    cases d with
    | none => simp [PyData.eqv]
    | bool b => simp [PyData.eqv]
    | int i => simp [PyData.eqv]
    | str x => simp [PyData.eqv]
    | list ds =>
      simp only [PyData.canLay0] at h1
      simp only [PyData.depth] at h2
      simp only [PyData.eqv]
      exact eqvAll_rfl (each ds h1 (by omega))
    | tuple ds =>
      simp only [PyData.canLay0] at h1
      simp only [PyData.depth] at h2
      simp only [PyData.eqv]
      exact eqvAll_rfl (each ds h1 (by omega))
    | dict kvs => simp [PyData.canLay0] at h1
theorem r2_neA {x y : Tmp} {d e : Dat} {n : Nat} {Q : List Cell → Tmp → Prop} (hx : rd Γ x d) (hy : rd Γ y e) (hs : Shp n d) (hn : n ≤ 64) (he : d = e) (q : Q Γ (.dt (.bool false))) : R2V K (rNeD K) Γ Θ x y Q := by
  subst he
  exact r2_neD hx hy (shp_ok hs hn) (shp_ok hs hn) (by rw [eqv_rfl n d hs]; exact q)
end
end Sh
namespace Sh
end Sh
namespace Sh
end Sh
set_option Elab.async false
set_option linter.all false
set_option maxRecDepth 100000
namespace Ld
open PySem PySem.Spec PyProof.Rows L2 Lx
def spV {α : Type} (K : PySem.W.Frag) (A : α → List Arg) (pre : α → List Dat → Prop) (post : α → List Dat → List Dat → Dat → Prop) : Sp := fun vs H Q _ => ∃ (B : Hp) (t : Addr) (rest : List V) (x : α) (zs : List Dat), vs = .ref t :: rest ∧ Same B H ∧ ArgsOk K B rest (A x) ∧
  B t = none ∧ (∃ us, H t = some (.lst us) ∧ DqAll B us zs) ∧ pre x zs ∧
  ∀ v S' zs' d, Gr (fun a => a = t) ⟨B, H⟩ S' → Same S'.b S'.h → S'.b t = none → (∃ us, S'.h t = some (.lst us) ∧ DqAll S'.b us zs') → Dq S'.b v d → post x zs zs' d → Q v S'.h
section
variable {K : PySem.W.Frag} {Γ : List Cell} {Θ : List Tmp}
theorem ve_callV {α : Type} {A : α → List Arg} {pre : α → List Dat → Prop} {post : α → List Dat → List Dat → Dat → Prop} {X : XK} {i : Nat} {t : TA} {Q : List Cell → Tmp → Prop} (h0 : ∃ ds, IsLs Γ i ds)
    (h : VAX K Γ Θ t fun Γ2 as => ∃ x zs, IsLs Γ2 i zs ∧ as = A x ∧ pre x zs ∧ ∀ zs' d, post x zs zs' d → Q (putC Γ2 i zs') (.dt d)) :
    VE K Γ Θ (tCall (spV K A pre post) [] X (tCons (tVar i) t)) Q := fun L S0 σ τ S Qv E k => by
  obtain ⟨ds, c1, hc1, hl1⟩ := h0
  obtain ⟨a, ea, _⟩ := E.own hc1 hl1
  refine ⟨_, ea, h L S0 σ τ S _ E fun Γ2 S2 vs as E2 p ⟨x, zs, ⟨c, hc, hl⟩, ex, hp, q⟩ => ?_⟩
  obtain ⟨a', ea', nb, us, hu, pu⟩ := E2.own hc hl
  rw [ea] at ea'; cases ea'
  show spV K A pre post ((.ref a :: vs) ++ []) S2.h Qv X
  rw [List.append_nil]
  subst ex
  refine ⟨S2.b, a, vs, x, zs, rfl, E2.sub, p, nb, ⟨us, hu, pu⟩, hp, fun v S' zs' d g s nb' hz hd hq => ?_⟩
  have q' := q zs' d hq
  rw [putC_eq hc] at q'
  exact k _ S' v _ ((E2.lent hc hl ea g s nb' hz).push hd) q'
/-- xs.remove(n), whole numbers -/
theorem ve_remove {i : Nat} {te : TE} {Q : List Cell → Tmp → Prop} (h0 : ∃ ds, IsLs Γ i ds) (h : VE K Γ Θ te fun Γ1 y => ∃ (ns : List Int) (n : Int), y = .dt (.int n) ∧ IsLs Γ1 i (ns.map .int) ∧ n ∈ ns ∧ Q (putC Γ1 i ((ns.erase n).map .int)) (.dt .none)) : VE K Γ Θ (tBM K "list" rRemI (tVar i) (tCons te tNil)) Q := fun L S0 σ τ S Qv E k => by
  obtain ⟨ds0, c0, hc0, hl0⟩ := h0
  obtain ⟨a, ea, _, us, hu, _⟩ := E.own hc0 hl0
  refine ⟨_, ea, .inl ⟨rfl, us, .of hu⟩, h L S0 σ τ S _ E fun Γ1 S1 v y E1 ⟨ns, n, ey, ⟨c, hc, hl⟩, hm, q⟩ => ?_⟩
  subst ey
  have ev : v = .int n := dp_int E1.dt
  obtain ⟨a', vs, ea', hv, p, mk⟩ := E1.pop.mutSlot hc hl
  rw [ea] at ea'; cases ea'
  have evs := dpa_ints p
  subst evs
  rw [putC_eq hc] at q
  have hi := List.idxOf_lt_length_iff.mpr hm
  have e1 : ns.eraseIdx (ns.idxOf n) = ns.erase n := (List.erase_eq_eraseIdx_of_idxOf rfl).symm
  refine ⟨a, ns, n, ns.idxOf n, rfl, by rw [ev], hv, by rw [List.getElem?_eq_getElem hi]; simp, fun m hmi e => ?_, ?_⟩
  · obtain ⟨h1, h2⟩ := List.getElem?_eq_some_iff.mp e
    have := List.not_of_lt_findIdx (xs := ns) (p := (· == n)) (i := m) hmi
    simp [h2] at this
  · rw [e1]
    exact k _ _ _ _ ((mk _ _ (dpa_of_ints _)).push .non) q
end
end Ld
namespace Sh
open PySem PySem.Spec PyProof.Rows L2 Lx Ld
theorem eqv_ss (a b : Str) : PyData.eqv (.str a) (.str b) = decide (a = b) := by
  simp [PyData.eqv, BEq.beq]
end Sh
namespace Ld
open PySem PySem.Spec PyProof.Rows L2 Lx
structure GlobS (K : PySem.W.Frag) (mg : Str → Option Value) (x : Str) (n : Str) : Prop where
  u : ∃ t, mg x = some (.str n t)
end Ld
namespace Sh
open PySem PySem.Spec PyProof.Rows L2 Lx Ld
theorem kb_ss : kitB "str" "str" = some true := by decide +kernel
def wd (l : Bool) : Str := if l then "light" else "heavy"
def sg (l : Bool) : Int := if l then 1 else -1
theorem wd_l (l : Bool) : decide (wd l = ("light" : Str)) = l := by cases l <;> decide +kernel
theorem wd_s (l : Bool) : SeqAt.shaped (.str (wd l)) = true := by cases l <;> decide +kernel
theorem light_s : SeqAt.shaped (.str "light") = true := by decide +kernel
section
variable {K : PySem.W.Frag} {Γ : List Cell} {Θ : List Tmp}
theorem r2_eqW {l : Bool} {Q : List Cell → Tmp → Prop} (q : Q Γ (.dt (.bool l))) : R2V K (rEqD K) Γ Θ (.dt (.str (wd l))) (.dt (.str "light")) Q := r2_eqD rd_dt rd_dt (wd_s l) light_s (by rw [eqv_ss, wd_l]; exact q)
end
def tm (l : Bool) (xs : List Int) : List Int := xs.map (sg l * ·)
end Sh
set_option Elab.async false
set_option linter.all false
set_option maxRecDepth 100000
set_option maxHeartbeats 2000000
namespace Ld
open PySem PySem.Spec PyProof.Rows L2 Lx
/-- a tuple at a, a list at b, as they stand at each turn; the items in new pairs -/
def ItzM (K : PySem.W.Frag) (a b : Addr) : It := ⟨fun i H => ∃ (xs ys : List V) (x y : V), SqT K H a xs ∧ SqL K H b ys ∧ xs[i]? = some x ∧ ys[i]? = some y, fun i H v H' => ∃ T x y, v = .ref T ∧ H T = none ∧ H' = upd H T (.tup [x, y]) ∧ (∀ xs, SqT K H a xs → xs[i]? = some x) ∧ ∀ ys, SqL K H b ys → ys[i]? = some y, fun i H => ∃ xs ys : List V, SqT K H a xs ∧ SqL K H b ys ∧ (xs.length ≤ i ∨ ys.length ≤ i)⟩
def iZipM (K : PySem.W.Frag) (ta : TA) : TI := fun σ H R => ta σ H fun vs H1 => ∃ a b xs ys, vs = [.ref a, .ref b] ∧ SqT K H1 a xs ∧ SqL K H1 b ys ∧ R (ItzM K a b) H1
section
variable {K : PySem.W.Frag} {Γ : List Cell} {Θ : List Tmp}
theorem vi_zipM {ta tb : TE} {Q : List Cell → Bool → List Dat → Prop} (h : VD K Γ Θ ta fun Γ1 d => VD K Γ1 (.dt d :: Θ) tb fun Γ2 e => ∃ ds es, d = .tuple ds ∧ e = .list es ∧ Q Γ2 true (zipD ds es)) : VI K Γ Θ (iZipM K (tCons ta (tCons tb tNil))) Q := fun L S0 σ τ S R E k =>
  h L S0 σ τ S _ E fun Γ1 S1 u d E1 h1 => h1 L S0 σ _ S1 _ E1 fun Γ2 S2 v e E2 ⟨ds, es, ed, ee, q⟩ => by
  subst ed ee
  obtain ⟨b, zs, eb, hb, pb⟩ := dp_list E2.dt
  obtain ⟨a, oa, xs, ea, _, hx, p⟩ := dp_tup E2.pop.dt
  subst ea eb
  refine ⟨a, b, xs, zs, rfl, sqt_f (E2.sub _ _ hx), .of (E2.sub _ _ hb), k Γ2 [.list es, .tuple ds] [.ref b, .ref a] S2 _ true (zipD ds es) E2 rfl ⟨fun S i sub hs hi => ?_, fun S sub hs => ?_, fun S i x H' sub hs hi y => ?_⟩ q⟩
  · obtain ⟨ws, hw', pw⟩ := src_l (K := K) sub (dqa_two hs).1
    obtain ⟨ys, hy', py⟩ := src_t (K := K) sub (dqa_two hs).2
    rw [zipD_len] at hi
    have i1 : i < ds.length := by omega
    have i2 : i < es.length := by omega
    obtain ⟨z, hz, _⟩ := py.get (List.getElem?_eq_getElem i1)
    obtain ⟨z', hz', _⟩ := pw.get (List.getElem?_eq_getElem i2)
    exact ⟨ys, ws, z, z', hy', hw', hz, hz'⟩
  · obtain ⟨ws, hw', pw⟩ := src_l (K := K) sub (dqa_two hs).1
    obtain ⟨ys, hy', py⟩ := src_t (K := K) sub (dqa_two hs).2
    refine ⟨ys, ws, hy', hw', ?_⟩
    rw [zipD_len, py.len, pw.len]
    omega
  · obtain ⟨ws, hw', pw⟩ := src_l (K := K) sub (dqa_two hs).1
    obtain ⟨ys, hy', py⟩ := src_t (K := K) sub (dqa_two hs).2
    obtain ⟨T, z, z', rfl, hT, rfl, y1, y2⟩ := y
    obtain ⟨d, hd, gd⟩ := py.getV (y1 ys hy')
    obtain ⟨e, he, ge⟩ := pw.getV (y2 ws hw')
    obtain ⟨S', e1, g1, s1, q1⟩ := gr_pair sub hT gd ge
    exact ⟨S', _, e1, g1, s1, zipD_at hd he, q1⟩
end
end Ld
set_option Elab.async false
set_option linter.all false
set_option maxRecDepth 100000
namespace Sh
/-! ### past a light shelf -/
def lp : List (Int × Nat) → List Int → List Int
  | [], S => asc S
  | (a, m) :: r, S => (asc (S ++ [a])).take (S.length + 1 - m) ++ lp r ((asc (S ++ [a])).drop (S.length + 1 - m))
theorem cntG_perm {A B : List Int} (h : A.Perm B) (x : Int) : cntG A x = cntG B x := (h.filter _).length_eq
theorem gc_out {A B : List Int} {x : Int} (h : x ∉ A) : gc (A ++ B) x = cntG A x + gc B x := by
  unfold gc
  rw [tw_out _ h, cntG_app]
end Sh
namespace Sh
end Sh
namespace Ld
open PySem PySem.Spec PyProof.Rows L2 Lx
end Ld
namespace Sh
open PySem PySem.Spec PyProof.Rows L2 Lx Ld
end Sh
namespace Sh
open PySem PySem.Spec PyProof.Rows L2 Lx Ld
end Sh
namespace Sh
/-- a stretch past a shelf, a row past a shelf -/
def pastL (l : Bool) (n : Nat) (s : List Int) : List Int := tm l (lp ((tm l s).map fun a => (a, n)) [])
end Sh
namespace Sh
open PySem PySem.Spec PyProof.Rows L2 Lx Ld
end Sh
namespace Sh
end Sh
namespace Sh
open PySem PySem.Spec PyProof.Rows L2 Lx Ld
end Sh
namespace Ld
open PySem PySem.Spec PyProof.Rows L2 Lx
/-- a, b = x, y where a name is a cell: the pair is made and taken apart -/
theorem ss_parT {K : PySem.W.Frag} {Γ : List Cell} {i j : Nat} {ta tb : TE} {R : DE} (h : ∀ ss, VE K Γ (srcT ss) ta fun Γ1 x => VE K Γ1 (x :: srcT ss) tb fun Γ2 y => (∀ k, x ≠ .br k) ∧ ∃ Γ3 Γ4, St1 Γ2 i x = some Γ3 ∧ St1 Γ3 j y = some Γ4 ∧ R.nx Γ4) :
    VSs K Γ (tAsg (tTupF (tCons ta (tCons tb tNil))) (gTup K 2 (gCons (gName i) (gCons (gName j) gNil)))) R := fun ss L S0 σ τ S D E kn kr kb kc =>
  h ss L S0 σ τ S _ E fun Γ1 S1 u x E1 h1 => h1 L S0 σ _ S1 _ E1 fun Γ2 S2 v y E2 ⟨nx, Γ3, Γ4, e3, e4, q⟩ => by
    refine ⟨Nat.le_of_lt (show 2 < sizeLine by decide +kernel), fun p o hd hp => ?_⟩
    have E3 := E2.grow (gr_new (o := .frz o (.tup [u, v])) hp E2.sub) (sub_new hp E2.sub)
    refine ⟨p, [u, v], rfl, sqt_f upd_same, rfl, u, [v], rfl, v, [], rfl, rfl, ?_⟩
    have ny : y ≠ .br i := fun z => by subst z; cases e4
    exact kn Γ4 _ ⟨S2.b, upd S2.h p (.frz o (.tup [u, v]))⟩ (((E3.swap).st1 (fun t ht => by
      rcases List.mem_cons.mp ht with rfl | ht
      · exact ny
      · exact nb_src t ht) e3).st1 nb_src e4) q
end Ld
namespace Ld
open PySem PySem.Spec PyProof.Rows L2 Lx
end Ld
namespace Sh
open PySem PySem.Spec PyProof.Rows L2 Lx Ld
end Sh
namespace Sh
open PySem PySem.Spec PyProof.Rows L2 Lx Ld
end Sh
set_option Elab.async false
set_option linter.all false
set_option maxRecDepth 100000
namespace Sh
open PySem PySem.Spec PyProof.Rows L2 Lx Ld
/-! ### stretches, marks, the opposite row -/
end Sh
namespace Sh
open PySem PySem.Spec PyProof.Rows L2 Lx Ld
theorem ve_ifS {K : PySem.W.Frag} {Γ : List Cell} {Θ : List Tmp} {te : TE} {Q : List Cell → Tmp → Prop} (h : VE K Γ Θ te fun Γ1 x => ∃ l, x = .dt (.str (wd l)) ∧ Q Γ1 (.dt (.int (sg l)))) :
    VE K Γ Θ (tIf (tTest (tOp (rEqD K) te (tC (V.str "light")))) (tC (V.int 1)) (tUn (rU fun i => V.int (-i)) (tC (V.int 1)))) Q :=
  ve_ifE (vt_test (ve_op (ve_mono h fun Γ1 x ⟨l, ex, q⟩ => by
    subst ex
    refine ve_str (r2_eqW (asb ⟨fun e => ?_, fun e => ?_⟩))
    · subst e
      exact ve_int q
    · subst e
      exact ve_un rfl (ve_int ⟨1, rfl, q⟩))))
end Sh
namespace Sh
open PySem PySem.Spec PyProof.Rows L2 Lx Ld
theorem idx_nd {N : List Int} (h : N.Nodup) {i : Nat} {x : Int} (hx : N[i]? = some x) : N.idxOf x = i := by
  obtain ⟨hi, e⟩ := List.getElem?_eq_some_iff.mp hx
  subst e
  exact h.idxOf_getElem i hi
end Sh
set_option Elab.async false
set_option linter.all false
set_option maxRecDepth 100000
set_option maxHeartbeats 2000000
namespace Ld
open PySem PySem.Spec PyProof.Rows L2 Lx
/-- a tuple at a, a list at b, as they stand at each turn; the items in new pairs -/
def ItzT2 (K : PySem.W.Frag) (a b : Addr) : It := ⟨fun i H => ∃ (xs ys : List V) (x y : V), SqT K H a xs ∧ SqT K H b ys ∧ xs[i]? = some x ∧ ys[i]? = some y, fun i H v H' => ∃ T x y, v = .ref T ∧ H T = none ∧ H' = upd H T (.tup [x, y]) ∧ (∀ xs, SqT K H a xs → xs[i]? = some x) ∧ ∀ ys, SqT K H b ys → ys[i]? = some y, fun i H => ∃ xs ys : List V, SqT K H a xs ∧ SqT K H b ys ∧ (xs.length ≤ i ∨ ys.length ≤ i)⟩
def iZipT2 (K : PySem.W.Frag) (ta : TA) : TI := fun σ H R => ta σ H fun vs H1 => ∃ a b xs ys, vs = [.ref a, .ref b] ∧ SqT K H1 a xs ∧ SqT K H1 b ys ∧ R (ItzT2 K a b) H1
section
variable {K : PySem.W.Frag} {Γ : List Cell} {Θ : List Tmp}
theorem vi_zipT2 {ta tb : TE} {Q : List Cell → Bool → List Dat → Prop} (h : VD K Γ Θ ta fun Γ1 d => VD K Γ1 (.dt d :: Θ) tb fun Γ2 e => ∃ ds es, d = .tuple ds ∧ e = .tuple es ∧ Q Γ2 true (zipD ds es)) : VI K Γ Θ (iZipT2 K (tCons ta (tCons tb tNil))) Q := fun L S0 σ τ S R E k =>
  h L S0 σ τ S _ E fun Γ1 S1 u d E1 h1 => h1 L S0 σ _ S1 _ E1 fun Γ2 S2 v e E2 ⟨ds, es, ed, ee, q⟩ => by
  subst ed ee
  obtain ⟨b, ob, zs, eb, _, hb, pb⟩ := dp_tup E2.dt
  obtain ⟨a, oa, xs, ea, _, hx, p⟩ := dp_tup E2.pop.dt
  subst ea eb
  refine ⟨a, b, xs, zs, rfl, sqt_f (E2.sub _ _ hx), sqt_f (E2.sub _ _ hb), k Γ2 [.tuple es, .tuple ds] [.ref b, .ref a] S2 _ true (zipD ds es) E2 rfl ⟨fun S i sub hs hi => ?_, fun S sub hs => ?_, fun S i x H' sub hs hi y => ?_⟩ q⟩
  · obtain ⟨ws, hw', pw⟩ := src_t (K := K) sub (dqa_two hs).1
    obtain ⟨ys, hy', py⟩ := src_t (K := K) sub (dqa_two hs).2
    rw [zipD_len] at hi
    have i1 : i < ds.length := by omega
    have i2 : i < es.length := by omega
    obtain ⟨z, hz, _⟩ := py.get (List.getElem?_eq_getElem i1)
    obtain ⟨z', hz', _⟩ := pw.get (List.getElem?_eq_getElem i2)
    exact ⟨ys, ws, z, z', hy', hw', hz, hz'⟩
  · obtain ⟨ws, hw', pw⟩ := src_t (K := K) sub (dqa_two hs).1
    obtain ⟨ys, hy', py⟩ := src_t (K := K) sub (dqa_two hs).2
    refine ⟨ys, ws, hy', hw', ?_⟩
    rw [zipD_len, py.len, pw.len]
    omega
  · obtain ⟨ws, hw', pw⟩ := src_t (K := K) sub (dqa_two hs).1
    obtain ⟨ys, hy', py⟩ := src_t (K := K) sub (dqa_two hs).2
    obtain ⟨T, z, z', rfl, hT, rfl, y1, y2⟩ := y
    obtain ⟨d, hd, gd⟩ := py.getV (y1 ys hy')
    obtain ⟨e, he, ge⟩ := pw.getV (y2 ws hw')
    obtain ⟨S', e1, g1, s1, q1⟩ := gr_pair sub hT gd ge
    exact ⟨S', _, e1, g1, s1, zipD_at hd he, q1⟩
end
end Ld
set_option Elab.async false
set_option linter.all false
set_option maxRecDepth 100000
set_option maxHeartbeats 4000000
/-! tuple * int; dicts of ints -/
namespace Lx
open PySem PySem.Spec PyProof.Rows L2
end Lx
namespace Lx
open PySem PySem.Spec PyProof.Rows L2
end Lx
namespace Ld
open PySem PySem.Spec PyProof.Rows L2 Lx
section
variable {K : PySem.W.Frag} {Γ : List Cell} {Θ : List Tmp}
/-! ### dicts of ints -/
abbrev dI (l : List (Int × Int)) : HO := .dK (l.map fun p => (Sum.inl p.1, V.int p.2))
def lk (l : List (Int × Int)) (n : Int) : Option Int := (l.find? fun p => decide (p.1 = n)).map (·.2)
theorem lk_val (l : List (Int × Int)) (n : Int) : valV (l.map fun p => ((Sum.inl p.1 : Key), V.int p.2)) (Sum.inl n) = (lk l n).map V.int := by
  induction l with
  | nil => rfl
  | cons p l ih =>
    by_cases h : p.1 = n
    · rw [List.map_cons, valV_pos (by rw [h])]
      simp [lk, List.find?_cons, h]
    · rw [List.map_cons, valV_neg (fun e => h (Sum.inl.inj e)), ih]
      simp [lk, List.find?_cons, h]
theorem ve_dnew {Q : List Cell → Tmp → Prop} (q : Q Γ (.ob (dI []))) : VE K Γ Θ tDNewK Q := fun L S0 σ τ S Qv E k p hp => k Γ _ _ _ (E.newOb hp) q
theorem ve_ob {i : Nat} {p : HO} {Q : List Cell → Tmp → Prop} (h : Γ[i]? = some (.ob p)) (q : Q Γ (.br i)) : VE K Γ Θ (tVar i) Q := fun L S0 σ τ S Qv E k => by
  obtain ⟨w, h1, h2⟩ := id E.ok
  obtain ⟨a, e, o, n⟩ := h1 i _ h
  exact ⟨_, e, k Γ S _ _ (E.pushBr e) q⟩
theorem ve_dget {i : Nat} {te : TE} {Q : List Cell → Tmp → Prop} (h0 : ∃ p, Γ[i]? = some (.ob p)) (h : VE K Γ (.br i :: Θ) te fun Γ1 y => ∃ (l : List (Int × Int)) (n m : Int), Γ1[i]? = some (.ob (dI l)) ∧ y = .dt (.int n) ∧ lk l n = some m ∧ Q Γ1 (.dt (.int m))) : VE K Γ Θ (tDGet (tVar i) te) Q := by
  obtain ⟨p, h0⟩ := h0
  refine fun L S0 σ τ S Qv E k => ve_ob (Q := fun Γ1 c => Γ1 = Γ ∧ c = .br i) h0 ⟨rfl, rfl⟩ L S0 σ τ S _ E fun Γ1 S1 v c E1 ⟨e1, e2⟩ => ?_
  subst e1 e2
  refine h L S0 σ _ S1 _ E1 fun Γ2 S2 vy y E2 ⟨l, n, m, hi, ey, hl, q⟩ => ?_
  subst ey
  obtain ⟨a, ea, ha⟩ := E2.pop.ob_at hi
  refine ⟨a, .int m, ea, ?_, k Γ2 S2 _ _ (E2.pop.pop.push (.int m)) q⟩
  have hg := DGet.k (k := Sum.inl n) ha
  rw [lk_val, hl] at hg
  rw [dp_int E2.dt]
  exact hg
theorem ss_dput {i : Nat} {ty tv : TE} {R : DE} (h : ∀ ss, VE K Γ (srcT ss) tv fun Γ1 v => ∃ m : Int, v = .dt (.int m) ∧ (∃ p, Γ1[i]? = some (.ob p)) ∧ VE K Γ1 (.br i :: .dt (.int m) :: srcT ss) ty fun Γ2 y => ∃ (l : List (Int × Int)) (n : Int), Γ2[i]? = some (.ob (dI l)) ∧ y = .dt (.int n) ∧ l.length < sizeLine ∧ lk l n = none ∧ R.nx (Γ2.set i (.ob (dI (l ++ [(n, m)]))))) :
    VSs K Γ (sDPut (tVar i) ty tv) R := fun ss L S0 σ τ S D E kn kr kb kc =>
  h ss L S0 σ τ S _ E fun Γ1 S1 v x E1 ⟨m, ex, ⟨p, h0⟩, h1⟩ => by
    subst ex
    refine ve_ob (Q := fun Γ2 c => Γ2 = Γ1 ∧ c = .br i) h0 ⟨rfl, rfl⟩ L S0 σ _ S1 _ E1 fun Γ2 S2 vd c E2 ⟨e1, e2⟩ => ?_
    subst e1 e2
    refine h1 L S0 σ _ S2 _ E2 fun Γ3 S3 vy y E3 ⟨l, n, hi, ey, hl, hk, q⟩ => ?_
    subst ey
    obtain ⟨a, ea, ha⟩ := E3.pop.ob_at hi
    obtain ⟨a', e', ha', put⟩ := E3.pop.pop.pop.mutOb hi
    have ev : v = .int m := dp_int E3.pop.pop.dt
    have ey : vy = .int n := dp_int E3.dt
    have eaa : a' = a := by
      obtain ⟨w, h1, z, h2⟩ := E3.pop.ok
      have z' : σ[i]? = some (some vd) := z
      rw [z', ea] at e'
      cases e'
      rfl
    subst eaa
    refine ⟨a', _, ea, ?_, kn _ _ ⟨S3.b, upd S3.h a' (dI (l ++ [(n, m)]))⟩ (put _) q⟩
    have hp := DPut.k (k := Sum.inl n) (v := .int m) ha (by rw [List.length_map]; exact hl)
    rw [putK_new _ (by rw [lk_val, hk]; rfl)] at hp
    rw [ev, ey]
    show DPut S3.h a' (kV (Sum.inl n)) (.int m) (upd S3.h a' (dI (l ++ [(n, m)])))
    unfold dI
    rw [List.map_append]
    exact hp
end
end Ld
namespace Ld
open PySem PySem.W
end Ld
set_option Elab.async false
set_option linter.all false
set_option maxRecDepth 100000
namespace Sh
/-! ### places that change: the count in its closed form -/
end Sh
namespace Sh
open PySem PySem.Spec PyProof.Rows L2 Lx Ld
theorem nd_take {N : List Int} (h : N.Nodup) {i : Nat} {x : Int} (hx : N[i]? = some x) : x ∉ N.take i := fun z => by
  obtain ⟨j, hj⟩ := List.getElem?_of_mem z
  rw [List.getElem?_take] at hj
  by_cases hji : j < i
  · rw [if_pos hji] at hj
    have := (List.getElem?_inj (List.getElem?_eq_some_iff.mp hx).1 h).mp (hx.trans hj.symm)
    omega
  · rw [if_neg hji] at hj
    cases hj
end Sh
namespace Sh
open PySem PySem.Spec PyProof.Rows L2 Lx Ld
theorem cut_from (ds : List Dat) (n : Nat) : Ld.cutD ds (some (n : Int)) none = ds.drop n := by
  unfold Ld.cutD
  rw [HT.sIx_none, HT.sIx_nat]
  have e : ds.drop (min n ds.length) = ds.drop n := by
    by_cases h : n ≤ ds.length
    · rw [Nat.min_eq_left h]
    · rw [Nat.min_eq_right (by omega), List.drop_length, List.drop_of_length_le (by omega)]
  rw [e, List.take_of_length_le (by rw [List.length_drop]; omega)]
end Sh
set_option Elab.async false
set_option linter.all false
set_option maxRecDepth 100000
/-! the truth of lists, a name that a comprehension uses again, words -/
namespace Ld
open PySem PySem.Spec PyProof.Rows L2 Lx Sh
def tTru (K : PySem.W.Frag) (ta : TE) : TT := fun σ H Q => ta σ H fun x H' => ∃ k, TruV K x H' k ∧ Q k H'
section
variable {K : PySem.W.Frag} {Γ : List Cell} {Θ : List Tmp}
theorem isEmpty_len {α β : Type} {a : List α} {b : List β} (h : a.length = b.length) : a.isEmpty = b.isEmpty := by
  cases a <;> cases b <;> simp at h <;> rfl
theorem vt_truL {te : TE} {Q : List Cell → Bool → Prop} (h : VE K Γ Θ te fun Γ1 x => ∃ ds, rd Γ1 x (.list ds) ∧ Q Γ1 (!ds.isEmpty)) : VT K Γ Θ (tTru K te) Q := fun L S0 σ τ S Qv E k => h L S0 σ τ S _ E fun Γ1 S1 v x E1 ⟨ds, hx, q⟩ => by
  obtain ⟨a, us, ev, ha, pa⟩ := rdB_l E1 hx
  subst ev
  refine ⟨!us.isEmpty, .inl ⟨us, .of ha, rfl⟩, ?_⟩
  rw [isEmpty_len pa.len]
  exact k Γ1 S1 _ E1.pop q
theorem vt_truT {te : TE} {Q : List Cell → Bool → Prop} (h : VE K Γ Θ te fun Γ1 x => ∃ ds, x = .dt (.tuple ds) ∧ Q Γ1 (!ds.isEmpty)) : VT K Γ Θ (tTru K te) Q := fun L S0 σ τ S Qv E k => h L S0 σ τ S _ E fun Γ1 S1 v x E1 ⟨ds, hx, q⟩ => by
  subst hx
  obtain ⟨a, o, us, ev, _, ha, pa⟩ := dp_tup E1.dt
  subst ev
  refine ⟨!us.isEmpty, .inr (.inl ⟨us, sqt_f (E1.sub _ _ ha), rfl⟩), ?_⟩
  rw [isEmpty_len pa.len]
  exact k Γ1 S1 _ E1.pop q
theorem wd_eq (a b : Bool) : decide (wd a = wd b) = decide (a = b) := by cases a <;> cases b <;> decide +kernel
theorem r2_eqWW {a b : Bool} {Q : List Cell → Tmp → Prop} (q : Q Γ (.dt (.bool (decide (a = b))))) : R2V K (rEqD K) Γ Θ (.dt (.str (wd a))) (.dt (.str (wd b))) Q := r2_eqD rd_dt rd_dt (wd_s a) (wd_s b) (by rw [eqv_ss, wd_eq]; exact q)
end
end Ld
namespace Ld
open PySem PySem.Spec PyProof.Rows L2 Lx
/-- what a name holds is forgotten -/
theorem Env.fgt {K : PySem.W.Frag} {L : Addr → Prop} {S0 S : Hs} {Γ : List Cell} {Θ : List Tmp} {σ : L2.St} {τ : List V} (v : Nat) (E : Env K L S0 Γ Θ σ τ S) : Env K L S0 (Γ.set v .no) Θ σ τ S := E.forget (List.length_set ..) fun i c e => by
  by_cases hi : v = i
  · subst hi
    by_cases hl : v < Γ.length
    · rw [List.getElem?_set_self hl] at e
      cases e
      exact .inl rfl
    · have := (List.getElem?_eq_some_iff.mp e).1
      rw [List.length_set] at this
      omega
  · rw [List.getElem?_set_ne hi] at e
    exact .inr e
theorem ss_forget {K : PySem.W.Frag} {Γ : List Cell} (v : Nat) {t : TS} {R : DE} (h : VSs K (Γ.set v .no) t R) : VSs K Γ t R := fun ss L S0 σ τ S D E => h ss L S0 σ τ S D (E.fgt v)
end Ld
namespace Ld
open PySem PySem.Spec PyProof.Rows L2 Lx
theorem vg_three {K : PySem.W.Frag} {Γ : List Cell} {pr : Bool} {i j l : Nat} {x y z : Dat} {Q : List Cell → Prop} (q : Q (((Γ.set i (.dt x)).set j (.dt y)).set l (.dt z))) : VG K pr Γ (gTup K 3 (gCons (gName i) (gCons (gName j) (gCons (gName l) gNil)))) (.tuple [x, y, z]) Q := fun L S0 Θ σ τ S v R nb E hd k => by
  obtain ⟨a, xs, e, h, p⟩ : ∃ a xs, v = .ref a ∧ SqT K S.h a xs ∧ DqAll S.b xs [x, y, z] := by
    cases pr with
    | false =>
      obtain ⟨a, o, xs, e, _, h, p⟩ := dp_tup (show Dq S.b v (.tuple [x, y, z]) from hd)
      exact ⟨a, xs, e, sqt_f (E.sub _ _ h), p⟩
    | true =>
      obtain ⟨a, xs, ds, e, e2, h, p⟩ := hd
      cases e2
      exact ⟨a, xs, e, .of (E.sub _ _ h), p⟩
  cases p with
  | cons p1 p =>
    cases p with
    | cons p2 p =>
      cases p with
      | cons p3 p =>
        cases p
        exact ⟨a, _, e, h, rfl, _, _, rfl, _, _, rfl, _, _, rfl, rfl, k _ _ (((E.setDt (nb i) p1).setDt (nb j) p2).setDt (nb l) p3) q⟩
end Ld
namespace Ld
open PySem PySem.Spec PyProof.Rows L2 Lx
/-- a test at which the walk stops -/
def tStop (t : TT) : TT := t
theorem pt_stop {X : Cx} {a : Expr} {t : TT} (h : PT X a t) : PT X a (tStop t) := h
theorem vt_stop {K : PySem.W.Frag} {Γ : List Cell} {Θ : List Tmp} {t : TT} {Q : List Cell → Bool → Prop} (h : VT K Γ Θ t Q) : VT K Γ Θ (tStop t) Q := h
/-- .. whose outcome is known -/
theorem vt_cut {K : PySem.W.Frag} {Γ : List Cell} {Θ : List Tmp} {t : TT} {Q : List Cell → Bool → Prop} (b : Bool) (h : VT K Γ Θ t fun Γ1 c => c = b ∧ Γ1 = Γ) (q : Q Γ b) : VT K Γ Θ (tStop t) Q := vt_mono h fun Γ1 c ⟨e1, e2⟩ => by rw [e1, e2]; exact q
end Ld
set_option Elab.async false
set_option linter.all false
set_option maxRecDepth 100000
namespace Sh
open PySem PySem.Spec PyProof.Rows L2 Lx Ld
/-! ### several shelves -/
abbrev Ln := List (Bool × Nat)
def sD (p : Bool × Nat) : Dat := .tuple [.str (wd p.1), .int p.2]
end Sh
namespace Sh
end Sh
set_option Elab.async false
set_option linter.all false
set_option maxRecDepth 100000
namespace Sh
open PySem PySem.Spec PyProof.Rows L2 Lx Ld
/-! ### how far each number is moved -/
/-- how many lesser ones that stand behind come out ahead -/
def gone (n : Nat) (N : List Int) (x : Int) : Nat := ((N.drop (N.idxOf x + 1)).filter fun z => decide (z < x) && decide ((pastL true n N).idxOf z < (pastL true n N).idxOf x)).length
end Sh
namespace Sh
open PySem PySem.Spec PyProof.Rows L2 Lx Ld
/-! with stretches and marks -/
/-- a number's place in a row -/
def ixO (r : List (Option Int)) (x : Int) : Nat := r.idxOf (some x)
theorem mem_nums {r : List (Option Int)} {x : Int} : x ∈ nums r ↔ some x ∈ r := by
  unfold nums
  rw [List.mem_filterMap]
  constructor
  · rintro ⟨a, h, e⟩
    have e2 : a = some x := e
    rw [← e2]; exact h
  · exact fun h => ⟨_, h, rfl⟩
end Sh
namespace Ld
open PySem PySem.Spec PyProof.Rows L2 Lx
def tTIdxO (ta te : TE) : TE := tTIdx ta te
end Ld
namespace Sh
open PySem PySem.Spec PyProof.Rows L2 Lx Ld
theorem oL_fl (r : List (Option Int)) : (oL r).all flD = true := by
  rw [List.all_eq_true]
  intro d hd
  obtain ⟨o, _, rfl⟩ := List.mem_map.mp hd
  cases o <;> simp [oD, flD]
theorem ixO_at {r : List (Option Int)} {x : Int} (h : some x ∈ r) : (oL r)[ixO r x]? = some (.int x) := by
  have hi := List.idxOf_lt_length_iff.mpr h
  unfold ixO
  rw [List.getElem?_map, List.getElem?_eq_getElem hi]
  simp [oD]
theorem eqF_o {o : Option Int} {x : Int} : eqF (oD o) (.int x) = decide (o = some x) := by
  cases o with
  | none => simp [oD, eqF]
  | some a =>
    show eqF (.int a) (.int x) = _
    rw [eqF_ii]
    by_cases h : a = x <;> simp [h]
theorem ixO_no {r : List (Option Int)} {x : Int} {m : Nat} {z : Dat} (hm : m < ixO r x) (hz : (oL r)[m]? = some z) : eqF z (.int x) = false := by
  rw [List.getElem?_map] at hz
  obtain ⟨k, hk, rfl⟩ := Option.map_eq_some_iff.mp hz
  rw [eqF_o]
  refine decide_eq_false fun e => ?_
  subst e
  obtain ⟨hl, e2⟩ := List.getElem?_eq_some_iff.mp hk
  have := List.not_of_lt_findIdx (xs := r) (p := (· == some x)) (i := m) hm
  simp [e2] at this
theorem ve_tidxO {K : PySem.W.Frag} {Γ : List Cell} {Θ : List Tmp} {ta te : TE} {Q : List Cell → Tmp → Prop}
    (h : VE K Γ Θ ta fun Γ1 x => ∃ r, x = .dt (.tuple (oL r)) ∧ VE K Γ1 (x :: Θ) te fun Γ2 y => ∃ n, y = .dt (.int n) ∧ some n ∈ r ∧ Q Γ2 (.dt (.int (ixO r n)))) :
    VE K Γ Θ (tTIdxO ta te) Q := ve_tidx (ve_mono h fun Γ1 x ⟨r, hx, h2⟩ => ⟨oL r, hx, ve_mono h2 fun Γ2 y ⟨n, g2, g3, g4⟩ => by
  subst g2
  exact ⟨.int n, ixO r n, .int n, rd_dt, rfl, oL_fl r, ixO_at g3, by rw [eqF_ii]; simp, fun m z hm hz => ixO_no hm hz, g4⟩⟩)
end Sh
namespace Sh
open PySem PySem.Spec PyProof.Rows L2 Lx Ld
end Sh
set_option Elab.async false
set_option linter.all false
set_option maxRecDepth 100000
/-! max(xs, default=d) -/
namespace Lx
open PySem PySem.Spec PyProof.Rows L2 PySem.W
def rMaxD (K : PySem.W.Frag) : List V → List V → Hp → VK → Prop := fun vs zs H Q => ∃ (a : Addr) (ns : List Int) (d : Int), vs = [V.ref a] ∧ zs = [V.int d] ∧ SqL K H a (ns.map V.int) ∧ (ns = [] → Q (.int d) H) ∧ ∀ m, m ∈ ns → (∀ y ∈ ns, y ≤ m) → Q (.int m) H
end Lx
namespace Ld
open PySem PySem.Spec PyProof.Rows L2 Lx
theorem ve_maxD {K : PySem.W.Frag} {Γ : List Cell} {Θ : List Tmp} {d : Int} {ta : TE} {Q : List Cell → Tmp → Prop} (h : VE K Γ Θ ta fun Γ1 x => ∃ ns : List Int, rd Γ1 x (.list (ns.map .int)) ∧ (ns = [] → Q Γ1 (.dt (.int d))) ∧ ∀ m, m ∈ ns → (∀ y ∈ ns, y ≤ m) → Q Γ1 (.dt (.int m))) :
    VE K Γ Θ (tCKw (rMaxD K) (tCons ta tNil) (tCons (tC (.int d)) tNil)) Q := fun L S0 σ τ S Qv E k => h L S0 σ τ S _ E fun Γ1 S1 v x E1 ⟨ns, hx, q0, q⟩ => by
  obtain ⟨a, e, h⟩ := intsL E1 hx
  exact ⟨a, ns, d, by rw [e], rfl, h, fun e => k Γ1 S1 _ _ (E1.pop.push (.int d)) (q0 e), fun m h1 h2 => k Γ1 S1 _ _ (E1.pop.push (.int m)) (q m h1 h2)⟩
end Ld
/-! zip of a list and a tuple -/
set_option maxHeartbeats 2000000
namespace Ld
open PySem PySem.Spec PyProof.Rows L2 Lx
/-- a tuple at a, a list at b, as they stand at each turn; the items in new pairs -/
def ItzLT (K : PySem.W.Frag) (a b : Addr) : It := ⟨fun i H => ∃ (xs ys : List V) (x y : V), SqL K H a xs ∧ SqT K H b ys ∧ xs[i]? = some x ∧ ys[i]? = some y, fun i H v H' => ∃ T x y, v = .ref T ∧ H T = none ∧ H' = upd H T (.tup [x, y]) ∧ (∀ xs, SqL K H a xs → xs[i]? = some x) ∧ ∀ ys, SqT K H b ys → ys[i]? = some y, fun i H => ∃ xs ys : List V, SqL K H a xs ∧ SqT K H b ys ∧ (xs.length ≤ i ∨ ys.length ≤ i)⟩
def iZipLT (K : PySem.W.Frag) (ta : TA) : TI := fun σ H R => ta σ H fun vs H1 => ∃ a b xs ys, vs = [.ref a, .ref b] ∧ SqL K H1 a xs ∧ SqT K H1 b ys ∧ R (ItzLT K a b) H1
section
variable {K : PySem.W.Frag} {Γ : List Cell} {Θ : List Tmp}
theorem vi_zipLT {ta tb : TE} {Q : List Cell → Bool → List Dat → Prop} (h : VD K Γ Θ ta fun Γ1 d => VD K Γ1 (.dt d :: Θ) tb fun Γ2 e => ∃ ds es, d = .list ds ∧ e = .tuple es ∧ Q Γ2 true (zipD ds es)) : VI K Γ Θ (iZipLT K (tCons ta (tCons tb tNil))) Q := fun L S0 σ τ S R E k =>
  h L S0 σ τ S _ E fun Γ1 S1 u d E1 h1 => h1 L S0 σ _ S1 _ E1 fun Γ2 S2 v e E2 ⟨ds, es, ed, ee, q⟩ => by
  subst ed ee
  obtain ⟨b, ob, zs, eb, _, hb, pb⟩ := dp_tup E2.dt
  obtain ⟨a, xs, ea, hx, p⟩ := dp_list E2.pop.dt
  subst ea eb
  refine ⟨a, b, xs, zs, rfl, .of (E2.sub _ _ hx), sqt_f (E2.sub _ _ hb), k Γ2 [.tuple es, .list ds] [.ref b, .ref a] S2 _ true (zipD ds es) E2 rfl ⟨fun S i sub hs hi => ?_, fun S sub hs => ?_, fun S i x H' sub hs hi y => ?_⟩ q⟩
  · obtain ⟨ws, hw', pw⟩ := src_t (K := K) sub (dqa_two hs).1
    obtain ⟨ys, hy', py⟩ := src_l (K := K) sub (dqa_two hs).2
    rw [zipD_len] at hi
    have i1 : i < ds.length := by omega
    have i2 : i < es.length := by omega
    obtain ⟨z, hz, _⟩ := py.get (List.getElem?_eq_getElem i1)
    obtain ⟨z', hz', _⟩ := pw.get (List.getElem?_eq_getElem i2)
    exact ⟨ys, ws, z, z', hy', hw', hz, hz'⟩
  · obtain ⟨ws, hw', pw⟩ := src_t (K := K) sub (dqa_two hs).1
    obtain ⟨ys, hy', py⟩ := src_l (K := K) sub (dqa_two hs).2
    refine ⟨ys, ws, hy', hw', ?_⟩
    rw [zipD_len, py.len, pw.len]
    omega
  · obtain ⟨ws, hw', pw⟩ := src_t (K := K) sub (dqa_two hs).1
    obtain ⟨ys, hy', py⟩ := src_l (K := K) sub (dqa_two hs).2
    obtain ⟨T, z, z', rfl, hT, rfl, y1, y2⟩ := y
    obtain ⟨d, hd, gd⟩ := py.getV (y1 ys hy')
    obtain ⟨e, he, ge⟩ := pw.getV (y2 ws hw')
    obtain ⟨S', e1, g1, s1, q1⟩ := gr_pair sub hT gd ge
    exact ⟨S', _, e1, g1, s1, zipD_at hd he, q1⟩
end
end Ld
namespace Lx
open PySem PySem.Spec PyProof.Rows L2 PySem.W
end Lx
namespace Ld
open PySem PySem.Spec PyProof.Rows L2 Lx
def tTruT (K : PySem.W.Frag) (ta : TE) : TT := tTru K ta
section
variable {K : PySem.W.Frag} {Γ : List Cell} {Θ : List Tmp}
theorem vt_truTp {te : TE} {Q : List Cell → Bool → Prop} (h : VE K Γ Θ te fun Γ1 x => ∃ ds, x = .dt (.tuple ds) ∧ Q Γ1 (!ds.isEmpty)) : VT K Γ Θ (tTruT K te) Q := vt_truT h
theorem eqv_bb (a b : Bool) : PyData.eqv (.bool a) (.bool b) = decide (a = b) := by
  cases a <;> cases b <;> simp [PyData.eqv]
theorem r2_eqB {a b : Bool} {Q : List Cell → Tmp → Prop} (q : Q Γ (.dt (.bool (decide (a = b))))) : R2V K (rEqD K) Γ Θ (.dt (.bool a)) (.dt (.bool b)) Q := r2_eqD rd_dt rd_dt rfl rfl (by rw [eqv_bb]; exact q)
theorem r2_neB {a b : Bool} {Q : List Cell → Tmp → Prop} (q : Q Γ (.dt (.bool (!decide (a = b))))) : R2V K (rNeD K) Γ Θ (.dt (.bool a)) (.dt (.bool b)) Q := r2_neD rd_dt rd_dt rfl rfl (by rw [eqv_bb]; exact q)
theorem eqv_nil (ds : List Dat) : PyData.eqv (.list ds) (.list []) = ds.isEmpty := by
  simp only [PyData.eqv]
  cases ds <;> simp [PyData.eqvAll]
theorem r2_neNil {n : Nat} {x y : Tmp} {ds : List Dat} {Q : List Cell → Tmp → Prop} (hx : rd Γ x (.list ds)) (hy : rd Γ y (.list [])) (hs : ∀ d ∈ ds, Sh.Shp n d) (hn : n + 1 ≤ 64) (q : Q Γ (.dt (.bool (!ds.isEmpty)))) : R2V K (rNeD K) Γ Θ x y Q := r2_neD hx hy (Sh.shp_ok (Sh.shp_list hs) hn) (by rfl) (by rw [eqv_nil]; exact q)
end
end Ld
set_option Elab.async false
set_option linter.all false
set_option maxRecDepth 100000
namespace Sh
open PySem PySem.Spec PyProof.Rows L2 Lx Ld
/-! ### places needed -/
def nd (N : List Int) (k : Nat) : Nat := ((N.take (k + 1)).filter fun y => (N.drop (k + 1)).any fun z => decide (z < y)).length
theorem gc_take {N : List Int} {i : Nat} {x : Int} (hN : N.Nodup) (h : N[i]? = some x) : gc N x = cntG (N.take i) x := by
  unfold gc
  rw [← take_idx, idx_nd hN h]
end Sh
namespace Sh
end Sh
namespace Sh
open PySem PySem.Spec PyProof.Rows L2 Lx Ld
end Sh
set_option Elab.async false
set_option linter.all false
set_option maxRecDepth 100000
/-! defs with a default; x *= e -/
namespace Ld
open PySem PySem.Spec PyProof.Rows L2 Lx
section
variable {P : Program} {w : World} {K : PySem.W.Frag} {mg : Str → Option Value} {base : Heap}
/-- a def whose last parameter has the default d -/
structure DfD (K : PySem.W.Frag) (mg : Str → Option Value) (x : Str) (st : Stmt) (ps : List Str) (d : Int) (f : Addr) (fd : FuncData) : Prop where
  F : FunD K x x (defArgs st) (defBody st) (defScope st) [.int d] [] f fd
  g : mg x = some (.ref f)
  b0 : ∃ ds, Vals [] ds ∧ Binds K fd ps ds
  b1 : ∃ ds, Vals [V.int d] ds ∧ Binds K fd ps ds
structure CalD (P : Program) (w : World) (K : PySem.W.Frag) (mg : Str → Option Value) (base : Heap) (k : Nat) (x : Str) (ps : List Str) (sp : Sp) (d : Int) (f : Addr) (fd : FuncData) : Prop where
  G : FnOk P w K mg base CX0 k f fd ps sp
  g : mg x = some (.ref f)
  kp : PySem.W.keepIn K (.ref f) = true
  b0 : ∃ ds, Vals [] ds ∧ Binds K fd ps ds
  b1 : ∃ ds, Vals [V.int d] ds ∧ Binds K fd ps ds
theorem DfD.cal {k : Nat} {x : Str} {st : Stmt} {ps : List Str} {sp : Sp} {d : Int} {f : Addr} {fd : FuncData} (D : DfD K mg x st ps d f fd) (G : FnOk P w K mg base CX0 k f fd ps sp) : CalD P w K mg base k x ps sp d f fd := ⟨G, D.g, D.F.kp, D.b0, D.b1⟩
theorem DfD.of {x : Str} {st : Stmt} {ps : List Str} {d : Int} {f : Addr} {fd : FuncData} (n : Nat) (F : FunD K x x (defArgs st) (defBody st) (defScope st) [.int d] [] f fd) (g : mg x = some (.ref f)) (hn : n + 1 = ps.length)
    (h0 : ∀ (T : Addr) (kV doc pm : Value) (an : Option Addr) (cdv ct : Value) (us its : List Value), us.length = n + 1 → its.length = 1 →
      ∃ k, bindArgs (PySem.W.fnOf x x (defArgs st) (defBody st) (defScope st) (.ref T) kV doc pm an cdv ct) ⟨us, []⟩ = seqItems? (.ref T) >>= k ∧ k (some its.toArray) = pure (ps.zip (us ++ its.drop 1)))
    (h1 : ∀ (T : Addr) (kV doc pm : Value) (an : Option Addr) (cdv ct : Value) (us its : List Value), us.length = n → its.length = 1 →
      ∃ k, bindArgs (PySem.W.fnOf x x (defArgs st) (defBody st) (defScope st) (.ref T) kV doc pm an cdv ct) ⟨us, []⟩ = seqItems? (.ref T) >>= k ∧ k (some its.toArray) = pure (ps.zip (us ++ its.drop 0))) : DfD K mg x st ps d f fd :=
  ⟨F, g, F.binds1 (n + 1) 1 (by simp) (by simp; omega) h0, F.binds1 n 0 (by simp) (by simp; omega) h1⟩
end
section
variable {K : PySem.W.Frag} {Γ : List Cell} {Θ : List Tmp}
theorem argsOk_app {B : Hp} : ∀ {vs us : List V} {as bs : List Arg}, ArgsOk K B vs as → ArgsOk K B us bs → ArgsOk K B (vs ++ us) (as ++ bs)
  | _, _, _, _, .nil, h => h
  | _, _, _, _, .cons h t, h2 => .cons h (argsOk_app t h2)
theorem ve_callFd {α : Type} {d : Int} {A : α → List Arg} {pre : α → Prop} {g : α → Dat} {X : XK} {t : TA} {Q : List Cell → Tmp → Prop} (h : VAX K Γ Θ t fun Γ1 as => ∃ x, as ++ [.dt (.int d)] = A x ∧ pre x ∧ Q Γ1 (.dt (g x))) : VE K Γ Θ (tCall (spF K A pre g) [V.int d] X t) Q := fun L S0 σ τ S Qv E k => h L S0 σ τ S _ E fun Γ1 S1 vs as E1 p ⟨x, ex, hp, q⟩ => by
  refine ⟨S1.b, x, E1.sub, ?_, hp, fun v S' d g s hd hq => k Γ1 S' v _ ((E1.grow g s).push hd) (by rw [hq]; exact q)⟩
  rw [← ex]
  exact argsOk_app p (.cons (.int d) .nil)
theorem ss_augI {i : Nat} {te : TE} {C : Int → Int → Prop} {f : Int → Int → Int} {R : DE} (h0 : ∃ m : Int, Γ[i]? = some (.dt (.int m))) (h : ∀ ss, VE K Γ (srcT ss) te fun Γ1 y => ∃ m n : Int, Γ1[i]? = some (.dt (.int m)) ∧ y = .dt (.int n) ∧ C m n ∧ R.nx (Γ1.set i (.dt (.int (f m n))))) :
    VSs K Γ (tAug i te (rI C fun i j => .int (f i j))) R := fun ss L S0 σ τ S D E kn kr kb kc => by
  obtain ⟨m0, h0⟩ := h0
  obtain ⟨w, g1, g2⟩ := id E.ok
  obtain ⟨v, ev, qv⟩ := g1 i _ h0
  refine ⟨v, ev, h ss L S0 σ τ S _ E fun Γ1 S1 vy y E1 ⟨m, n, hi, ey, hc, q⟩ => ?_⟩
  subst ey
  obtain ⟨w', g1', g2'⟩ := id E1.ok
  obtain ⟨v', ev', qv'⟩ := g1' i _ hi
  rw [ev] at ev'
  cases ev'
  have e1 : v = .int m := dp_int qv'
  have e2 : vy = .int n := dp_int E1.dt
  refine ⟨m, n, e1, e2, hc, ?_⟩
  exact kn _ _ S1 (E1.pop.setDt nb_src (.int _)) q
end
end Ld
namespace Ld
open PySem PySem.Spec PyProof.Rows L2 Lx
/-- a statement at which the walk stops -/
def tStopS (t : TS) : TS := t
theorem ps_stop {X : Cx} {a : Stmt} {t : TS} (h : PS X a t) : PS X a (tStopS t) := h
section
variable {K : PySem.W.Frag} {Γ : List Cell} {t : TS} {R : DE}
theorem ss_go (h : VSs K Γ t R) : VSs K Γ (tStopS t) R := h
theorem ss_mono {R' : DE} (h : VSs K Γ t R') (f1 : ∀ Γ', R'.nx Γ' → R.nx Γ') (f2 : ∀ Γ' d, R'.rt Γ' d → R.rt Γ' d) (f3 : ∀ Γ', R'.bk Γ' → R.bk Γ') (f4 : ∀ Γ', R'.ct Γ' → R.ct Γ') : VSs K Γ t R := fun ss L S0 σ τ S D E kn kr kb kc =>
  h ss L S0 σ τ S D E (fun Γ' σ' S' E' q => kn Γ' σ' S' E' (f1 _ q)) (fun Γ' σ' S' v d E' hd q => kr Γ' σ' S' v d E' hd (f2 _ _ q)) (fun Γ' σ' S' E' q => kb Γ' σ' S' E' (f3 _ q)) (fun Γ' σ' S' E' q => kc Γ' σ' S' E' (f4 _ q))
/-- .. behind which all is as it was -/
theorem ss_same (h : VSs K Γ t ⟨fun Γ' => Γ' = Γ, fun _ _ => False, fun _ => False, fun _ => False⟩) (q : R.nx Γ) : VSs K Γ (tStopS t) R := ss_mono h (fun Γ' e => by rw [e]; exact q) (fun _ _ z => z.elim) (fun _ z => z.elim) (fun _ z => z.elim)
theorem ss_frz {i : Nat} {ds : List Dat} (hi : Γ[i]? = some (.ow ds)) (h : VSs K (Γ.set i (.dt (.list ds))) t R) : VSs K Γ t R := fun ss L S0 σ τ S D E kn kr kb kc => by
  obtain ⟨S', e, E'⟩ := E.frzSlot hi
  rw [← e]
  exact h ss L S0 σ τ S' D E' kn kr kb kc
end
end Ld
set_option Elab.async false
set_option linter.all false
set_option maxRecDepth 100000
namespace Sh
open PySem PySem.Spec PyProof.Rows L2 Lx Ld
/-! ### how few places sort a row; how many rows are sorted -/
def sby : Nat → Nat → Nat
  | 0, _ => 1
  | n + 1, b => sby n b * (min n b + 1)
end Sh
namespace Sh
end Sh
set_option Elab.async false
set_option linter.all false
set_option maxRecDepth 100000
set_option maxHeartbeats 4000000
/-! dict(zip(t, l)): t a tuple, l a list -/
namespace Lx
open PySem PySem.Spec PyProof.Rows
open PySem.Sem (wp)
end Lx
namespace Lx
open PySem PySem.Spec PyProof.Rows L2
open PySem.Sem (wp)
def tDZip (K : PySem.W.Frag) (ta : TA) : TE := fun σ H Q => ta σ H fun vs H1 => ∃ (a b : Addr) (ns ms : List Int), vs = [.ref a, .ref b] ∧ SqT K H1 a (ns.map V.int) ∧ SqL K H1 b (ms.map V.int) ∧ ms.length = ns.length ∧ ns.Nodup ∧ ns.length ≤ 4000 ∧ ∀ p, H1 p = none → Q (.ref p) (upd H1 p (Ld.dI (ns.zip ms)))
end Lx
namespace Lx
open PySem PySem.Spec PyProof.Rows L2
open PySem.Sem (wp)
end Lx
namespace Ld
open PySem PySem.Spec PyProof.Rows L2 Lx
theorem ve_dictZip {K : PySem.W.Frag} {Γ : List Cell} {Θ : List Tmp} {ta tb : TE} {Q : List Cell → Tmp → Prop} (h : VE K Γ Θ ta fun Γ1 x => VE K Γ1 (x :: Θ) tb fun Γ2 y => ∃ ns ms : List Int, x = .dt (.tuple (ns.map .int)) ∧ rd Γ2 y (.list (ms.map .int)) ∧ ms.length = ns.length ∧ ns.Nodup ∧ ns.length ≤ 4000 ∧ Q Γ2 (.ob (dI (ns.zip ms)))) :
    VE K Γ Θ (tDZip K (tCons ta (tCons tb tNil))) Q := fun L S0 σ τ S Qv E k => h L S0 σ τ S _ E fun Γ1 S1 vx x E1 h1 => h1 L S0 σ _ S1 _ E1 fun Γ2 S2 vy y E2 ⟨ns, ms, ex, hy, hl, hn, hz, q⟩ => by
  subst ex
  obtain ⟨b, eb, hb⟩ := intsL E2 hy
  obtain ⟨a, o, xs, ea, _, hx, p⟩ := dp_tup E2.pop.dt
  rw [dpa_ints p] at hx
  exact ⟨a, b, ns, ms, by rw [ea, eb], sqt_f (E2.sub _ _ hx), hb, hl, hn, hz, fun p hp => k Γ2 _ _ _ (E2.pop.pop.newOb hp) q⟩
end Ld
set_option Elab.async false
set_option linter.all false
set_option maxRecDepth 100000
namespace Sh
open PySem PySem.Spec PyProof.Rows L2 Lx Ld
/-! ### lettings: none is "on", some n is n let off -/
structure LSt where
  i : Nat
  S : List Int
  O : List Int
def stepF (N : List Int) (b : Nat) (st : LSt) : Option Int → Option LSt
  | none => if st.S.length ≤ b then (N[st.i]?).map fun x => ⟨st.i + 1, st.S ++ [x], st.O⟩ else none
  | some n => if n ∈ st.S then some ⟨st.i, st.S.erase n, st.O ++ [n]⟩ else none
def runF (N : List Int) (b : Nat) (W : List (Option Int)) : Option LSt := W.foldl (fun acc s => acc.bind fun st => stepF N b st s) (some ⟨0, [], []⟩)
theorem runF_snoc (N : List Int) (b : Nat) (W : List (Option Int)) (s : Option Int) : runF N b (W ++ [s]) = (runF N b W).bind fun st => stepF N b st s := by unfold runF; rw [List.foldl_append]; rfl
theorem runF_pre {N : List Int} {b : Nat} {W : List (Option Int)} {s : Option Int} {st : LSt} (h : runF N b (W ++ [s]) = some st) : ∃ st0, runF N b W = some st0 ∧ stepF N b st0 s = some st := by
  rw [runF_snoc] at h
  cases e : runF N b W with
  | none => rw [e] at h; cases h
  | some st0 => rw [e] at h; exact ⟨st0, rfl, h⟩
structure LOk (N : List Int) (b : Nat) (W : List (Option Int)) (st : LSt) : Prop where
  le : st.i ≤ N.length
  perm : (st.S ++ st.O).Perm (N.take st.i)
  out : st.O = W.filterMap id
  len : W.length = st.i + st.O.length
  few : st.S.length ≤ b + 1
  gain : ∀ j x, j < st.i → N[j]? = some x → ∃ O1 O2, st.O = O1 ++ O2 ∧ x ∉ O1 ∧ cntG (N.take j) x ≤ b + cntG O1 x
theorem lok {N : List Int} {b : Nat} (hN : N.Nodup) : ∀ (W : List (Option Int)) {st : LSt}, runF N b W = some st → LOk N b W st := fun W => by
  have h : ∀ (n : Nat) (W : List (Option Int)) {st : LSt}, W.length = n → runF N b W = some st → LOk N b W st := by
    intro n
    induction n with
    | zero =>
      intro W st hl h
      rw [List.length_eq_zero_iff.mp hl] at h ⊢
      cases h
      exact ⟨Nat.zero_le _, .refl _, rfl, rfl, Nat.zero_le _, fun j x h => by cases h⟩
    | succ n ih =>
      intro W st hl h
      obtain ⟨W', s, rfl⟩ : ∃ W' s, W = W' ++ [s] := ⟨W.dropLast, W.getLast (List.ne_nil_of_length_pos (by omega)), (List.dropLast_concat_getLast _).symm⟩
      simp only [List.length_append, List.length_singleton] at hl
      obtain ⟨st0, e0, hs⟩ := runF_pre h
      have ok := ih W' (by omega) e0
      cases s with
      | none =>
        unfold stepF at hs
        by_cases hb : st0.S.length ≤ b
        · simp only [if_pos hb] at hs
          obtain ⟨x, hx, rfl⟩ := Option.map_eq_some_iff.mp hs
          have hi := (List.getElem?_eq_some_iff.mp hx).1
          refine ⟨by show st0.i + 1 ≤ _; omega, ?_, ?_, ?_, ?_, fun j y hj hy => ?_⟩
          · show (st0.S ++ [x] ++ st0.O).Perm (N.take (st0.i + 1))
            rw [take_snoc hx]
            have := (ok.perm.append_right [x])
            refine List.Perm.trans ?_ this
            rw [List.append_assoc, List.append_assoc]
            exact List.Perm.append_left _ List.perm_append_comm
          · show st0.O = _
            rw [List.filterMap_append, ok.out]
            simp
          · show (W' ++ [none]).length = st0.i + 1 + st0.O.length
            rw [List.length_append, ok.len]
            simp only [List.length_singleton]
            omega
          · show (st0.S ++ [x]).length ≤ b + 1
            simp
            omega
          · by_cases hj2 : j < st0.i
            · exact ok.gain j y hj2 hy
            · have : j = st0.i := by have : j < st0.i + 1 := hj; omega
              subst this
              rw [hx] at hy
              cases hy
              refine ⟨st0.O, [], by rw [List.append_nil], fun z => ?_, ?_⟩
              · exact nd_take hN hx (ok.perm.mem_iff.mp (List.mem_append_right _ z))
              · rw [← cntG_perm ok.perm, cntG_app]
                have : cntG st0.S x ≤ st0.S.length := List.length_filter_le _ _
                omega
        · simp only [if_neg hb] at hs
          cases hs
      | some m =>
        unfold stepF at hs
        by_cases hm : m ∈ st0.S
        · simp only [if_pos hm] at hs
          cases hs
          refine ⟨ok.le, ?_, ?_, ?_, ?_, fun j y hj hy => ?_⟩
          · show (st0.S.erase m ++ (st0.O ++ [m])).Perm (N.take st0.i)
            refine List.Perm.trans ?_ ok.perm
            rw [← List.append_assoc]
            refine (List.perm_append_comm (l₁ := st0.S.erase m ++ st0.O) (l₂ := [m])).trans ?_
            show (m :: (st0.S.erase m ++ st0.O)).Perm _
            exact ((List.perm_cons_erase hm).symm.append_right st0.O)
          · show st0.O ++ [m] = _
            rw [List.filterMap_append, ok.out]
            simp
          · show (W' ++ [some m]).length = st0.i + (st0.O ++ [m]).length
            rw [List.length_append, List.length_append, ok.len]
            simp only [List.length_singleton]
            omega
          · show (st0.S.erase m).length ≤ b + 1
            rw [List.length_erase_of_mem hm]
            have := ok.few
            omega
          · obtain ⟨O1, O2, e, hn, hc⟩ := ok.gain j y hj hy
            exact ⟨O1, O2 ++ [m], by show st0.O ++ [m] = _; rw [e, List.append_assoc], hn, hc⟩
        · simp only [if_neg hm] at hs
          cases hs
  exact fun {st} h' => h _ W rfl h'
/-- a whole letting -/
structure Whole (N : List Int) (b : Nat) (W : List (Option Int)) (O : List Int) : Prop where
  run : runF N b W = some ⟨N.length, [], O⟩
theorem Whole.perm {N O : List Int} {b : Nat} {W : List (Option Int)} (hN : N.Nodup) (h : Whole N b W O) : O.Perm N := by
  have := (lok hN W h.run).perm
  rwa [List.nil_append, List.take_length] at this
theorem Whole.len {N O : List Int} {b : Nat} {W : List (Option Int)} (hN : N.Nodup) (h : Whole N b W O) : W.length = 2 * N.length := by
  have h1 := (lok hN W h.run).len
  have h2 := (h.perm hN).length_eq
  dsimp only at h1
  omega
theorem Whole.out {N O : List Int} {b : Nat} {W : List (Option Int)} (hN : N.Nodup) (h : Whole N b W O) : O = W.filterMap id := (lok hN W h.run).out
theorem Whole.gain {N O : List Int} {b : Nat} {W : List (Option Int)} (hN : N.Nodup) (h : Whole N b W O) {x : Int} (hx : x ∈ N) : gc N x ≤ b + gc O x := by
  obtain ⟨j, hj⟩ := List.getElem?_of_mem hx
  obtain ⟨O1, O2, e, hn, hc⟩ := (lok hN W h.run).gain j x (List.getElem?_eq_some_iff.mp hj).1 hj
  dsimp only at e
  rw [gc_take hN hj, e, gc_out hn]
  omega
end Sh
namespace Sh
open PySem PySem.Spec PyProof.Rows L2 Lx Ld
/-! the shelf's own way -/
end Sh
namespace Ld
open PySem PySem.Spec PyProof.Rows L2 Lx
section
variable {K : PySem.W.Frag} {Γ : List Cell} {Θ : List Tmp}
/-- xs.pop(0) -/
theorem ve_pop0 {i : Nat} {te : TE} {Q : List Cell → Tmp → Prop} (h0 : ∃ ds, IsLs Γ i ds) (h : VE K Γ Θ te fun Γ1 y => ∃ (d : Dat) (ds : List Dat), y = .dt (.int 0) ∧ IsLs Γ1 i (d :: ds) ∧ ds.length < sizeLine ∧ Q (putC Γ1 i ds) (.dt d)) : VE K Γ Θ (tBM K "list" rPopAt (tVar i) (tCons te tNil)) Q := fun L S0 σ τ S Qv E k => by
  obtain ⟨ds0, c0, hc0, hl0⟩ := h0
  obtain ⟨a, ea, nb, us, hu, pu⟩ := E.own hc0 hl0
  refine ⟨_, ea, .inl ⟨rfl, us, .of hu⟩, h L S0 σ τ S _ E fun Γ1 S1 v y E1 ⟨d, ds, ey, ⟨c, hc, hl⟩, hz, q⟩ => ?_⟩
  subst ey
  obtain ⟨a', vs, ea', hv, pv, put⟩ := E1.pop.mutSlot hc hl
  rw [ea] at ea'
  cases ea'
  cases pv with
  | cons p1 p2 =>
    rename_i v0 vs0
    refine ⟨a, v0 :: vs0, 0, 0, v0, rfl, by rw [dp_int E1.dt], hv, by decide, by decide, ?_, rfl, ?_⟩
    · simp [seqIndex?]
    · have E2 := put vs0 ds p2
      rw [putC_eq hc] at q
      exact k _ _ _ _ (E2.push p1) q
theorem ss_augI0 {i : Nat} {te : TE} {f : Int → Int → Int} {R : DE} (h0 : ∃ m : Int, Γ[i]? = some (.dt (.int m))) (h : ∀ ss, VE K Γ (srcT ss) te fun Γ1 y => ∃ m n : Int, Γ1[i]? = some (.dt (.int m)) ∧ y = .dt (.int n) ∧ R.nx (Γ1.set i (.dt (.int (f m n))))) :
    VSs K Γ (tAug i te (rI0 fun i j => .int (f i j))) R := fun ss L S0 σ τ S D E kn kr kb kc => by
  obtain ⟨m0, h0⟩ := h0
  obtain ⟨w, g1, g2⟩ := id E.ok
  obtain ⟨v, ev, qv⟩ := g1 i _ h0
  refine ⟨v, ev, h ss L S0 σ τ S _ E fun Γ1 S1 vy y E1 ⟨m, n, hi, ey, q⟩ => ?_⟩
  subst ey
  obtain ⟨w', g1', g2'⟩ := id E1.ok
  obtain ⟨v', ev', qv'⟩ := g1' i _ hi
  rw [ev] at ev'
  cases ev'
  have e1 : v = .int m := dp_int qv'
  have e2 : vy = .int n := dp_int E1.dt
  exact ⟨m, n, e1, e2, kn _ _ S1 (E1.pop.setDt nb_src (.int _)) q⟩
end
end Ld
namespace Sh
open PySem PySem.Spec PyProof.Rows L2 Lx Ld
end Sh
namespace Sh
open PySem PySem.Spec PyProof.Rows L2 Lx Ld
end Sh
namespace Ld
theorem sto_ob {Γ : List Cell} {i : Nat} {p : L2.HO} {Q : List Cell → Prop} (q : Q (Γ.set i (.ob p))) : Sto Γ i Q (.ob p) := q
end Ld
namespace Ld
open PySem PySem.Spec PyProof.Rows L2 Lx
theorem st1_nbr {Γ : List Cell} {i : Nat} {c : Tmp} {Γ' : List Cell} (h : St1 Γ i c = some Γ') : ∀ k, c ≠ .br k := fun k z => by subst z; cases h
/-- a, b, c, d = e, f, g, h -/
theorem ss_asg4 {K : PySem.W.Frag} {Γ : List Cell} {i j k l : Nat} {ta tb tc td : TE} {R : DE} (hd : i ≠ j ∧ i ≠ k ∧ i ≠ l ∧ j ≠ k ∧ j ≠ l ∧ k ≠ l) (h : ∀ ss, VE K Γ (srcT ss) ta fun Γ1 x => VE K Γ1 (x :: srcT ss) tb fun Γ2 y => VE K Γ2 (y :: x :: srcT ss) tc fun Γ3 z => VE K Γ3 (z :: y :: x :: srcT ss) td fun Γ4 u =>
      ∃ Γ5 Γ6 Γ7 Γ8, St1 Γ4 l u = some Γ5 ∧ St1 Γ5 k z = some Γ6 ∧ St1 Γ6 j y = some Γ7 ∧ St1 Γ7 i x = some Γ8 ∧ R.nx Γ8) :
    VSs K Γ (tAsg (tTupF (tCons ta (tCons tb (tCons tc (tCons td tNil))))) (gTup K 4 (gCons (gName i) (gCons (gName j) (gCons (gName k) (gCons (gName l) gNil)))))) R := fun ss L S0 σ τ S D E kn kr kb kc =>
  h ss L S0 σ τ S _ E fun Γ1 S1 u x E1 h1 => h1 L S0 σ _ S1 _ E1 fun Γ2 S2 v y E2 h2 => h2 L S0 σ _ S2 _ E2 fun Γ3 S3 w z E3 h3 => h3 L S0 σ _ S3 _ E3 fun Γ4 S4 r t E4 ⟨Γ5, Γ6, Γ7, Γ8, e5, e6, e7, e8, q⟩ => by
    refine ⟨by show 4 ≤ sizeLine; decide +kernel, fun p o hd0 hp => ?_⟩
    have E5 := E4.grow (gr_new (o := .frz o (.tup [u, v, w, r])) hp E4.sub) (sub_new hp E4.sub)
    have nx := st1_nbr e8
    have ny := st1_nbr e7
    have nz := st1_nbr e6
    have E6 := E5.st1 (fun t ht => by
      rcases List.mem_cons.mp ht with rfl | ht
      · exact nz l
      rcases List.mem_cons.mp ht with rfl | ht
      · exact ny l
      rcases List.mem_cons.mp ht with rfl | ht
      · exact nx l
      · exact nb_src t ht) e5
    have E7 := E6.st1 (fun t ht => by
      rcases List.mem_cons.mp ht with rfl | ht
      · exact ny k
      rcases List.mem_cons.mp ht with rfl | ht
      · exact nx k
      · exact nb_src t ht) e6
    have E8 := E7.st1 (fun t ht => by
      rcases List.mem_cons.mp ht with rfl | ht
      · exact nx j
      · exact nb_src t ht) e7
    have E9 := E8.st1 nb_src e8
    obtain ⟨d1, d2, d3, d4, d5, d6⟩ := hd
    have es : ((((σ.set l (some r)).set k (some w)).set j (some v)).set i (some u)) = ((((σ.set i (some u)).set j (some v)).set k (some w)).set l (some r)) := by
      rw [List.set_comm _ _ d1.symm, List.set_comm _ _ d2.symm, List.set_comm _ _ d3.symm, List.set_comm _ _ d4.symm, List.set_comm _ _ d5.symm, List.set_comm _ _ d6.symm]
    rw [es] at E9
    exact ⟨p, _, rfl, sqt_f upd_same, rfl, _, _, rfl, _, _, rfl, _, _, rfl, _, _, rfl, rfl, kn _ _ _ E9 q⟩
end Ld
namespace Ld
open PySem PySem.Spec PyProof.Rows L2 Lx
end Ld
namespace Sh
open PySem PySem.Spec PyProof.Rows L2 Lx Ld
end Sh
namespace Ld
open PySem PySem.Spec PyProof.Rows L2 Lx
end Ld
set_option Elab.async false
set_option linter.all false
set_option maxRecDepth 100000
namespace Ld
open PySem PySem.Spec PyProof.Rows L2 Lx
section
variable {K : PySem.W.Frag} {Γ : List Cell} {Θ : List Tmp}
theorem argsOk_dts {B : Hp} : ∀ {vs : List V} {ds : List Dat}, DqAll B vs ds → ArgsOk K B vs (ds.map Arg.dt)
  | _, _, .nil => .nil
  | _, _, .cons h t => .cons h (argsOk_dts t)
theorem argsOk_apd {B : Hp} : ∀ {vs ws : List V} {as bs : List Arg}, ArgsOk K B vs as → ArgsOk K B ws bs → ArgsOk K B (vs ++ ws) (as ++ bs)
  | _, _, _, _, .nil, h => h
  | _, _, _, _, .cons h t, g => .cons h (argsOk_apd t g)
theorem Env.pushD {L : Addr → Prop} {S0 S : Hs} {σ : L2.St} {τ : List V} : ∀ {xs : List V} {ds : List Dat}, DqAll S.b xs ds → Env K L S0 Γ Θ σ τ S → Env K L S0 Γ (ds.map Tmp.dt ++ Θ) σ (xs ++ τ) S
  | _, _, .nil, E => E
  | _, _, .cons h t, E => (Env.pushD t E).push h
theorem Env.popD {L : Addr → Prop} {S0 S : Hs} {σ : L2.St} {τ : List V} : ∀ {xs : List V} {ds : List Dat}, xs.length = ds.length → Env K L S0 Γ (ds.map Tmp.dt ++ Θ) σ (xs ++ τ) S → DqAll S.b xs ds ∧ Env K L S0 Γ Θ σ τ S
  | [], [], _, E => ⟨.nil, E⟩
  | _ :: xs, _ :: ds, h, E => by
    have E' : Env K L S0 Γ (.dt _ :: (ds.map Tmp.dt ++ Θ)) σ (_ :: (xs ++ τ)) S := E
    obtain ⟨p, E2⟩ := Env.popD (xs := xs) (ds := ds) (by simpa using h) E'.pop
    exact ⟨.cons E'.dt p, E2⟩
  | [], _ :: _, h, _ => nomatch h
  | _ :: _, [], h, _ => nomatch h
/-- *e ahead of further items -/
theorem vax_star {te : TE} {t : TA} {Q : List Cell → List Arg → Prop} (h : VE K Γ Θ te fun Γ1 x => ∃ ds, x = .dt (.list ds) ∧ VAX K Γ1 (ds.map Tmp.dt ++ Θ) t fun Γ2 as => Q Γ2 (ds.map Arg.dt ++ as)) : VAX K Γ Θ (StX.tStar K te t) Q := fun L S0 σ τ S Qv E k =>
  h L S0 σ τ S _ E fun Γ1 S1 v x E1 ⟨ds, ex, h1⟩ => by
    subst ex
    obtain ⟨a, xs, ea, hx, p⟩ := dp_list E1.dt
    subst ea
    refine ⟨a, xs, rfl, .inr (E1.sub.seq (.inl (.of hx))), h1 L S0 σ _ S1 _ (E1.pop.pushD p) fun Γ2 S2 vs as E2 p2 q => ?_⟩
    obtain ⟨pd, E3⟩ := E2.popD p.len
    exact k Γ2 S2 _ _ E3 (argsOk_apd (argsOk_dts pd) p2) q
end
section
variable {K : PySem.W.Frag} {Γ : List Cell} {Θ : List Tmp}
theorem dqa_rg {B : Hp} (a : Int) : ∀ (l : List Nat), DqAll B (l.map fun i => V.int (a + (i : Nat))) (l.map fun i => PyData.int (a + (i : Nat)))
  | [] => .nil
  | _ :: l => .cons (.int _) (dqa_rg a l)
/-- list(range(n)) -/
theorem ve_lstRg1 {te : TE} {Q : List Cell → Tmp → Prop} (h : VE K Γ Θ te fun Γ1 x => ∃ n : Nat, x = .dt (.int n) ∧ n ≤ 16777216 ∧ Q Γ1 (.fr ((List.range n).map fun i => .int (i : Nat)))) : VE K Γ Θ (tLstRg (tRg1 te)) Q := fun L S0 σ τ S Qv E k =>
  h L S0 σ τ S _ E fun Γ1 S1 v x E1 ⟨n, ex, hn, q⟩ => by
    subst ex
    refine ⟨(n : Int), dp_int E1.dt, RgOk.of_le (by omega) (by omega) (by omega) (by omega), fun q0 hq => ?_⟩
    have e : (List.range n).map (fun i : Nat => PyData.int (i : Nat)) = (List.range ((n : Int) - 0).toNat).map fun i : Nat => PyData.int (0 + (i : Nat)) := by
      rw [show ((n : Int) - 0).toNat = n by omega]
      exact List.map_congr_left fun i _ => by rw [Int.zero_add]
    rw [e] at q
    exact k Γ1 _ _ _ (E1.pop.newLst hq (dqa_rg 0 _)) q
/-- list(range(a, b)) -/
theorem ve_lstRg2 {ta tb : TE} {Q : List Cell → Tmp → Prop} (h : VE K Γ Θ ta fun Γ1 x => VE K Γ1 (x :: Θ) tb fun Γ2 y => ∃ a b : Nat, x = .dt (.int a) ∧ y = .dt (.int b) ∧ a ≤ 16777216 ∧ b ≤ 16777216 ∧ Q Γ2 (.fr ((List.range (b - a)).map fun i => .int ((a + i : Nat))))) : VE K Γ Θ (tLstRg (tRg2 ta tb)) Q := fun L S0 σ τ S Qv E k =>
  h L S0 σ τ S _ E fun Γ1 S1 v x E1 h1 => h1 L S0 σ _ S1 _ E1 fun Γ2 S2 u y E2 ⟨a, b, ex, ey, ha, hb, q⟩ => by
    subst ex ey
    refine ⟨(a : Int), (b : Int), dp_int E2.pop.dt, dp_int E2.dt, RgOk.of_le (by omega) (by omega) (by omega) (by omega), fun q0 hq => ?_⟩
    have e : (List.range (b - a)).map (fun i : Nat => PyData.int ((a + i : Nat))) = (List.range ((b : Int) - (a : Int)).toNat).map fun i : Nat => PyData.int ((a : Int) + (i : Nat)) := by
      rw [show ((b : Int) - (a : Int)).toNat = b - a by omega]
      exact List.map_congr_left fun i _ => by rw [Int.natCast_add]
    rw [e] at q
    exact k Γ2 _ _ _ (E2.pop.pop.newLst hq (dqa_rg _ _)) q
end
end Ld
namespace Sh
open PySem PySem.Spec PyProof.Rows L2 Lx Ld
/-! rows ahead -/
end Sh
set_option Elab.async false
set_option linter.all false
set_option maxRecDepth 100000
namespace Ld
open PySem PySem.Spec PyProof.Rows L2 Lx
open PySem.W (AllAlike Sortable dataLe EachIs sorted_data)
end Ld
namespace Ld
open PySem PySem.Spec PyProof.Rows L2 Lx
open PySem.W (AllAlike Sortable dataLe EachIs sorted_data)
end Ld
namespace Sh
open PySem PySem.Spec PyProof.Rows L2 Lx Ld
end Sh
namespace Sh
open PySem PySem.Spec PyProof.Rows L2 Lx Ld
end Sh
namespace Sh
open PySem PySem.Spec PyProof.Rows L2 Lx Ld
end Sh
set_option Elab.async false
set_option linter.all false
set_option maxRecDepth 100000
namespace Sh
open PySem PySem.Spec PyProof.Rows L2 Lx Ld
/-! known rows -/
end Sh
namespace Sh
open PySem PySem.Spec PyProof.Rows L2 Lx Ld
end Sh
set_option Elab.async false
set_option linter.all false
set_option maxRecDepth 100000
namespace Ld
open PySem PySem.Spec PyProof.Rows L2 Lx
theorem dqa_set {B : Hp} {v : V} {d : Dat} (h : Dq B v d) : ∀ (i : Nat) {vs : List V} {ds : List Dat}, DqAll B vs ds → DqAll B (vs.set i v) (ds.set i d)
  | _, _, _, .nil => .nil
  | 0, _, _, .cons _ t => .cons h t
  | i + 1, _, _, .cons g t => .cons g (dqa_set h i t)
/-- x[i], x[j] = a, b -/
theorem ss_swap {K : PySem.W.Frag} {Γ : List Cell} {k : Nat} {ta tb ti tj : TE} {R : DE}
    (h : ∀ ss, VE K Γ (srcT ss) ta fun Γ1 x => VE K Γ1 (x :: srcT ss) tb fun Γ2 y => ∃ dx dy ds, x = .dt dx ∧ y = .dt dy ∧ IsLs Γ2 k ds ∧
      VE K Γ2 (y :: x :: srcT ss) ti fun Γ3 z => ∃ (i : Nat) (ds3 : List Dat), z = .dt (.int i) ∧ IsLs Γ3 k ds3 ∧ i < ds3.length ∧
        (∃ es, IsLs (putC Γ3 k (ds3.set i dx)) k es) ∧ VE K (putC Γ3 k (ds3.set i dx)) (y :: x :: srcT ss) tj fun Γ4 u => ∃ (j : Nat) (ds4 : List Dat), u = .dt (.int j) ∧ IsLs Γ4 k ds4 ∧ j < ds4.length ∧ R.nx (putC Γ4 k (ds4.set j dy))) :
    VSs K Γ (tAsg (tTupF (tCons ta (tCons tb tNil))) (gTup K 2 (gCons (gSub (tVar k) ti rSetL) (gCons (gSub (tVar k) tj rSetL) gNil)))) R := fun ss L S0 σ τ S D E kn kr kb kc =>
  h ss L S0 σ τ S _ E fun Γ1 S1 v x E1 h1 => h1 L S0 σ _ S1 _ E1 fun Γ2 S2 u y E2 ⟨dx, dy, ds, ex, ey, ⟨c, hc, hl⟩, h2⟩ => by
    subst ex ey
    refine ⟨by show 2 ≤ sizeLine; decide +kernel, fun p o hd0 hp => ?_⟩
    have E5 := E2.grow (gr_new (o := .frz o (.tup [v, u])) hp E2.sub) (sub_new hp E2.sub)
    obtain ⟨a, ea, _⟩ := E5.own hc hl
    refine ⟨p, _, rfl, sqt_f upd_same, rfl, _, _, rfl, _, ea, ?_⟩
    refine h2 L S0 σ _ _ _ E5 fun Γ3 S3 w z E3 ⟨i, ds3, ez, ⟨c3, hc3, hl3⟩, hi, ⟨es, c9, hc9, hl9⟩, h3⟩ => ?_
    subst ez
    obtain ⟨a', vs, ea', hv, pv, put⟩ := E3.pop.mutSlot hc3 hl3
    rw [ea] at ea'
    cases ea'
    have E6 := put (vs.set i v) (ds3.set i dx) (dqa_set E3.pop.pop.dt i pv)
    have hi' : i < vs.length := by rw [pv.len]; exact hi
    rw [putC_eq hc3] at h3 hc9
    refine ⟨a, vs, i, i, rfl, dp_int E3.dt, hv, ?_, ?_⟩
    · unfold ixN
      rw [if_pos (Int.natCast_nonneg i), if_pos (by omega)]
      rfl
    refine ⟨_, _, rfl, _, ea, ?_⟩
    refine h3 L S0 σ _ _ _ E6 fun Γ4 S4 w2 z2 E7 ⟨j, ds4, ez, ⟨c4, hc4, hl4⟩, hj, q⟩ => ?_
    subst ez
    obtain ⟨a', vs2, ea', hv2, pv2, put2⟩ := E7.pop.mutSlot hc4 hl4
    rw [ea] at ea'
    cases ea'
    have E8 := put2 (vs2.set j u) (ds4.set j dy) (dqa_set E7.pop.dt j pv2)
    have hj' : j < vs2.length := by rw [pv2.len]; exact hj
    rw [putC_eq hc4] at q
    refine ⟨a, vs2, j, j, rfl, dp_int E7.dt, hv2, ?_, ?_⟩
    · unfold ixN
      rw [if_pos (Int.natCast_nonneg j), if_pos (by omega)]
      rfl
    exact ⟨rfl, kn _ _ _ E8.pop.pop q⟩
end Ld
set_option Elab.async false
set_option linter.all false
set_option maxRecDepth 100000
namespace Ld
open PySem PySem.Spec PyProof.Rows L2 Lx
section
variable {K : PySem.W.Frag} {Γ : List Cell} {Θ : List Tmp}
/-- list.count of whole numbers -/
theorem ve_lcount {ta te : TE} {Q : List Cell → Tmp → Prop}
    (h : VE K Γ Θ ta fun Γ1 x => (∃ ds, rd Γ1 x (.list ds)) ∧ VE K Γ1 (x :: Θ) te fun Γ2 y => ∃ (ns : List Int) (n : Int), rd Γ2 x (.list (ns.map .int)) ∧ y = .dt (.int n) ∧ Q Γ2 (.dt (.int (ns.count n : Nat)))) :
    VE K Γ Θ (tBM K "list" (rCntI K) ta (tCons te tNil)) Q := fun L S0 σ τ S Qv E k => h L S0 σ τ S _ E fun Γ1 S1 vx x E1 ⟨⟨ds0, hx0⟩, h1⟩ => by
  obtain ⟨a, us, ea, hu, _⟩ := rdB_l E1 hx0
  subst ea
  refine ⟨.inl ⟨rfl, us, .of hu⟩, h1 L S0 σ _ S1 _ E1 fun Γ2 S2 vy y E2 ⟨ns, n, hx, hy, q⟩ => ?_⟩
  subst hy
  obtain ⟨a', zs, ea, hs, p⟩ := dp_list (E2.pop.rd hx)
  cases ea
  have ez := dpa_ints p
  subst ez
  exact ⟨a, ns, n, rfl, by rw [dp_int E2.dt], .of hs, k Γ2 S2 _ _ (E2.pop.pop.push (.int _)) q⟩
end
end Ld
namespace Sh
open PySem PySem.Spec PyProof.Rows L2 Lx Ld
/-! how many rows need just so many places -/
def nj (n b : Nat) : Int := if b = 0 then (sby n 0 : Int) else (sby n b : Int) - (sby n (b - 1) : Int)
end Sh
set_option Elab.async false
set_option linter.all false
set_option maxRecDepth 100000
namespace Sh
open PySem PySem.Spec PyProof.Rows L2 Lx Ld
/-! pairs the wrong way round -/
end Sh
set_option Elab.async false
set_option linter.all false
set_option maxRecDepth 100000
namespace Sh
open PySem PySem.Spec PyProof.Rows L2 Lx Ld
/-! known rows: falling ones, one number behind all -/
/-! a pass of exchanges -/
/-! one number behind all -/
end Sh
set_option Elab.async false
set_option linter.all false
set_option maxRecDepth 100000
namespace Ld
open PySem PySem.Spec PyProof.Rows L2 Lx
section
variable {K : PySem.W.Frag} {Γ : List Cell} {Θ : List Tmp}
theorem dqa_erase {B : Hp} : ∀ (i : Nat) {vs : List V} {ds : List Dat}, DqAll B vs ds → DqAll B (vs.eraseIdx i) (ds.eraseIdx i) := fun i _ _ h => DqAll.eraseIdx i h
/-- xs.pop(i) -/
theorem ve_popAt {i : Nat} {te : TE} {Q : List Cell → Tmp → Prop} (h0 : ∃ ds, IsLs Γ i ds) (h : VE K Γ Θ te fun Γ1 y => ∃ (j : Nat) (d : Dat) (ds : List Dat), y = .dt (.int j) ∧ IsLs Γ1 i ds ∧ ds[j]? = some d ∧ j < 100000 ∧ Q (putC Γ1 i (ds.eraseIdx j)) (.dt d)) : VE K Γ Θ (tBM K "list" rPopAt (tVar i) (tCons te tNil)) Q := fun L S0 σ τ S Qv E k => by
  obtain ⟨ds0, c0, hc0, hl0⟩ := h0
  obtain ⟨a, ea, nb, us, hu, pu⟩ := E.own hc0 hl0
  refine ⟨_, ea, .inl ⟨rfl, us, .of hu⟩, h L S0 σ τ S _ E fun Γ1 S1 v y E1 ⟨j, d, ds, ey, ⟨c, hc, hl⟩, hd, hj, q⟩ => ?_⟩
  subst ey
  obtain ⟨a', vs, ea', hv, pv, put⟩ := E1.pop.mutSlot hc hl
  rw [ea] at ea'
  cases ea'
  obtain ⟨u, hu2, pu2⟩ := pv.get hd
  have hlt : j < vs.length := (List.getElem?_eq_some_iff.mp hu2).1
  refine ⟨a, vs, (j : Int), j, u, rfl, by rw [dp_int E1.dt], hv, by omega, by omega, ?_, hu2, ?_⟩
  · have h1 : ¬ ((j : Int) < 0) := by omega
    unfold seqIndex?
    simp only [h1, if_false]
    simp [hlt]
  · have E2 := put (vs.eraseIdx j) (ds.eraseIdx j) (dqa_erase j pv)
    rw [putC_eq hc] at q
    exact k _ _ _ _ (E2.push pu2) q
end
end Ld
namespace Lx
open PySem PySem.Spec PyProof.Rows L2 PySem.W
end Lx
namespace Ld
open PySem PySem.Spec PyProof.Rows L2 Lx
end Ld
namespace Sh
open PySem PySem.Spec PyProof.Rows L2 Lx Ld
open PySem.W (DatumOrd minOf minD Tup Datum listLt)
/-! the least of tuples -/
/-- three whole numbers -/
structure T where
  v : Int
  i : Int
  j : Int
def T.l (t : T) : List Int := [t.v, t.i, t.j]
def T.d (t : T) : Dat := .tuple (iL t.l)
structure T.ok (t : T) : Prop where
  v0 : 0 ≤ t.v
  v1 : t.v ≤ 90
  i0 : -1 ≤ t.i
  i1 : t.i ≤ 90
  j0 : -1 ≤ t.j
  j1 : t.j ≤ 90
end Sh
set_option Elab.async false
set_option linter.all false
set_option maxRecDepth 100000
namespace Sh
open PySem PySem.Spec PyProof.Rows L2 Lx Ld
/-! moves that mend -/
end Sh
set_option Elab.async false
set_option linter.all false
set_option maxRecDepth 100000
namespace Sh
open PySem PySem.Spec PyProof.Rows L2 Lx Ld
/-! blocks -/
def cutB (N : List Int) (p : Nat) : Bool := (N.take p).all fun x => (N.drop p).all fun y => decide (x < y)
def mayL (N : List Int) : List Nat := (List.range (N.length + 1)).filter (cutB N)
/-! stretches between places -/
def segs (N : List Int) : List Nat → List (List Int)
  | s :: e :: r => (N.take e).drop s :: segs N (e :: r)
  | _ => []
def blk (N : List Int) : List (List Int) := segs N (mayL N)
end Sh
namespace Sh
open PySem PySem.Spec PyProof.Rows L2 Lx Ld
/-! marks put at some of the places -/
end Sh
set_option Elab.async false
set_option linter.all false
set_option maxRecDepth 100000
namespace Lx
open PySem PySem.Spec PyProof.Rows L2 PySem.W
end Lx
namespace Ld
open PySem PySem.Spec PyProof.Rows L2 Lx
section
variable {K : PySem.W.Frag} {Γ : List Cell} {Θ : List Tmp}
/-- not t, t a tuple -/
theorem ve_notTp {te : TE} {Q : List Cell → Tmp → Prop} (h : VE K Γ Θ te fun Γ1 x => ∃ ds, x = .dt (.tuple ds) ∧ Q Γ1 (.dt (.bool ds.isEmpty))) : VE K Γ Θ (tNotT K te) Q := fun L S0 σ τ S Qv E k => h L S0 σ τ S _ E fun Γ1 S1 v x E1 ⟨ds, hx, q⟩ => by
  subst hx
  obtain ⟨a, o, us, ev, _, ha, pa⟩ := dp_tup E1.dt
  subst ev
  refine ⟨!us.isEmpty, .inr (.inl ⟨us, sqt_f (E1.sub _ _ ha), rfl⟩), ?_⟩
  rw [isEmpty_len pa.len, Bool.not_not]
  exact k Γ1 S1 _ _ (E1.pop.push (.bl _)) q
end
end Ld
namespace Sh
open PySem PySem.Spec PyProof.Rows L2 Lx Ld
theorem kb_bb : kitB "bool" "bool" = some true := by decide +kernel
end Sh
namespace Ld
open PySem PySem.Spec PyProof.Rows L2 Lx
end Ld
namespace Sh
open PySem PySem.Spec PyProof.Rows L2 Lx Ld
end Sh
namespace Sh
open PySem PySem.Spec PyProof.Rows L2 Lx Ld
end Sh
namespace Sh
open PySem PySem.Spec PyProof.Rows L2 Lx Ld
end Sh
namespace Sh
open PySem PySem.Spec PyProof.Rows L2 Lx Ld
end Sh
set_option Elab.async false
set_option linter.all false
set_option maxRecDepth 100000
/-! defs called in an except suite that are handed the caught exception -/
namespace Xa
open PySem PySem.Spec PyProof.Rows L2
structure FnE (P : Program) (w : World) (K : PySem.W.Frag) (mg : Str → Option Value) (base : Heap) (k : Nat) (f : Addr) (fd : FuncData) (ps : List Str) (sp : Addr → Value → Option Addr → Sp) : Prop where
  len : ∀ a c d vs H Q E, sp a c d vs H Q E → vs.length = ps.length
  run : ∀ (A : Around) (outer : List Env) (s : Shared) (H : Hp) (args : Args) (us : List Value) (vs : List V) (Q : VK) (E : XK) (p : Addr × Obj) (cls : Value) (d : Option Addr), L2H.RoomH k A → L2H.Hot1 A p → L2N.Zn cls d p.2 → L2H.PinOk outer H s p → Env0 P w K mg base A outer s H → BindsTo s fd args (ps.zip us) → Vals vs us → sp p.1 cls d vs H Q E →
    codeAny (model P w) A (.call (.ref f) args) (CR CX0 outer P w H s Q E) s
theorem fn_ofE {P : Program} {w : World} {K : PySem.W.Frag} {mg : Str → Option Value} {base : Heap} {k : Nat} {f : Addr} {name qual : Str} {params : Arguments} {body : List Stmt} {scope : Scope} {dV kV doc pm cdv ct oc : Value} {an od : Option Addr}
    {osl : Array (Option Value)} {N ps : List Str} {sp : Addr → Value → Option Addr → Sp} (lk : K.lookup f = some ⟨oc, od, .func (PySem.W.fnOf name qual params body scope dV kV doc pm an cdv ct), osl⟩) (hcd : PySem.W.codeIn K cdv qual = true) (S : FnScope N ps scope)
    (len : ∀ a c d vs H Q E, sp a c d vs H Q E → vs.length = ps.length)
    (hbody : ∀ (A : Around) (outer : List Env) (s : Shared) (H : Hp) (vs : List V) (Q : VK) (E : XK) (p : Addr × Obj) (cls : Value) (d : Option Addr), L2H.Hot1 A p → L2N.Zn cls d p.2 → L2H.RoomH k (A.deeper (envOfC qual scope s.heap.objs.size f cdv)) → sp p.1 cls d vs H Q E →
      ∃ t, PSs (L2H.cxH CX0 P w K mg base N qual scope f cdv A outer s H E p) body t ∧ t { nx := fun _ H' => Q .non H', rt := Q } (L2.start N vs) H) :
    FnE P w K mg base (k + 1) f (PySem.W.fnOf name qual params body scope dV kV doc pm an cdv ct) ps sp := by
  refine ⟨len, fun A outer s H args us vs Q E p cls d hr hot hz hpin e0 hb r hsp => ?_⟩
  have hl := len _ _ _ _ _ _ _ hsp
  have KX : K.In s.heap := e0.mod.kin.keeps fun b o e => (e0.bs b o e).1
  have lim : s.heap.NoLimit := e0.mod.nolimit.keeps fun b o e => (e0.bs b o e).1
  have hkind : ∀ y ∈ ps.zip us, scope.names.lookup y.1 = some .local ∨ (scope.names.lookup y.1 = some .cell ∧ ((cellsFrom (s.heap.objs.size + 1) scope.names []).lookup y.1).isSome = true) := fun ⟨n, v⟩ hy => by
    rcases S.par n (List.of_mem_zip hy).1 with q | q
    · exact .inl q
    · exact .inr ⟨q, PySem.W.cellsFrom_some _ _ _ (.inl q)⟩
  refine codeAny_call_function hr.depth (KX _ _ lk) rfl S.co S.gen rfl (PySem.W.codeRec_of KX hcd) (hb _ _ _ _ ?_)
  refine wpAny_newFunctionEnv_cells S.kind hkind fun env he s1 x => ?_
  subst he
  refine ⟨lim.keeps x.toInCall.keep, codeAny_func ?_⟩
  obtain ⟨t, ht, hq⟩ := hbody A outer s H vs Q E p cls d hot hz (hr.deeper _) hsp
  have I : Inv (L2H.cxH CX0 P w K mg base N qual scope f cdv A outer s H E p) [] (L2.start N vs) H s1 := L2H.inv_startH S hpin e0 hl r x
  refine wpAny_mono (ht.run [] s1 (L2.start N vs) H _ I hq) (fun fl s' hs => ?_) fun e s' hs => hs
  have fin : ∀ {σ' : L2.St} {H' : Hp} {v : V} {u : Value}, Inv (L2H.cxH CX0 P w K mg base N qual scope f cdv A outer s H E p) [] σ' H' s' → RelV v u → Q v H' → CE outer P w H s Q u s' :=
    fun {σ' H' v u} J rv q => ⟨v, H', J.os, J.bare, J.base, J.hok, rv, q⟩
  cases fl with
  | ret u =>
    obtain ⟨v, σ', H', J, rv, q⟩ := hs
    exact fin J rv q
  | next =>
    obtain ⟨σ', H', J, q⟩ := hs
    exact fin (v := V.non) (u := Value.none) J rfl q
  | brk =>
    obtain ⟨_, _, _, q⟩ := hs
    exact False.elim q
  | cont =>
    obtain ⟨_, _, _, q⟩ := hs
    exact False.elim q
section
variable {X : Cx} {k : Nat} {f : Addr} {fd : FuncData} {ps : List Str} {sp : Addr → Value → Option Addr → Sp} {x : Str} {q pos : Pos} {e : Expr} {es : List Expr} {t : TA}
/-- g(e), e the caught exception, in the suite -/
theorem pe_callE {p : Addr × Obj} {cls : Value} {d : Option Addr} (F : FnE X.prog X.w X.K X.mg X.base k f fd ps sp) (hr : L2H.RoomH k X.A) (hot : L2H.Hot1 X.A p) (hp : p ∈ X.pn) (hz : L2N.Zn cls d p.2) (hg : Gl X x) (hm : X.mg x = some (.ref f)) (hk : PySem.W.keepIn X.K (.ref f) = true) (hb : Binds X.K fd ps [])
    (ha : PA X (e :: es) t) (hdb : (x == ("__debug__" : Str)) = false := by decide) (he : starEach (e :: es) X.env = (false, eval e X.env) :: starEach es X.env := by rfl) (hpl : (backTo pos (starEach es X.env)).any (·.1) = false := by rfl) :
    PE X (.Call (.Name x q) (e :: es) [] pos) (tCall (sp p.1 cls d) [] E0 t) := by
  refine ⟨fun pins s σ H Q I h => ?_⟩
  refine wpAny_Call_Name_kw (ld_glob I hg hm ?_ hdb)
  refine PySem.W.callWith_K (h₀ := X.base) I.ok.mod.kin hk (thn (ha.run pos pins s σ H _ I h) fun us s1 ⟨vs, H1, I1, r, qq⟩ => ⟨I1.kIn, ?_⟩) he hpl
  have qq : sp p.1 cls d vs H1 Q E0 := by
    have z : sp p.1 cls d (vs ++ []) H1 Q E0 := qq
    rwa [List.append_nil] at z
  have hl : us.length = ps.length := by rw [← r.length]; exact F.len _ _ _ _ _ _ _ qq
  have b := hb s1 us I1.kIn (by rw [List.append_nil]; exact hl)
  rw [List.append_nil] at b
  have P1 := I1.pin p (List.mem_append_left _ hp)
  have hpin : L2H.PinOk X.stack H1 s1 p := ⟨P1.1, P1.2.1, fun hm => (List.mem_cons.mp (I1.stkSub p.1 hm)).elim P1.2.2.1 P1.2.2.2.1, P1.2.2.2.2⟩
  refine wpAny_call (codeAny_mono (F.run X.A X.stack s1 H1 ⟨us, []⟩ us vs Q E0 p cls d hr hot hz hpin I1.env0 b r qq) fun r s' hq => ?_)
  cases r with
  | error e => exact (hq : False).elim
  | ok fl =>
    cases fl with
    | ret u => exact I1.after hq
    | next => exact False.elim hq
    | brk => exact False.elim hq
    | cont => exact False.elim hq
end
/-- isinstance(e, c), e the exception that is handled here -/
theorem call_isX {X : Cx} {a D : Addr} {oe : Obj} (hm : (a, oe) ∈ X.pn) (C : ExcC X.K D) (hz : Zc (.ref D) none oe) (hf : ∃ vs, oe.data = .fields vs) : CallR X (.builtin "isinstance") (rIsE X.K D a) := by
  intro pins s σ H xs us Q I r h
  obtain ⟨c, cv, b, rfl, hcv, e, q⟩ := h
  cases r with
  | cons rx rr =>
    cases rr with
    | cons rt rr =>
      cases rr
      cases rx
      have ec := hcv _ rt
      subst ec
      obtain ⟨hget, _⟩ := I.pin (a, oe) (List.mem_append.mpr (.inl hm))
      obtain ⟨vs, hv⟩ := hf
      have J : PySem.W.InstAt s.heap a oe D none := by
        obtain ⟨oc, od, oda, osl⟩ := oe
        obtain ⟨h1, h2⟩ := hz
        dsimp only at h1 h2 hv
        subst h1 h2 hv
        exact ⟨hget, rfl, rfl, trivial⟩
      exact PySem.W.kia_one (PySem.W.handS_kitx_exc C.hg C.hk C.hs C.hd C.ha C.hn C.ht C.hm) I.kIn J e (fun z => nomatch z) fun tk => ⟨.bl b, H, I.kept (t' := tk) fun _ _ z => z, rfl, q⟩
/-! list.count of flat values -/
def rCntV (K : PySem.W.Frag) : V → List V → Hp → VK → Prop := fun x xs H Q => ∃ (a : Addr) (ys : List V) (y : V), x = .ref a ∧ xs = [y] ∧ SqL K H a ys ∧ flatV y = true ∧ ys.all flatV = true ∧ Q (.int (ys.countP (fun z => eqV z y) : Nat)) H
theorem cnt_eq {y : V} : ∀ {ys : List V} {us : List Value}, Vals ys us → ys.all flatV = true → us.countP (eqU y) = ys.countP fun z => eqV z y
  | _, _, .nil, _ => rfl
  | z :: ys, u :: us, .cons r t, f => by
    rw [List.all_cons, Bool.and_eq_true] at f
    rw [List.countP_cons, List.countP_cons, cnt_eq t f.2, eqU_of r f.1]
theorem mt_lcountV {X : Cx} : MtR X "list.count" (rCntV X.K) := by
  intro pins s σ H x xs v us Q I rx rxs h
  obtain ⟨a, ys, y, rfl, rfl, hs, fy, fys, q⟩ := h
  cases rx
  cases rxs with
  | cons ry rt =>
    rename_i uy ut
    cases rt
    obtain ⟨its, rv, ⟨⟨cls, dd, data, sl⟩, n, ho, hc, hdn, hd⟩, hlen⟩ := I.list hs
    simp only at hc hd
    subst hc hd
    refine call_meets PySem.F.slot_list_count ⟨_, ho, rfl⟩ PySem.F.entry_list_count (PySem.F.args_list_count_2 _ _)
      (SeqAt.list_countAt a its.toArray n dd sl uy (eqU y)) ⟨ho, fun u' hu' => mem_eqAt ry fy rv fys u' (by simpa using hu'), ?_⟩
    have ec : its.toArray.toList.countP (eqU y) = ys.countP fun z => eqV z y := cnt_eq rv fys
    refine ⟨.int (ys.countP (fun z => eqV z y) : Nat), H, I.tok _, ⟨s.toks, ?_⟩, q⟩
    show Value.int ((its.toArray.toList.countP (eqU y) : Nat) : Int) s.toks = _
    rw [ec]
/-! exceptions made where nothing is handled -/
section
variable {X : Cx}
theorem takes0N : L2N.Takes X (fun _ _ _ _ => False) := fun _ _ x => by
  obtain ⟨_, _, _, _, _, _, _, _, _, _, _, _, _, _, _, _, z⟩ := x
  exact z.elim
theorem pmk_n1 {C : Addr} {bmB : List Value} {B newId initId : String} {x : Str} {e : Expr} {ta : TE} {p pos : Pos} (F : ExcBaseFacts B newId initId bmB) (q : PySem.W.excIn X.K C bmB newId = true) (gC : X.mg x = some (.ref C)) (kC : PySem.W.keepIn X.K (.ref C) = true) (r : Raises X (.ref C)) (hg : Gl X x)
    (he : PE X e ta) (hs : starEach [e] X.env = (false, eval e X.env) :: starEach [] X.env := by rfl) (hdb : (x == ("__debug__" : Str)) = false := by decide) :
    L2N.PMk X (.Call (.Name x p) [e] [] pos) (fun σ H Q => ta σ H fun _ H1 => Q (.ref C) none H1) := by
  intro pins s σ H Q I h
  refine wpAny_Call_Name_kw (ld_glob I hg gC ?_ hdb)
  refine PySem.W.callWith_K (h₀ := X.base) I.ok.mod.kin kC ?_ hs (by rfl)
  rw [hs]
  show wpAny _ _ (spliced ((false, eval e X.env) :: backTo pos (starEach [] X.env))) _ _ s
  refine Calls.spliced_cons (thn (he.run pins s σ H _ I h) fun u s1 ⟨v, H1, I1, r1, q1⟩ => ?_)
  refine Calls.spliced_nil ⟨I1.kIn, ?_⟩
  show wpAny _ _ (call (.ref C) [u]) _ _ _
  obtain ⟨bm, N, nm, qn, bs, hdct, sn, sub, ab, col, dd, k0, k1, k2, k3, k5, mN, hC, hN, hni, T⟩ := exc_obj I1.kIn q
  refine wpAny_call_exc_subT F T hC hN hni (fun h' e hm => ?_) (by show 1 ≤ sizeLine; rw [sizeLine_eq]; omega)
  exact L2N.mk_of I1 hm r q1 (I1.hok.gone hm.new)
end
end Xa
set_option Elab.async false
set_option linter.all false
set_option maxRecDepth 100000
namespace Ld
open PySem PySem.Spec PyProof.Rows L2 Lx
/-! defs that raise -/
abbrev BxN (P : Program) (w : World) (K : PySem.W.Frag) (mg : Str → Option Value) (base : Heap) (N : List Str) (qual : Str) (st : Stmt) (f : Addr) (cdv : Value) (A : Around) (outer : List PySem.Env) (s : Shared) (H : Hp) (E : XK) : Cx := cxOf (L2N.CX P w) P w K mg base N qual (defScope st) f cdv A outer s H E
/-- an own exception class over ValueError -/
structure ExcF (K : PySem.W.Frag) (mg : Str → Option Value) (x : Str) (C : Addr) : Prop where
  g : mg x = some (.ref C)
  x : PySem.W.excIn K C He.veBase "ValueError.__new__" = true
  k : PySem.W.keepIn K (.ref C) = true
  b : PySem.W.subIn K (.ref C) (.type "BaseException") = some true
  t : PySem.W.typeIn K (.ref C) = some (.type "type")
def spR {α : Type} (K : PySem.W.Frag) (A : α → List Arg) (pre : α → Prop) (C : α → Addr) : Sp := fun vs H _ E => ∃ (B : Hp) (x : α), Same B H ∧ ArgsOk K B vs (A x) ∧ pre x ∧
  ∀ S', Gr L0 ⟨B, H⟩ S' → Same S'.b S'.h → E (.ref (C x)) none S'.h
def XF (E : XK) (L : Addr → Prop) (S0 : Hs) (C : Addr) : Prop := ∀ S', Gr L S0 S' → Same S'.b S'.h → E (.ref C) none S'.h
section
variable (K : PySem.W.Frag) (L : Addr → Prop) (S0 : Hs) (Γ : List Cell)
def VEr (Θ : List Tmp) (t : TE) : Prop := ∀ (σ : L2.St) (τ : List V) (S : Hs) (Qv : VK), Env K L S0 Γ Θ σ τ S → t σ S.h Qv
def VAr (Θ : List Tmp) (t : TA) : Prop := ∀ (σ : L2.St) (τ : List V) (S : Hs) (Qv : List V → Hp → Prop), Env K L S0 Γ Θ σ τ S → t σ S.h Qv
def VSr (t : TS) : Prop := ∀ (ss : List Dat) (σ : L2.St) (τ : List V) (S : Hs) (D : Ends), Env K L S0 Γ (srcT ss) σ τ S → t D σ S.h
end
section
variable {K : PySem.W.Frag} {L : Addr → Prop} {S0 : Hs} {Γ : List Cell} {Θ : List Tmp}
theorem sr_first {s1 s2 : TS} (h : VSr K L S0 Γ s1) : VSr K L S0 Γ (tSeq s1 s2) := fun ss σ τ S D E => h ss σ τ S _ E
theorem sr_seq {s1 s2 : TS} (h : VSs K Γ s1 ⟨fun Γ' => VSr K L S0 Γ' s2, fun _ _ => False, fun _ => False, fun _ => False⟩) : VSr K L S0 Γ (tSeq s1 s2) := fun ss σ τ S D E =>
  h ss L S0 σ τ S _ E (fun Γ' σ' S' E' q => q ss σ' τ S' _ E') (fun _ _ _ _ _ _ _ z => z.elim) (fun _ _ _ _ z => z.elim) (fun _ _ _ _ z => z.elim)
theorem sr_if {tt : TT} {ta tb : TS} (h : ∀ ss, VT K Γ (srcT ss) tt fun Γ1 b => (b = true → VSr K L S0 Γ1 ta) ∧ (b = false → VSr K L S0 Γ1 tb)) : VSr K L S0 Γ (tIfS tt ta tb) := fun ss σ τ S D E => h ss L S0 σ τ S _ E fun Γ1 S1 b E1 q => by
  cases b with
  | true => rw [if_pos rfl]; exact q.1 rfl ss σ τ S1 D E1
  | false => rw [if_neg Bool.false_ne_true]; exact q.2 rfl ss σ τ S1 D E1
theorem sr_ret {te : TE} (h : ∀ ss, VEr K L S0 Γ (srcT ss) te) : VSr K L S0 Γ (tRet te) := fun ss σ τ S D E => h ss σ τ S _ E
theorem sr_drop {te : TE} (h : ∀ ss, VEr K L S0 Γ (srcT ss) te) : VSr K L S0 Γ (tDrop te) := fun ss σ τ S D E => h ss σ τ S _ E
theorem sr_asg {te : TE} {g : TG} (h : ∀ ss, VEr K L S0 Γ (srcT ss) te) : VSr K L S0 Γ (tAsg te g) := fun ss σ τ S D E => h ss σ τ S _ E
theorem sr_raise {ta : TE} {E : XK} {C : Addr} (hE : XF E L S0 C) (ha : ∀ ss σ τ S, Env K L S0 Γ (srcT ss) σ τ S → ∀ Q : VK, (∀ v, Q v S.h) → ta σ S.h Q) :
    VSr K L S0 Γ (fun _ σ H => ta σ H fun _ H1 => E (.ref C) none H1) := fun ss σ τ S D Ev => ha ss σ τ S Ev _ fun _ => hE S Ev.gr Ev.sub
theorem er_call {α : Type} {A : α → List Arg} {pre : α → Prop} {C : α → Addr} {E : XK} {t : TA} (h : VAX K Γ Θ t fun Γ1 as => ∃ x, as = A x ∧ pre x ∧ XF E L S0 (C x)) : VEr K L S0 Γ Θ (L2.tCallS (spR K A pre C) (fun _ => E) t) := fun σ τ S Qv E0 => h L S0 σ τ S _ E0 fun Γ1 S1 vs as E1 p ⟨x, ex, hp, hE⟩ => by
  subst ex
  exact ⟨S1.b, x, E1.sub, p, hp, fun S' g s => hE S' (E1.gr.trans0 g) s⟩
theorem er_cb {r : List V → Hp → VK → Prop} {t : TA} (h : VAr K L S0 Γ Θ t) : VEr K L S0 Γ Θ (tCB r t) := fun σ τ S Qv E => h σ τ S _ E
theorem ar_one {te : TE} {t : TA} (h : VEr K L S0 Γ Θ te) : VAr K L S0 Γ Θ (tCons te t) := fun σ τ S Qv E => h σ τ S _ E
end
section
variable {P : Program} {w : World} {K : PySem.W.Frag} {mg : Str → Option Value} {base : Heap}
theorem ok_R {α : Type} {x qual : Str} {st : Stmt} {f : Addr} {fd : FuncData} {N ps : List Str} {k : Nat} {Ar : α → List Arg} {pre : α → Prop} {C : α → Addr} (F : Fun K x qual st f fd) (Sc : FnScope N ps (defScope st)) (hl : ∀ x, (Ar x).length = ps.length) (hN : ps.length ≤ N.length)
    (hb : ∀ (cdv : Value) (A : Around) (outer : List PySem.Env) (s : Shared) (H : Hp) (E : XK), Room k (A.deeper (envOfC qual (defScope st) s.heap.objs.size f cdv)) →
      ∃ t, PSs (BxN P w K mg base N qual st f cdv A outer s H E) (defBody st) t ∧ ∀ x S0, pre x → XF E L0 S0 (C x) → VSr K L0 S0 (cells0 N ((Ar x).map Arg.cell)) t) : FnOk P w K mg base (L2N.CX P w) (k + 1) f fd ps (spR K Ar pre C) := by
  have hlen : ∀ vs H Q E, spR K Ar pre C vs H Q E → vs.length = ps.length := fun vs H Q E h => by
    obtain ⟨B, x, _, p, hp, _⟩ := h
    rw [p.len, hl x]
  obtain ⟨oc, od, kV, doc, pm, an, cdv, ct, osl, rfl, lk, hcd⟩ := F.ex
  refine fn_of lk hcd Sc hlen fun A outer s H vs Q E hr h => ?_
  obtain ⟨t, ht, hv⟩ := hb cdv A outer s H E hr
  obtain ⟨B, x, sub, p, hp, q⟩ := h
  have hlv : vs.length ≤ N.length := by rw [p.len, hl x]; exact hN
  exact ⟨t, ht, hv x ⟨B, H⟩ hp q [] (L2.start N vs) [] ⟨B, H⟩ _ (env_start sub p hlv)⟩
/-- .. and what is called -/
structure CalR (P : Program) (w : World) (K : PySem.W.Frag) (mg : Str → Option Value) (base : Heap) (k : Nat) (x : Str) (ps : List Str) (sp : Sp) (f : Addr) (fd : FuncData) : Prop where
  G : FnOk P w K mg base (L2N.CX P w) k f fd ps sp
  g : mg x = some (.ref f)
  kp : PySem.W.keepIn K (.ref f) = true
  b : Binds K fd ps []
theorem Df.calR {k : Nat} {x : Str} {st : Stmt} {ps : List Str} {sp : Sp} {f : Addr} {fd : FuncData} (D : Df K mg x st ps f fd) (G : FnOk P w K mg base (L2N.CX P w) k f fd ps sp) : CalR P w K mg base k x ps sp f fd := ⟨G, D.g, D.F.kp, D.b⟩
/-- one promise or the other -/
theorem FnOk_or {CX : CXT} {k : Nat} {f : Addr} {fd : FuncData} {ps : List Str} {sp sp' : Sp} (F : FnOk P w K mg base CX k f fd ps sp) (G : FnOk P w K mg base CX k f fd ps sp') : FnOk P w K mg base CX k f fd ps (fun vs H Q E => sp vs H Q E ∨ sp' vs H Q E) :=
  ⟨fun vs H Q E h => h.elim (F.len vs H Q E) (G.len vs H Q E), fun A outer s H args us vs Q E hr he hb hv h => h.elim (fun h => F.run A outer s H args us vs Q E hr he hb hv h) fun h => G.run A outer s H args us vs Q E hr he hb hv h⟩
end
section
variable {K : PySem.W.Frag} {Γ : List Cell} {Θ : List Tmp}
theorem ve_callOr {α β : Type} {A : α → List Arg} {pre : α → Prop} {post : α → Dat → Prop} {A' : β → List Arg} {pre' : β → Prop} {post' : β → Dat → Prop} {X : XK} {t : TA} {Q : List Cell → Tmp → Prop}
    (h : VAX K Γ Θ t fun Γ1 as => (∃ x, as = A x ∧ pre x ∧ ∀ d, post x d → Q Γ1 (.dt d)) ∨ ∃ x, as = A' x ∧ pre' x ∧ ∀ d, post' x d → Q Γ1 (.dt d)) : VE K Γ Θ (tCall (fun vs H Q E => spG K A pre post vs H Q E ∨ spG K A' pre' post' vs H Q E) [] X t) Q := fun L S0 σ τ S Qv E k => h L S0 σ τ S _ E fun Γ1 S1 vs as E1 p hx => by
  show spG K A pre post (vs ++ []) S1.h Qv X ∨ spG K A' pre' post' (vs ++ []) S1.h Qv X
  rw [List.append_nil]
  rcases hx with ⟨x, ex, hp, q⟩ | ⟨x, ex, hp, q⟩
  · subst ex
    exact .inl ⟨S1.b, x, E1.sub, p, hp, fun v S' d g s hd hq => k Γ1 S' v _ ((E1.grow g s).push hd) (q d hq)⟩
  · subst ex
    exact .inr ⟨S1.b, x, E1.sub, p, hp, fun v S' d g s hd hq => k Γ1 S' v _ ((E1.grow g s).push hd) (q d hq)⟩
/-- what a def is told that is handed a caught exception, and tells -/
def spE (idx : Addr → Option Int) : Addr → Value → Option Addr → Sp := fun a cl d vs H Q _ => vs = [V.ref a] ∧ H a = none ∧ d = none ∧ ∃ (D : Addr) (n : Int), cl = .ref D ∧ idx D = some n ∧ ∃ B, Same B H ∧
  ∀ v S', Gr L0 ⟨B, H⟩ S' → Same S'.b S'.h → Dq S'.b v (.tuple [.str "refused", .int n]) → Q v S'.h
end
end Ld
set_option Elab.async false
set_option linter.all false
set_option maxRecDepth 100000
namespace Ld
open PySem PySem.Spec PyProof.Rows L2 Lx
/-- what is known of a class of errors: it is the n-th of these -/
structure KitF (K : PySem.W.Frag) (X : Addr) (n : Int) (cs : List Addr) : Prop where
  e : ExcC K X
  v : PySem.W.kitOne K (.ref X) (.type "ValueError") = some true
  o : ∀ (j : Nat) C, cs[j]? = some C → PySem.W.kitOne K (.ref X) (.ref C) = some (decide ((j : Int) = n))
  n0 : 0 ≤ n
  n1 : n < 12
theorem is_rd {K : PySem.W.Frag} {X a C : Addr} {b : Bool} {σ : L2.St} {H : Hp} {Q : VK} (h0 : σ[0]? = some (some (.ref a))) (hk : PySem.W.kitOne K (.ref X) (.ref C) = some b) (q : Q (.bl b) H) : tCB (rIsE K X a) (tCons (tVar 0) (tCons (tC (.ref C)) tNil)) σ H Q :=
  ⟨_, h0, ⟨.ref C, .ref C, b, rfl, fun u r => r, hk, q⟩⟩
theorem is_rdV {K : PySem.W.Frag} {X a : Addr} {b : Bool} {σ : L2.St} {H : Hp} {Q : VK} (h0 : σ[0]? = some (some (.ref a))) (hk : PySem.W.kitOne K (.ref X) (.type "ValueError") = some b) (q : Q (.bl b) H) : tCB (rIsE K X a) (tCons (tVar 0) (tCons (tC (.ty "ValueError")) tNil)) σ H Q :=
  ⟨_, h0, ⟨.ty "ValueError", .type "ValueError", b, rfl, fun u r => r, hk, q⟩⟩
end Ld
namespace Ld
open PySem PySem.Spec PyProof.Rows L2 Lx
theorem idx_pre {ys : List V} {y : V} {j : Nat} (h : (ys.take j).all (fun z => !eqV z y) = true) : ∀ (m : Nat) (z' : V), m < j → ys[m]? = some z' → eqV z' y = false := fun m z' hm hz => by
  have hz2 : (ys.take j)[m]? = some z' := by rw [List.getElem?_take_of_lt hm]; exact hz
  have := List.all_eq_true.mp h z' (List.mem_of_getElem? hz2)
  simpa using this
end Ld
namespace Ld
open PySem PySem.Spec PyProof.Rows L2 Lx
theorem ite_f {c : Bool} {A B : Prop} (h : c = false) (q : B) : if c = true then A else B := by rw [h, if_neg Bool.false_ne_true]; exact q
end Ld
namespace He
open PySem PySem.Spec PyProof.Rows L2
theorem xcB_ok {x : Str} {K : PySem.W.Frag} (c : xcB x K = true) : ExcC K (ga K x) := by
  obtain ⟨c1, c⟩ := ba c
  obtain ⟨c2, c⟩ := ba c
  obtain ⟨c3, c⟩ := ba c
  obtain ⟨c4, c⟩ := ba c
  obtain ⟨c5, c⟩ := ba c
  obtain ⟨c6, c⟩ := ba c
  obtain ⟨c7, c8⟩ := ba c
  exact ⟨eqO_ok c1, eqO_ok c2, of_decide_eq_true c3, c4, eqO_ok c5, eqO_ok c6, of_decide_eq_true c7, of_decide_eq_true c8⟩
theorem ktB_ok {x y : Str} {b : Bool} {K : PySem.W.Frag} (c : ktB x y b K = true) : PySem.W.kitOne K (.ref (ga K x)) (.ref (ga K y)) = some b := of_decide_eq_true c
theorem kvB_ok {x : Str} {K : PySem.W.Frag} (c : kvB x K = true) : PySem.W.kitOne K (.ref (ga K x)) (.type "ValueError") = some true := of_decide_eq_true c
theorem klB_ok {x : Str} {n : Nat} {ys : List Str} {K : PySem.W.Frag} (hn : n < 12) (c : klB x n ys K = true) : Ld.KitF K (ga K x) n (ys.map (ga K)) := by
  obtain ⟨c1, c⟩ := ba c
  obtain ⟨c2, c3⟩ := ba c
  refine ⟨xcB_ok c1, kvB_ok c2, fun j C h => ?_, by omega, by omega⟩
  rw [List.getElem?_map] at h
  obtain ⟨y, hy, rfl⟩ := Option.map_eq_some_iff.mp h
  have := List.all_eq_true.mp c3 (y, j) (List.mem_zipIdx_iff_getElem?.mpr hy)
  exact ktB_ok this
end He
namespace Ld
open PySem PySem.Spec PyProof.Rows L2 Lx
theorem ExcF.of {K : PySem.W.Frag} {h : Heap} {mg : Str → Option Value} (X : K.In h) (G : h.Ns mainGlobals mg) {x : Str} (g : (He.Fa.glo x).ok K = true) (c : (He.Fa.exc x).ok K = true) : ExcF K mg x (He.ga K x) := by
  obtain ⟨h1, h2, h3, h4⟩ := He.exc_ok c
  exact ⟨He.glo_ok X G g, h1, h2, h3, h4⟩
end Ld
set_option Elab.async false
set_option linter.all false
set_option maxRecDepth 100000
/-! an error's number among its classes -/
namespace Ld
open PySem PySem.Spec PyProof.Rows L2 Lx
theorem KitF.one {K : PySem.W.Frag} {X : Addr} {n m : Int} {cs : List Addr} (h : KitF K X n cs) (g : KitF K X m cs) (hl : cs.length = 12) : m = n := by
  have h0 := h.n0
  have h1 := h.n1
  have hi : n.toNat < cs.length := by omega
  have e1 := h.o n.toNat _ (List.getElem?_eq_getElem hi)
  have e2 := g.o n.toNat _ (List.getElem?_eq_getElem hi)
  rw [e1] at e2
  have e3 := Option.some.inj e2
  rw [decide_eq_true (by omega : ((n.toNat : Nat) : Int) = n)] at e3
  have e4 := of_decide_eq_true e3.symm
  omega
open Classical in
noncomputable def idxK (K : PySem.W.Frag) (cs : List Addr) (X : Addr) : Option Int := if h : ∃ n, KitF K X n cs then some h.choose else none
theorem idxK_kit {K : PySem.W.Frag} {cs : List Addr} {X : Addr} {n : Int} (h : idxK K cs X = some n) : KitF K X n cs := by
  unfold idxK at h
  split at h
  · rename_i w
    cases h
    exact w.choose_spec
  · cases h
theorem idxK_of {K : PySem.W.Frag} {cs : List Addr} {X : Addr} {n : Int} (hl : cs.length = 12) (h : KitF K X n cs) : idxK K cs X = some n := by
  have w : ∃ n, KitF K X n cs := ⟨n, h⟩
  unfold idxK
  rw [dif_pos w, h.one w.choose_spec hl]
end Ld
set_option Elab.async false
set_option linter.all false
set_option maxRecDepth 100000
namespace Ld
open PySem PySem.Spec PyProof.Rows L2 Lx
open PySem.W (AllAlike Sortable dataLe EachIs sorted_data)
/-! sorted of data, one item of any kind too -/
/-! t < u of tuples of ints; d not in l -/
end Ld
namespace Ld
open PySem PySem.Spec PyProof.Rows L2 Lx
theorem roomX {k : Nat} {A : Around} (r : Room k A) (h : Option Value) : L2H.RoomH k (A.mark h) := ⟨r.dp, r.un⟩
end Ld
namespace Ld
open PySem PySem.Spec PyProof.Rows L2 Lx
theorem ve_callOrF {K : PySem.W.Frag} {Γ : List Cell} {Θ : List Tmp} {α β : Type} {A : α → List Arg} {pre : α → Prop} {g : α → Dat} {A' : β → List Arg} {pre' : β → Prop} {g' : β → Dat} {X : XK} {t : TA} {Q : List Cell → Tmp → Prop}
    (h : VAX K Γ Θ t fun Γ1 as => (∃ x, as = A x ∧ pre x ∧ Q Γ1 (.dt (g x))) ∨ ∃ x, as = A' x ∧ pre' x ∧ Q Γ1 (.dt (g' x))) : VE K Γ Θ (tCall (fun vs H Q E => spF K A pre g vs H Q E ∨ spF K A' pre' g' vs H Q E) [] X t) Q := by
  refine ve_callOr (post := fun x d => d = g x) (post' := fun x d => d = g' x) fun L S0 σ τ S Qv E k => h L S0 σ τ S Qv E fun Γ1 S1 vs as E1 p q => k Γ1 S1 vs as E1 p ?_
  rcases q with ⟨x, e, hp, q⟩ | ⟨x, e, hp, q⟩
  · exact .inl ⟨x, e, hp, fun d ed => by rw [ed]; exact q⟩
  · exact .inr ⟨x, e, hp, fun d ed => by rw [ed]; exact q⟩
end Ld
namespace Ld
open PySem PySem.Spec PyProof.Rows L2 Lx
end Ld
namespace Ld
open PySem PySem.Spec PyProof.Rows L2 Lx
theorem vt_cutT {K : PySem.W.Frag} {Γ : List Cell} {Θ : List Tmp} {t : TT} {Q : List Cell → Bool → Prop} (b : Bool) (h : VT K Γ Θ t fun Γ1 c => c = b ∧ Γ1 = Γ) (q : Q Γ b) : VT K Γ Θ t Q := vt_mono h fun Γ1 c ⟨e1, e2⟩ => by rw [e1, e2]; exact q
end Ld
set_option Elab.async false
set_option linter.all false
set_option maxRecDepth 100000
set_option autoImplicit false
namespace Sh
open PySem PySem.Spec PyProof.Rows L2 Lx Ld
/-! the rows ahead -/
/-! orders of tuples -/
/-! every order -/
end Sh
namespace Sh
open PySem PySem.Spec PyProof.Rows L2 Lx Ld
open PySem.W (DatumOrd Tup Datum listLt dataLe dataLt)
end Sh
namespace Sh
open PySem PySem.Spec PyProof.Rows L2 Lx Ld
end Sh
set_option Elab.async false
set_option linter.all false
set_option maxRecDepth 100000
/-! a def out of a table, called -/
namespace Xa
open PySem PySem.Spec PyProof.Rows L2
def tCallAny (T : Addr → Sp → Prop) (E : L2.St → XK) (tf : TE) (ta : TA) : TE := fun σ H Q => tf σ H fun v H1 => ∃ f sp, v = .ref f ∧ T f sp ∧ ta σ H1 fun vs H2 => sp vs H2 Q (E σ)
structure Callee (X : Cx) (E : L2.St → XK) (f : Addr) (sp : Sp) : Prop where
  ex : ∃ (CX : CXT) (k : Nat) (fd : FuncData) (ps : List Str), FnOk X.prog X.w X.K X.mg X.base CX k f fd ps sp ∧ Room k X.A ∧ PySem.W.keepIn X.K (.ref f) = true ∧ Binds X.K fd ps [] ∧ ∀ σ, PassesAt CX X σ (E σ)
theorem pe_callAny {X : Cx} {T : Addr → Sp → Prop} {E : L2.St → XK} {fe e : Expr} {es : List Expr} {tf : TE} {ta : TA} {pos : Pos} (hT : ∀ f sp, T f sp → Callee X E f sp) (hf : PE X fe tf) (ha : PA X (e :: es) ta)
    (hev : eval (.Call fe (e :: es) [] pos) X.env = (do callWith pos (← eval fe X.env) [] (backTo pos (starEach (e :: es) X.env)) (backToKw pos (keywordEach [] X.env))) := by rfl)
    (he : starEach (e :: es) X.env = (false, eval e X.env) :: starEach es X.env := by rfl) (hpl : (backTo pos (starEach es X.env)).any (·.1) = false := by rfl) : PE X (.Call fe (e :: es) [] pos) (tCallAny T E tf ta) := by
  refine ⟨fun pins s σ H Q I h => ?_⟩
  rw [hev]
  refine wpAny_bind (thn (hf.run pins s σ H _ I h) fun v s1 hv => ?_)
  obtain ⟨x, H1, I1, r1, f, sp, rfl, hT1, q⟩ := hv
  cases r1
  obtain ⟨CX, k, fd, ps, F, hr, hk, hb, hx⟩ := (hT f sp hT1).ex
  refine PySem.W.callWith_K (h₀ := X.base) I1.ok.mod.kin hk (thn (ha.run pos pins s1 σ H1 _ I1 q) fun us s2 ⟨vs, H2, I2, r2, q2⟩ => ⟨I2.kIn, ?_⟩) he hpl
  exact run_fnS F hr hb (hx σ) I2 r2 q2
end Xa
namespace Ld
open PySem PySem.Spec PyProof.Rows L2 Lx
end Ld
set_option Elab.async false
set_option linter.all false
set_option maxRecDepth 100000
namespace Sh
open PySem PySem.Spec PyProof.Rows L2 Lx Ld
/-! things that are no rows -/
def isI : Dat → Bool
  | .int _ => true
  | _ => false
def isK : Dat → Bool
  | .dict _ => false
  | _ => true
end Sh
namespace RZ
open PySem PySem.Spec PyProof.Rows L2
/-- len(set(l)), ints that may be alike -/
def tLenSetG (K : PySem.W.Frag) (ta : TE) : TE := fun σ H Q => ta σ H fun x H1 => ∃ (l : Addr) (ns : List Int), x = .ref l ∧ SqL K H1 l (ns.map V.int) ∧ ns.length ≤ 4000 ∧ Q (.int ((firstMet (fun i => ns.getD i 0) ns.length).length : Nat)) H1
theorem pe_lenSetG {X : Cx} {a : Expr} {ta : TE} {p p2 q pos : Pos} (hg : Gl X "len") (hm : X.mg "len" = none) (hg2 : Gl X "set") (hm2 : X.mg "set" = none) (ha : PE X a ta) (hc : X.calm = true := by rfl)
    (na : starEach [a] X.env = (false, eval a X.env) :: starEach [] X.env := by rfl) : PE X (.Call (.Name "len" p) [.Call (.Name "set" p2) [a] [] q] [] pos) (tLenSetG X.K ta) := by
  refine ⟨fun pins s σ H Q I h => ?_⟩
  refine Call_ (ld_blt I hg hm PySem.boot_len ?_)
  refine callWith_builtin1 (args_cons ?_ rfl) rfl rfl
  refine Call_ (ld_blt I hg2 hm2 boot_set ?_)
  refine callWith_type1 (args_cons (thn (ha.run pins s σ H _ I h) fun v s1 ⟨x, H1, I1, r1, q1⟩ => args_nil ?_) na) na rfl
  obtain ⟨l, ns, rfl, hq, hl, q1⟩ := q1
  cases r1
  obtain ⟨its, r, pl, hz⟩ := I1.list hq
  have hlen : its.toArray.size = ns.length := by rw [List.size_toArray, ← r.length, List.length_map]
  refine call_set_list (I1.ok.hd hc) pl.isList (by simpa using intsAre_vals r) (by rw [hlen]; unfold scanBound; omega) fun h' tk hS hk => ?_
  refine args_nil ?_
  rw [hlen] at hS
  obtain ⟨o, es, ep, t, ho, hex, hd, _, _, _, hf, hn⟩ := hS
  have I2 : Inv X pins σ H1 { s1 with heap := h', toks := tk } := I1.kept fun b o e => hk b o (Heap.lt_size e) e
  have hle := firstMet_length_le (fun i => ns.getD i 0) ns.length
  exact call_len_set ho hex hd hf (by rw [hn] <;> omega) ⟨.int _, H1, I2.tok _, ⟨_, by rw [hn]⟩, q1⟩
end RZ
namespace Ld
open PySem PySem.Spec PyProof.Rows L2 Lx
theorem ve_lenSetG {K : PySem.W.Frag} {Γ : List Cell} {Θ : List Tmp} {ta : TE} {Q : List Cell → Tmp → Prop} (h : VE K Γ Θ ta fun Γ1 x => ∃ ns : List Int, rd Γ1 x (.list (ns.map .int)) ∧ ns.length ≤ 4000 ∧ Q Γ1 (.dt (.int ((firstMet (fun i => ns.getD i 0) ns.length).length : Nat)))) : VE K Γ Θ (RZ.tLenSetG K ta) Q := fun L S0 σ τ S Qv E k => h L S0 σ τ S _ E fun Γ1 S1 v x E1 ⟨ns, hx, h2, q⟩ => by
  obtain ⟨a, e, h⟩ := intsL E1 hx
  exact ⟨a, ns, e, h, h2, k Γ1 S1 _ _ (E1.pop.push (.int _)) q⟩
end Ld
namespace Ld
open PySem PySem.Spec PyProof.Rows L2 Lx
section
variable {P : Program} {w : World} {K : PySem.W.Frag} {mg : Str → Option Value} {base : Heap}
structure CalRD (P : Program) (w : World) (K : PySem.W.Frag) (mg : Str → Option Value) (base : Heap) (k : Nat) (x : Str) (ps : List Str) (sp : Sp) (d : Int) (f : Addr) (fd : FuncData) : Prop where
  G : FnOk P w K mg base (L2N.CX P w) k f fd ps sp
  g : mg x = some (.ref f)
  kp : PySem.W.keepIn K (.ref f) = true
  b0 : ∃ ds, Vals [] ds ∧ Binds K fd ps ds
  b1 : ∃ ds, Vals [V.int d] ds ∧ Binds K fd ps ds
theorem DfD.calR {k : Nat} {x : Str} {st : Stmt} {ps : List Str} {sp : Sp} {d : Int} {f : Addr} {fd : FuncData} (D : DfD K mg x st ps d f fd) (G : FnOk P w K mg base (L2N.CX P w) k f fd ps sp) : CalRD P w K mg base k x ps sp d f fd := ⟨G, D.g, D.F.kp, D.b0, D.b1⟩
end
end Ld
namespace Sh
open PySem PySem.Spec PyProof.Rows L2 Lx Ld
end Sh
set_option Elab.async false
set_option linter.all false
set_option maxRecDepth 100000
namespace Xa
open PySem PySem.Spec PyProof.Rows L2
def Tab (l : List (Addr × Sp)) (f : Addr) (sp : Sp) : Prop := (f, sp) ∈ l
def CalleeAll (X : Cx) (E : L2.St → XK) (l : List (Addr × Sp)) : Prop := ∀ f sp, Tab l f sp → Callee X E f sp
section
variable {X : Cx} {E : L2.St → XK} {l : List (Addr × Sp)} {f : Addr} {sp : Sp} {k : Nat} {fd : FuncData} {ps : List Str}
theorem cnil : CalleeAll X E [] := fun _ _ h => nomatch h
theorem ccons (h : Callee X E f sp) (r : CalleeAll X E l) : CalleeAll X E ((f, sp) :: l) := fun f' sp' hm => by
  rcases List.mem_cons.mp hm with e | hm
  · cases e
    exact h
  · exact r f' sp' hm
theorem cal0 (F : FnOk X.prog X.w X.K X.mg X.base CX0 k f fd ps sp) (hr : Room k X.A) (hk : PySem.W.keepIn X.K (.ref f) = true) (hb : Binds X.K fd ps []) : Callee X E f sp := ⟨CX0, k, fd, ps, F, hr, hk, hb, fun σ _ _ _ _ _ _ c => False.elim c⟩
theorem calW {W : WX} (F : FnOk X.prog X.w X.K X.mg X.base (L2N.CX X.prog X.w) k f fd ps sp) (hr : Room k X.A) (hk : PySem.W.keepIn X.K (.ref f) = true) (hb : Binds X.K fd ps []) (tk : L2N.Takes X W) : Callee X (fun σ => WE W σ) f sp := ⟨_, k, fd, ps, F, hr, hk, hb, fun σ => L2N.passAt tk σ⟩
end
end Xa
namespace Ld
open PySem PySem.Spec PyProof.Rows L2 Lx
section
variable {K : PySem.W.Frag} {Γ : List Cell} {Θ : List Tmp}
theorem ss_retD {te : Ends → TE} {R : DE} (h : ∀ D ss, VD K Γ (srcT ss) (te D) R.rt) : VSs K Γ (fun D σ H => tRet (te D) D σ H) R := fun ss L S0 σ τ S D E kn kr kb kc => ss_ret (h D) ss L S0 σ τ S D E kn kr kb kc
/-- f(..), f by its name, told as one of a table -/
theorem ve_callRef {T : Addr → Sp → Prop} {E : L2.St → XK} {f : Addr} {ta : TA} {Q : List Cell → Tmp → Prop} {α : Type} {A : α → List Arg} {pre : α → Prop} {post : α → Dat → Prop} (hT : T f (spG K A pre post))
    (h : VAX K Γ Θ ta fun Γ2 as => ∃ x, as = A x ∧ pre x ∧ ∀ d, post x d → Q Γ2 (.dt d)) :
    VE K Γ Θ (Xa.tCallAny T E (tC (.ref f)) ta) Q := by
  intro L S0 σ τ S Qv Ev k
  refine ⟨f, _, rfl, hT, ?_⟩
  exact h L S0 σ τ _ _ Ev fun Γ2 S2 vs as E2 p ⟨x, ex, hp, q⟩ => by
    subst ex
    exact ⟨S2.b, x, E2.sub, p, hp, fun v S' d g s hd hq => k Γ2 S' v _ ((E2.grow g s).push hd) (q d hq)⟩
theorem ss_tryRef {T : Addr → Sp → Prop} {α : Type} {A : α → List Arg} {pre : α → Prop} {C : α → Addr} {c : Value} {n : Nat} {f : Addr} {idx : Addr → Option Int} {args : TA} {R : DE} (hn : n < Γ.length) (hT : T f (spR K A pre C))
    (h : ∀ ss, VAX K Γ (srcT ss) args fun Γ1 as => ∃ x m, as = A x ∧ pre x ∧ PySem.W.exmOne K (.ref (C x)) c = some true ∧ idx (C x) = some m ∧ R.rt Γ1 (.tuple [.str "refused", .int m])) :
    VSs K Γ (fun D σ H => tRet (Xa.tCallAny T (fun σ' cls d H' => L2.wAs K c n (fun a cl d => tRet (tCall (spE idx a cl d) [] E0 (tCons (tVar n) tNil))) (fun _ _ _ _ => False) D cls d σ' H') (tC (.ref f)) args) D σ H) R := fun ss L S0 σ τ S D E kn kr kb kc => by
  refine ⟨f, _, rfl, hT, ?_⟩
  refine h ss L S0 σ τ _ _ E fun Γ1 S1 vs as E1 p ⟨x, m, ex, hp, hc, hn', hq⟩ => ?_
  subst ex
  refine ⟨S1.b, x, E1.sub, p, hp, fun S' g s => ⟨true, hc, fun _ a ha => ?_, fun z => nomatch z⟩⟩
  have hl : n < σ.length := by rw [E.len]; exact hn
  refine ⟨.ref a, List.getElem?_set_self hl, ?_⟩
  refine ⟨rfl, ha, rfl, C x, m, rfl, hn', S'.b, s, fun v S2 g2 s2 hd => ?_⟩
  exact kr Γ1 σ S2 v _ (E1.grow (g.trans0 g2) s2) hd hq
end
end Ld
namespace Sh
open PySem PySem.Spec PyProof.Rows L2 Lx Ld
end Sh
set_option Elab.async false
set_option linter.all false
set_option maxRecDepth 100000
/-! resources: changed in their slot; a line as a resource -/
namespace Ld
open PySem PySem.Spec PyProof.Rows L2 Lx
section
variable {K : PySem.W.Frag} {L : Addr → Prop} {S0 S : Hs} {Γ : List Cell} {Θ : List Tmp} {σ : L2.St} {τ : List V} {w : Wh}
/-- others stand, where only the places of F change -/
theorem keepO {w : Wh} {S S' : Hs} {F : Addr → Prop} {k k' : Sum Nat Nat} {b : Addr} {ds : HO} (g : Gr F S S') (hF : ∀ x, F x → w x = some k) (r : OwnO w k' S b ds) (n : k' ≠ k) : OwnO w k' S' b ds := by
  obtain ⟨nb, e, q⟩ := r
  have ne : ¬ F b := fun h => n (by rw [hF b h] at e; exact (Option.some.inj e).symm)
  exact ⟨g.own b nb (by rw [q]; exact fun z => nomatch z), e, g.h b _ ne q⟩
theorem keepW {w : Wh} {S S' : Hs} {F : Addr → Prop} {k k' : Sum Nat Nat} {b : Addr} {ds : List Dat} (g : Gr F S S') (hF : ∀ x, F x → w x = some k) (r : Own w k' S b ds) (n : k' ≠ k) : Own w k' S' b ds := by
  obtain ⟨nb, e, us, q, p⟩ := r
  have ne : ¬ F b := fun h => n (by rw [hF b h] at e; exact (Option.some.inj e).symm)
  exact ⟨g.own b nb (by rw [q]; exact fun z => nomatch z), e, us, g.h b _ ne q, dpa_mono g.b _ _ p⟩
theorem keepL {w : Wh} {S S' : Hs} {F : Addr → Prop} {k k' : Sum Nat Nat} {b : Addr} {R : Res} {N : Addr → Prop} (g : Gr F S S') (hF : ∀ x, F x → w x = some k) (r : OwnL w k' S b R N) (n : k' ≠ k) : OwnL w k' S' b R N := by
  obtain ⟨G, q, f⟩ := r
  have ne : ∀ x, G x → ¬ F x := fun x hx h => n (by
    have e := (f x hx).2.1
    rw [hF x h] at e; exact (Option.some.inj e).symm)
  refine ⟨G, R.frame q g.b fun x hx => ?_, fun x hx => ⟨g.own x (f x hx).1 (R.dom q hx), (f x hx).2⟩⟩
  cases e : S.h x with
  | none => exact absurd e (R.dom q hx)
  | some u => exact g.h x u (ne x hx) e
open Classical in
/-- the resource in slot i is changed -/
theorem Env.mutLi {R : Res} {i : Nat} (E : Env K L S0 Γ Θ σ τ S) (hi : Γ[i]? = some (.li R)) :
    ∃ a F, σ[i]? = some (some (.ref a)) ∧ R.holds S.b S.h a F ∧ (∀ x, F x → S.b x = none) ∧ ∀ S' R' F', R'.lent = R.lent → Gr F S S' → Same S'.b S'.h → R'.holds S'.b S'.h a F' → (∀ x, F' x → S'.b x = none ∧ (F x ∨ S.h x = none)) →
      Env K L S0 (Γ.set i (.li R')) Θ σ τ S' := by
  obtain ⟨w, h1, h2⟩ := id E.ok
  have hil := (List.getElem?_eq_some_iff.mp hi).1
  obtain ⟨a, ei, F, q, f⟩ := h1 i _ hi
  have hF : ∀ x, F x → w x = some (.inl i) := fun x hx => (f x hx).2.1
  refine ⟨a, F, ei, q, fun x hx => (f x hx).1, fun S' R' F' el g sub q' f' => ?_⟩
  let w' : Wh := fun b => if F' b then some (.inl i) else w b
  have re : ∀ {k : Sum Nat Nat} {x : Addr}, w x = some k → k ≠ .inl i → S.h x ≠ none → w' x = some k := fun {k x} e n d => by
    have nf : ¬ F' x := fun z => (f' x z).2.elim (fun y => n (by rw [hF x y] at e; exact (Option.some.inj e).symm)) d
    show (if F' x then some (Sum.inl i) else w x) = some k
    rw [if_neg nf]; exact e
  have kw : ∀ {k' : Sum Nat Nat} {b : Addr} {ds : List Dat}, Own w k' S b ds → k' ≠ .inl i → Own w' k' S' b ds := fun {k' b ds} r n => by
    have z := keepW g hF r n
    exact ⟨z.nb, re r.at_ n (by obtain ⟨_, u, _⟩ := r.is; rw [u]; exact fun z => nomatch z), z.is⟩
  have ko : ∀ {k' : Sum Nat Nat} {b : Addr} {ds : HO}, OwnO w k' S b ds → k' ≠ .inl i → OwnO w' k' S' b ds := fun {k' b ds} r n => by
    have z := keepO g hF r n
    exact ⟨z.nb, re r.at_ n (by rw [r.is]; exact fun z => nomatch z), z.is⟩
  have kl : ∀ {k' : Sum Nat Nat} {b : Addr} {R : Res} {N : Addr → Prop}, OwnL w k' S b R N → k' ≠ .inl i → OwnL w' k' S' b R N := fun {k' b R N} r n => by
    obtain ⟨G, q1, f1⟩ := id r
    have ne : ∀ x, G x → ¬ F x := fun x hx h => n (by
      have e := (f1 x hx).2.1
      rw [hF x h] at e; exact (Option.some.inj e).symm)
    refine ⟨G, R.frame q1 g.b fun x hx => ?_, fun x hx => ⟨g.own x (f1 x hx).1 (R.dom q1 hx), re (f1 x hx).2.1 n (R.dom q1 hx), (f1 x hx).2.2⟩⟩
    cases e : S.h x with
    | none => exact absurd e (R.dom q1 hx)
    | some u => exact g.h x u (ne x hx) e
  refine ⟨E.gr.trans g fun x hx => (f x hx).2.2.elim .inr fun z => .inl z.2, sub, by rw [List.length_set]; exact E.len, w', fun j c e => ?_, h2.imp fun k u t hk z => ?_⟩
  · by_cases hj : i = j
    · subst hj
      rw [List.getElem?_set_self hil] at e
      cases e
      refine ⟨a, ei, F', q', fun x hx => ⟨(f' x hx).1, if_pos hx, ?_⟩⟩
      rcases (f' x hx).2 with y | y
      · rw [el]; exact (f x y).2.2
      · exact .inl (E.fresh0 y)
    · rw [List.getElem?_set_ne hj] at e
      have nj : (Sum.inl j : Sum Nat Nat) ≠ .inl i := fun z => hj (Sum.inl.inj z).symm
      have z := h1 j c e
      cases c with
      | no => trivial
      | dt d => obtain ⟨v, e, r⟩ := z; exact ⟨v, e, dp_mono g.b _ _ r⟩
      | ow es => obtain ⟨b, e, r, n⟩ := z; exact ⟨b, e, kw r nj, n⟩
      | ln es => obtain ⟨b, e, r, n⟩ := z; exact ⟨b, e, kw r nj, n⟩
      | sc ns => obtain ⟨b, e, r⟩ := z; exact ⟨b, e, g.b.seq r⟩
      | ob pp => obtain ⟨b, e, r, n⟩ := z; exact ⟨b, e, ko r nj, n⟩
      | li R => obtain ⟨b, e, r⟩ := z; exact ⟨b, e, kl r nj⟩
  · have nj : (Sum.inr k : Sum Nat Nat) ≠ .inl i := fun z => nomatch z
    cases t with
    | dt d => exact dp_mono g.b _ _ z
    | fr es => obtain ⟨b, e, r, n⟩ := z; exact ⟨b, e, kw r nj, n⟩
    | br j => exact z
    | sc ns => obtain ⟨b, e, r⟩ := z; exact ⟨b, e, g.b.seq r⟩
    | ob pp => obtain ⟨b, e, r, n⟩ := z; exact ⟨b, e, ko r nj, n⟩
    | li R => obtain ⟨b, e, r⟩ := z; exact ⟨b, e, kl r nj⟩
/-- what the resource in slot i is -/
theorem Env.liAt {R : Res} {i : Nat} (E : Env K L S0 Γ Θ σ τ S) (hi : Γ[i]? = some (.li R)) : ∃ a F, σ[i]? = some (some (.ref a)) ∧ R.holds S.b S.h a F ∧ (∀ x, F x → S.b x = none) := by
  obtain ⟨a, F, h1, h2, h3, _⟩ := E.mutLi hi
  exact ⟨a, F, h1, h2, h3⟩
end
end Ld
set_option Elab.async false
set_option linter.all false
set_option maxRecDepth 100000
/-! a line: its fields, what stands on its shelves, what was done -/
namespace Ld
open PySem PySem.Spec PyProof.Rows L2 Lx Sh
inductive Role where
  | self | out | there | done | st | sh (i : Nat) | dt (j : Nat) | ds (j : Nat) | dh (j i : Nat)
structure Dn where
  name : Str
  num : Option Int
  sts : List (List Int)
  n : Nat
structure LnS where
  sh : List (Bool × Nat)
  st : List (List Int)
  out : List (Option Int)
  there : List Int
  done : List Dn
abbrev vO : Option Int → V
  | none => .non
  | some n => .int n
abbrev thD (ns : List Int) : HO := .dK (ns.map fun n => ((Sum.inl n : Key), V.bl true))
abbrev shD (sh : List (Bool × Nat)) : Dat := .tuple (sh.map sD)
def lf (sv : V) (b o t d : Addr) : List (Str × V) := [("_shelves", sv), ("_standing", .ref b), ("_out", .ref o), ("_there", .ref t), ("_done", .ref d)]
theorem lookup_eq {x : Str} {v : V} {r : List (Str × V)} : List.lookup x ((x, v) :: r) = some v := by
  rw [List.lookup_cons, beq_self_eq_true]
section
variable {sv : V} {b o t d : Addr}
theorem lf_sh : (lf sv b o t d).lookup ("_shelves" : Str) = some sv := lookup_eq
end
/-- a list of lists of whole numbers, each its own place -/
def NestAt (H : Hp) (r : Addr → Option Role) (top : Role) (inn : Nat → Role) (b : Addr) (sts : List (List Int)) : Prop :=
  r b = some top ∧ ∃ xs : List Addr, H b = some (.lst (xs.map V.ref)) ∧ xs.length = sts.length ∧ ∀ i x st, xs[i]? = some x → sts[i]? = some st → r x = some (inn i) ∧ ∃ ys : List Int, H x = some (.lst (ys.map V.int)) ∧ ys.Perm st
def DoneAt (H : Hp) (r : Addr → Option Role) (j : Nat) (p : Addr) (e : Dn) : Prop :=
  r p = some (.dt j) ∧ ∃ oo sb, oo.dict = none ∧ H p = some (.frz oo (.tup [.str e.name, vO e.num, .ref sb, .int e.n])) ∧ NestAt H r (.ds j) (.dh j) sb e.sts
structure LPt (C : Addr) (B H : Hp) (a : Addr) (ℓ : LnS) (r : Addr → Option Role) (dx : Addr) (sv : V) (b o t d : Addr) (ps : List Addr) : Prop where
  dom : ∀ x, r x ≠ none → H x ≠ none
  ra : r a = some .self
  ha : H a = some (.ins C dx (lf sv b o t d))
  sv : Dq B sv (shD ℓ.sh)
  st : NestAt H r .st .sh b ℓ.st
  ro : r o = some .out
  ho : H o = some (.lst (ℓ.out.map vO))
  rt : r t = some .there
  ht : H t = some (thD ℓ.there)
  rd : r d = some .done
  hd : H d = some (.lst (ps.map V.ref))
  pl : ps.length = ℓ.done.length
  pd : ∀ j p e, ps[j]? = some p → ℓ.done[j]? = some e → DoneAt H r j p e
def LAt (C : Addr) (B H : Hp) (a : Addr) (ℓ : LnS) (r : Addr → Option Role) : Prop := ∃ dx sv b o t d ps, LPt C B H a ℓ r dx sv b o t d ps
section
variable {C : Addr} {B B' H H' : Hp} {a : Addr} {ℓ : LnS} {r : Addr → Option Role}
theorem NestAt.frame {top : Role} {inn : Nat → Role} {b : Addr} {sts : List (List Int)} (h : NestAt H r top inn b sts) (f : ∀ x, r x ≠ none → H' x = H x) : NestAt H' r top inn b sts := by
  obtain ⟨h1, xs, h2, h3, h4⟩ := h
  refine ⟨h1, xs, (f b (by rw [h1]; exact fun z => nomatch z)).trans h2, h3, fun i x st e1 e2 => ?_⟩
  obtain ⟨k1, ys, k2, k3⟩ := h4 i x st e1 e2
  exact ⟨k1, ys, (f x (by rw [k1]; exact fun z => nomatch z)).trans k2, k3⟩
theorem LPt.frame {dx : Addr} {sv : V} {b o t d : Addr} {ps : List Addr} (h : LPt C B H a ℓ r dx sv b o t d ps) (s : Same B B') (f : ∀ x, r x ≠ none → H' x = H x) : LPt C B' H' a ℓ r dx sv b o t d ps := by
  have g : ∀ {x : Addr} {ρ : Role} {u : HO}, r x = some ρ → H x = some u → H' x = some u := fun {x ρ u} e q => (f x (by rw [e]; exact fun z => nomatch z)).trans q
  refine ⟨fun x hx => by rw [f x hx]; exact h.dom x hx, h.ra, g h.ra h.ha, dp_mono s _ _ h.sv, h.st.frame f, h.ro, g h.ro h.ho, h.rt, g h.rt h.ht, h.rd, g h.rd h.hd, h.pl, fun j p e e1 e2 => ?_⟩
  obtain ⟨k1, oo, sb, k0, k2, k3⟩ := h.pd j p e e1 e2
  exact ⟨k1, oo, sb, k0, g k1 k2, k3.frame f⟩
end
/-- a line; the one that is lent stands at a known place -/
def lineR (C : Addr) (l : Option Addr) (ℓ : LnS) : Res where
  lent := l.isSome
  holds := fun B H a F => (∀ b, l = some b → a = b) ∧ ∃ r, (∀ x, F x ↔ r x ≠ none) ∧ LAt C B H a ℓ r
  dom := fun {B H a F x} ⟨_, r, e, _, _, _, _, _, _, _, h⟩ hx => h.dom x ((e x).mp hx)
  frame := fun {B B' H H' a F} ⟨el, r, e, dx, sv, b, o, t, d, ps, h⟩ s f => ⟨el, r, e, dx, sv, b, o, t, d, ps, h.frame s fun x hx => f x ((e x).mpr hx)⟩
/-! ### what a method promises -/
end Ld
set_option Elab.async false
set_option linter.all false
set_option maxRecDepth 100000
/-! del xs[a:] -/
namespace L2
open PySem PySem.Spec PyProof.Rows
end L2
set_option Elab.async false
set_option linter.all false
set_option maxRecDepth 100000
/-! len(o), str(o), o == x by defs of the text -/
namespace L2
open PySem PySem.Spec PyProof.Rows
end L2
set_option Elab.async false
set_option linter.all false
set_option maxRecDepth 100000
/-! a line's fields read and changed -/
namespace Ld
open PySem PySem.Spec PyProof.Rows L2 Lx Sh
structure LnC (K : PySem.W.Frag) (C : Addr) : Prop where
  cl : Cls K C
  nsh : NoAttr K C "_shelves"
  nst : NoAttr K C "_standing"
  nout : NoAttr K C "_out"
  nth : NoAttr K C "_there"
  ndn : NoAttr K C "_done"
section
variable {K : PySem.W.Frag} {Γ : List Cell} {Θ : List Tmp} {C : Addr} {l : Option Addr} {ℓ : LnS} {i : Nat}
theorem ve_fldSh {Q : List Cell → Tmp → Prop} (T : LnC K C) (hi : Γ[i]? = some (.li (lineR C l ℓ))) (q : Q Γ (.dt (shD ℓ.sh))) : VE K Γ Θ (tFld K (tVar i) "_shelves") Q := fun L S0 σ τ S Qv E k => by
  obtain ⟨a, F, ea, ⟨_, r, er, dx, sv, b, o, t, d, ps, p⟩, _⟩ := E.liAt hi
  exact ⟨_, ea, a, C, dx, _, sv, rfl, p.ha, T.cl, T.nsh, lf_sh, k Γ S sv _ (E.push p.sv) q⟩
end
end Ld
set_option Elab.async false
set_option linter.all false
set_option maxRecDepth 100000
/-! methods: what stands, what they promise -/
namespace Ld
open PySem PySem.Spec PyProof.Rows L2 Lx Sh
structure DfM (K : PySem.W.Frag) (C : Addr) (m qual : Str) (st : Stmt) (ps : List Str) (f : Addr) (fd : FuncData) : Prop where
  F : Fun K m qual st f fd
  mt : Meth K C m f
  b : Binds K fd ps []
structure CalM (P : Program) (w : World) (K : PySem.W.Frag) (mg : Str → Option Value) (base : Heap) (k : Nat) (C : Addr) (m : Str) (ps : List Str) (sp : Sp) (f : Addr) (fd : FuncData) : Prop where
  G : FnOk P w K mg base CX0 k f fd ps sp
  mt : Meth K C m f
  b : Binds K fd ps []
structure CalMR (P : Program) (w : World) (K : PySem.W.Frag) (mg : Str → Option Value) (base : Heap) (k : Nat) (C : Addr) (m : Str) (ps : List Str) (sp : Sp) (f : Addr) (fd : FuncData) : Prop where
  G : FnOk P w K mg base (L2N.CX P w) k f fd ps sp
  mt : Meth K C m f
  b : Binds K fd ps []
section
variable {P : Program} {w : World} {K : PySem.W.Frag} {mg : Str → Option Value} {base : Heap} {k : Nat} {C : Addr} {m qual : Str} {st : Stmt} {ps : List Str} {sp : Sp} {f : Addr} {fd : FuncData}
theorem DfM.cal (D : DfM K C m qual st ps f fd) (G : FnOk P w K mg base CX0 k f fd ps sp) : CalM P w K mg base k C m ps sp f fd := ⟨G, D.mt, D.b⟩
theorem DfM.calR (D : DfM K C m qual st ps f fd) (G : FnOk P w K mg base (L2N.CX P w) k f fd ps sp) : CalMR P w K mg base k C m ps sp f fd := ⟨G, D.mt, D.b⟩
end
theorem tYes_ok {σ : L2.St} {H : Hp} {A B : Hp → Prop} (h : A H) : tYes σ H fun b H3 => if b = true then A H3 else B H3 := by
  show if true = true then A H else B H
  rw [if_pos rfl]; exact h
end Ld
namespace Ld
open PySem PySem.Spec PyProof.Rows L2 Lx Sh
end Ld
set_option Elab.async false
set_option linter.all false
set_option maxRecDepth 100000
/-! what a line does: mathematics -/
namespace Sh
open PySem PySem.Spec PyProof.Rows L2 Lx Ld
def tot (st : List (List Int)) : Nat := (st.map List.length).sum
end Sh
namespace Sh
end Sh
namespace Sh
end Sh
namespace Ld
open PySem PySem.Spec PyProof.Rows L2 Lx
/-- a, (b, c) = e -/
theorem vg_nest {K : PySem.W.Frag} {Γ : List Cell} {pr : Bool} {i j l : Nat} {x y z : Dat} {Q : List Cell → Prop} (q : Q (((Γ.set i (.dt x)).set j (.dt y)).set l (.dt z))) : VG K pr Γ (gTup K 2 (gCons (gName i) (gCons (gTup K 2 (gCons (gName j) (gCons (gName l) gNil))) gNil))) (.tuple [x, .tuple [y, z]]) Q := fun L S0 Θ σ τ S v R nb E hd k => by
  obtain ⟨a, xs, e, h, p⟩ : ∃ a xs, v = .ref a ∧ SqT K S.h a xs ∧ DqAll S.b xs [x, .tuple [y, z]] := by
    cases pr with
    | false =>
      obtain ⟨a, o, xs, e, _, h, p⟩ := dp_tup (show Dq S.b v (.tuple [x, .tuple [y, z]]) from hd)
      exact ⟨a, xs, e, sqt_f (E.sub _ _ h), p⟩
    | true =>
      obtain ⟨a, xs, ds, e, e2, h, p⟩ := hd
      cases e2
      exact ⟨a, xs, e, .of (E.sub _ _ h), p⟩
  cases p with
  | cons p1 p =>
    cases p with
    | cons p2 p =>
      cases p
      refine ⟨a, _, e, h, rfl, _, _, rfl, _, _, rfl, ?_⟩
      exact vg_pair (pr := false) (Q := fun Γ' => Q Γ') q L S0 Θ _ τ S _ _ nb (E.setDt (nb i) p1) p2 fun Γ' σ' E' z => ⟨rfl, k Γ' σ' E' z⟩
end Ld
namespace Sh
open PySem PySem.Spec PyProof.Rows L2 Lx Ld
end Sh
namespace Sh
open PySem PySem.Spec PyProof.Rows L2 Lx Ld
structure LnOk (ℓ : LnS) : Prop where
  l : ℓ.st.length = ℓ.sh.length
  h8 : ℓ.sh.length ≤ 8
  h9 : ∀ q ∈ ℓ.sh, q.2 ≤ 9
  t : tot ℓ.st ≤ 60
  o : ℓ.out.length ≤ 800
  th : ℓ.there.length ≤ 800
  dn : ℓ.done.length ≤ 800
end Sh
set_option Elab.async false
set_option linter.all false
set_option maxRecDepth 100000
/-! texts: numbers written, joined -/
namespace Ld
open PySem PySem.Spec PyProof.Rows L2 Lx Sh
def rJoin (K : PySem.W.Frag) : V → List V → Hp → VK → Prop := fun x xs H Q => ∃ a p, ∃ ys : List Str, x = .str a ∧ xs = [.ref p] ∧ (SqL K H p (ys.map V.str) ∨ SqT K H p (ys.map V.str)) ∧ (ys.map (·.length)).sum + ys.length * a.length ≤ 16777216 ∧ Q (.str (Txt.join a ys)) H
theorem cm_join {X : Cx} : MtR X "str.join" (rJoin X.K) := mt_join
def rStrI : List V → Hp → VK → Prop := fun xs H Q => ∃ i : Int, xs = [.int i] ∧ i.natAbs.log2 < 1920 ∧ Q (.str (toString i)) H
theorem cl_strI {X : Cx} : CallR X (.type "str") rStrI := call_str_int
def rStrS : List V → Hp → VK → Prop := fun xs H Q => ∃ a, xs = [.str a] ∧ Q (.str a) H
def rAddS : R2 := fun x y H Q => ∃ i j, x = .str i ∧ y = .str j ∧ i.length + j.length ≤ sizeLine ∧ Q (.str (i ++ j)) H
theorem op_addS {X : Cx} : OpR X (binaryOp .Add) rAddS := op_add_str
section
variable {K : PySem.W.Frag} {Γ : List Cell} {Θ : List Tmp}
theorem c1_strI {b : Int} {Q : List Cell → Tmp → Prop} (hb : b.natAbs < 2 ^ 1900) (q : Q Γ (.dt (.str (toString b)))) : C1V K rStrI Γ Θ (.dt (.int b)) Q := fun L S0 σ τ S vx Qv E k =>
  ⟨b, by rw [dp_int E.dt], by
    by_cases h0 : b.natAbs = 0
    · rw [h0]; decide
    · exact Nat.lt_of_lt_of_le ((Nat.log2_lt h0).mpr hb) (by decide), k Γ S _ _ (E.pop.push (.str _)) q⟩
theorem c1_strS {b : Str} {Q : List Cell → Tmp → Prop} (q : Q Γ (.dt (.str b))) : C1V K rStrS Γ Θ (.dt (.str b)) Q := fun L S0 σ τ S vx Qv E k =>
  ⟨b, by rw [dp_str E.dt], k Γ S _ _ (E.pop.push (.str _)) q⟩
theorem r2_addS {x y : Str} {Q : List Cell → Tmp → Prop} (hz : x.length + y.length ≤ sizeLine) (q : Q Γ (.dt (.str (x ++ y)))) : R2V K rAddS Γ Θ (.dt (.str x)) (.dt (.str y)) Q := fun L S0 σ τ S vx vy Qv E k =>
  ⟨x, y, dp_str E.pop.dt, dp_str E.dt, hz, k Γ S _ _ (E.pop.pop.push (.str _)) q⟩
theorem dpa_strs {H : Hp} : ∀ {ns : List Str} {vs : List V}, DqAll H vs (ns.map PyData.str) → vs = ns.map V.str
  | [], _, h => by cases h; rfl
  | n :: ns, _, h => by
    cases h with
    | cons h1 h2 => cases h1; rw [dpa_strs h2]; rfl
/-- sep.join(..) of a list just made -/
theorem ve_join {to te : TE} {Q : List Cell → Tmp → Prop} (h : VE K Γ Θ to fun Γ1 x => ∃ a, x = .dt (.str a) ∧ VE K Γ1 (.dt (.str a) :: Θ) te fun Γ2 y => ∃ ys : List Str, (y = .fr (ys.map .str) ∨ y = .dt (.list (ys.map .str))) ∧ (ys.map (·.length)).sum + ys.length * a.length ≤ 16777216 ∧ Q Γ2 (.dt (.str (Txt.join a ys)))) : VE K Γ Θ (tM1 (rJoin K) to te) Q := fun L S0 σ τ S Qv E k => h L S0 σ τ S _ E fun Γ1 S1 v x E1 ⟨a, ex, h1⟩ => by
  subst ex
  have ev := dp_str E1.dt
  refine ⟨⟨a, ev⟩, h1 L S0 σ _ S1 _ E1 fun Γ2 S2 u y E2 ⟨ys, ey, hz, q⟩ => ?_⟩
  have one : ∃ p, u = .ref p ∧ SqL K S2.h p (ys.map V.str) := by
    rcases ey with rfl | rfl
    · obtain ⟨w, p, e, o, _⟩ := E2.top
      obtain ⟨_, _, us, hu, pu⟩ := o
      have := dpa_strs pu
      subst this
      exact ⟨p, e, .of hu⟩
    · obtain ⟨p, xs, e, hx, px⟩ := dp_list E2.dt
      have := dpa_strs px
      subst this
      exact ⟨p, e, .of (E2.sub _ _ hx)⟩
  obtain ⟨p, eu, hs⟩ := one
  exact ⟨a, p, ys, ev, by rw [eu], .inl hs, hz, k Γ2 S2 _ _ (E2.pop.pop.push (.str _)) q⟩
end
end Ld
namespace Sh
open PySem PySem.Spec PyProof.Rows L2 Lx Ld
/-- a number as a text -/
def numT (n : Int) : Str := (toString n : String)
def wordT : Option Int → Str
  | none => "|"
  | some n => numT n
def rowT (xs : List (Option Int)) : Str := if xs = [] then "none" else Txt.join " " (xs.map wordT)
theorem numT_len : ∀ {n : Int}, n.natAbs < 200 → (numT n).length ≤ 4 := by
  have h : ∀ k : Fin 400, (numT ((k.val : Int) - 200)).length ≤ 5 ∧ ((k.val : Int) - 200 = -200 ∨ (numT ((k.val : Int) - 200)).length ≤ 4) := by decide +kernel
  intro n hn
  have := h ⟨(n + 200).toNat, by omega⟩
  have e : (((n + 200).toNat : Nat) : Int) - 200 = n := by omega
  dsimp only at this
  rw [e] at this
  rcases this.2 with h | h
  · omega
  · exact h
theorem numT_neg : ∀ {n : Int}, n.natAbs < 200 → n < 0 → ("-" : Str) ++ numT (-n) = numT n := by
  have h : ∀ k : Fin 200, k.val = 0 ∨ ("-" : Str) ++ numT (k.val : Int) = numT (-(k.val : Int)) := by decide +kernel
  intro n hn h0
  have := h ⟨(-n).toNat, by omega⟩
  have e : (((-n).toNat : Nat) : Int) = -n := by omega
  dsimp only at this
  rw [e] at this
  rcases this with h | h
  · omega
  · rw [h, Int.neg_neg]
theorem join_nil (a : Str) : Txt.join a [] = Str.empty := rfl
theorem words_sum {xs : List (Option Int)} (h : ∀ n, some n ∈ xs → n.natAbs < 200) : ((xs.map wordT).map (·.length)).sum ≤ 4 * xs.length := by
  induction xs with
  | nil => simp
  | cons x xs ih =>
    have h1 := ih fun n hn => h n (List.mem_cons_of_mem _ hn)
    have h2 : (wordT x).length ≤ 4 := by
      cases x with
      | none => decide +kernel
      | some n => exact numT_len (h n (by simp))
    simp only [List.map_cons, List.sum_cons, List.length_cons] at h1 ⊢
    omega
end Sh
set_option Elab.async false
set_option linter.all false
set_option maxRecDepth 100000
/-! a line is made, told, compared -/
namespace Ld
open PySem PySem.Spec PyProof.Rows L2 Lx Sh
end Ld
namespace Ld
open PySem PySem.Spec PyProof.Rows L2 Lx Sh
/-- a line that stands still, read as data -/
def frzR (C : Addr) (ℓ : LnS) (yss : List (List Int)) : Res where
  lent := false
  holds := fun B H a F => (∀ x, ¬ F x) ∧ ∃ dx sv b o t d, B a = some (.ins C dx (lf sv b o t d)) ∧ Dq B sv (shD ℓ.sh) ∧ Dq B (.ref b) (.list (yss.map fun s => .list (iL s))) ∧ Dq B (.ref o) (.list (oL ℓ.out))
  dom := fun {B H a F x} h hx => absurd hx (h.1 x)
  frame := fun {B B' H H' a F} ⟨n, dx, sv, b, o, t, d, h1, h2, h4, h5⟩ s _ => ⟨n, dx, sv, b, o, t, d, s _ _ h1, dp_mono s _ _ h2, dp_mono s _ _ h4, dp_mono s _ _ h5⟩
theorem dqa_ofOL {B : Hp} : ∀ out : List (Option Int), DqAll B (out.map vO) (oL out)
  | [] => .nil
  | none :: out => .cons .non (dqa_ofOL out)
  | some n :: out => .cons (.int n) (dqa_ofOL out)
theorem NestAt.lists {B H : Hp} {r : Addr → Option Role} {top : Role} {inn : Nat → Role} {b : Addr} {sts : List (List Int)} (h : NestAt H r top inn b sts) (e : ∀ x, r x ≠ none → B x = H x) : ∃ yss : List (List Int), yss.map asc = sts.map asc ∧ Dq B (.ref b) (.list (yss.map fun s => .list (iL s))) := by
  obtain ⟨h1, xs, h2, h3, h4⟩ := h
  have go : ∀ (ys : List Addr) (ts : List (List Int)), ys.length = ts.length → (∀ (i : Nat) x st, ys[i]? = some x → ts[i]? = some st → ∃ zs : List Int, B x = some (.lst (zs.map V.int)) ∧ zs.Perm st) →
      ∃ yss : List (List Int), yss.map asc = ts.map asc ∧ DqAll B (ys.map V.ref) (yss.map fun s => PyData.list (iL s)) := by
    intro ys
    induction ys with
    | nil => intro ts hl _; cases ts with | nil => exact ⟨[], rfl, .nil⟩ | cons _ _ => cases hl
    | cons y ys ih =>
      intro ts hl hh
      cases ts with
      | nil => cases hl
      | cons s ts =>
        obtain ⟨zs, k1, k2⟩ := hh 0 y s rfl rfl
        obtain ⟨yss, m1, m2⟩ := ih ts (by simpa using hl) fun i x st e1 e2 => hh (i + 1) x st e1 e2
        exact ⟨zs :: yss, by rw [List.map_cons, List.map_cons, asc_of_perm k2, m1], .cons (.lst k1 (dpa_of_ints zs)) m2⟩
  obtain ⟨yss, m1, m2⟩ := go xs sts h3 fun i x st e1 e2 => by
    obtain ⟨k1, zs, k2, k3⟩ := h4 i x st e1 e2
    exact ⟨zs, (e x (by rw [k1]; exact fun z => nomatch z)).trans k2, k3⟩
  exact ⟨yss, m1, .lst ((e b (by rw [h1]; exact fun z => nomatch z)).trans h2) m2⟩
section
variable {C : Addr} {B H : Hp} {a : Addr} {ℓ : LnS} {r : Addr → Option Role} {dx : Addr} {sv : V} {b o t d : Addr} {ps : List Addr}
/-- the line's places are frozen -/
def frzB (r : Addr → Option Role) (B H : Hp) : Hp := fun x => if (r x).isSome then H x else B x
theorem frzB_at {x : Addr} (h : r x ≠ none) : frzB r B H x = H x := by
  show (if (r x).isSome then H x else B x) = H x
  rw [if_pos (Option.isSome_iff_ne_none.mpr h)]
theorem frzB_no {x : Addr} (h : r x = none) : frzB r B H x = B x := by
  show (if (r x).isSome then H x else B x) = B x
  rw [h]; rfl
theorem frzB_b (nb : ∀ x, r x ≠ none → B x = none) : Same B (frzB r B H) := fun x u e => by
  by_cases h : r x = none
  · rw [frzB_no h]; exact e
  · rw [nb x h] at e; cases e
theorem LPt.frz (p : LPt C B H a ℓ r dx sv b o t d ps) (nb : ∀ x, r x ≠ none → B x = none) : ∃ yss : List (List Int), yss.map asc = ℓ.st.map asc ∧ (frzR C ℓ yss).holds (frzB r B H) H a (fun _ => False) := by
  have at_ : ∀ {x : Addr} {ρ : Role} {u : HO}, r x = some ρ → H x = some u → frzB r B H x = some u := fun {x ρ u} h e => (frzB_at (by rw [h]; exact fun z => nomatch z)).trans e
  obtain ⟨yss, h1, h2⟩ := p.st.lists (B := frzB r B H) fun x hx => frzB_at hx
  exact ⟨yss, h1, (fun _ z => z), dx, sv, b, o, t, d, at_ p.ra p.ha, dp_mono (frzB_b nb) _ _ p.sv, h2, .lst (at_ p.ro p.ho) (dqa_ofOL _)⟩
end
end Ld
set_option Elab.async false
set_option linter.all false
set_option maxRecDepth 100000
/-! lines compared -/
namespace Sh
open PySem PySem.Spec PyProof.Rows L2 Lx Ld
theorem wd_eq {a b : Bool} : wd a = wd b ↔ a = b := by
  constructor
  · intro h
    cases a <;> cases b <;> first | rfl | exact absurd h (by decide +kernel)
  · intro h; rw [h]
theorem shp_wd (l : Bool) : Shp 1 (.str (wd l)) := by cases l <;> exact ⟨by decide +kernel, by decide +kernel⟩
theorem shp_sD (p : Bool × Nat) : Shp 2 (sD p) := shp_tup fun d h => by
  rcases List.mem_cons.mp h with rfl | h
  · exact shp_wd _
  rcases List.mem_cons.mp h with rfl | h
  · exact shp_int _
  cases h
theorem shp_shD (p : List (Bool × Nat)) : Shp 3 (shD p) := shp_tup fun d h => by
  obtain ⟨i, _, rfl⟩ := List.mem_map.mp h
  exact shp_sD i
end Sh
namespace Ld
open PySem PySem.Spec PyProof.Rows L2 Lx Sh
/-- what isinstance and == ask of the class -/
structure LnI (K : PySem.W.Frag) (C : Addr) : Prop where
  ic : C8.InsC K C
  ks : PySem.W.kitOne K (.type "str") (.ref C) = some false
  nf : PySem.W.notFirst K C (.type "str") = true
end Ld
namespace Ld
open PySem PySem.Spec PyProof.Rows L2 Lx Sh
end Ld
set_option Elab.async false
set_option linter.all false
set_option maxRecDepth 100000
/-! methods that raise; a def that is handed a line second; a comprehension over what changes -/
namespace Xa
open PySem PySem.Spec PyProof.Rows L2
/-- what raises nothing may stand where exceptions pass -/
theorem fn_any {P : Program} {w : World} {K : PySem.W.Frag} {mg : Str → Option Value} {base : Heap} {CX : CXT} {k : Nat} {f : Addr} {fd : FuncData} {ps : List Str} {sp : Sp} (F : FnOk P w K mg base CX0 k f fd ps sp) : FnOk P w K mg base CX k f fd ps sp :=
  ⟨F.len, fun A outer s H args us vs Q E hr he hb hv h => codeAny_mono (F.run A outer s H args us vs Q E hr he hb hv h) fun r s' hq => by
    cases r with
    | error e => exact (hq : False).elim
    | ok fl => cases fl <;> exact hq⟩
end Xa
namespace Ld
open PySem PySem.Spec PyProof.Rows L2 Lx Sh
/-! a def whose second thing is a line -/
section
variable {K : PySem.W.Frag} {Γ : List Cell} {Θ : List Tmp} {C : Addr} {l : Option Addr} {ℓ : LnS}
/-- try: return A if c else B -/
theorem ss_tryIfE {tt : TT} {X Y : Ends → TE} {R : DE} (b : Bool) (h : ∀ ss, VT K Γ (srcT ss) tt fun Γ1 c => c = b ∧ Γ1 = Γ) (q1 : b = true → VSs K Γ (fun D σ H => tRet (X D) D σ H) R) (q2 : b = false → VSs K Γ (fun D σ H => tRet (Y D) D σ H) R) :
    VSs K Γ (fun D σ H => tRet (tIf tt (X D) (Y D)) D σ H) R := fun ss L S0 σ τ S D E kn kr kb kc => by
  refine h ss L S0 σ τ S _ E fun Γ1 S1 c E1 ⟨e1, e2⟩ => ?_
  subst e1
  subst e2
  cases c with
  | true =>
    rw [if_pos rfl]
    exact q1 rfl ss L S0 σ τ S1 D E1 kn kr kb kc
  | false =>
    rw [if_neg Bool.false_ne_true]
    exact q2 rfl ss L S0 σ τ S1 D E1 kn kr kb kc
/-- what stands between two statements, said -/
theorem ss_seqM {s1 s2 : TS} {R : DE} (P : List Cell → Prop) (h1 : VSs K Γ s1 ⟨P, R.rt, R.bk, R.ct⟩) (h2 : ∀ Γ', P Γ' → VSs K Γ' s2 R) : VSs K Γ (tSeq s1 s2) R := fun ss L S0 σ τ S D E kn kr kb kc =>
  h1 ss L S0 σ τ S _ E (fun Γ' σ' S' E' p => h2 Γ' p ss L S0 σ' τ S' D E' kn kr kb kc) kr kb kc
end
end Ld
set_option Elab.async false
set_option linter.all false
set_option maxRecDepth 100000
/-! lines taken back: twins, calls in a try, what a line shows -/
namespace Sh
open PySem PySem.Spec PyProof.Rows L2 Lx Ld
end Sh
namespace Ld
open PySem PySem.Spec PyProof.Rows L2 Lx Sh
end Ld
set_option Elab.async false
set_option linter.all false
set_option maxRecDepth 100000
/-! calls of a line, one after another, taken back -/
namespace Sh
open PySem PySem.Spec PyProof.Rows L2 Lx Ld
abbrev Srt (st : List (List Int)) : Prop := ∀ s ∈ st, asc s = s
theorem Srt.map {st : List (List Int)} (h : Srt st) : st.map asc = st := by
  have : st.map asc = st.map id := List.map_congr_left fun s hs => h s hs
  rw [this, List.map_id]
section
variable {P : Int → Prop}
abbrev AllS (P : Int → Prop) (st : List (List Int)) : Prop := ∀ s ∈ st, ∀ n ∈ s, P n
end
/-- what is known of a line after k calls -/
structure Gd (ℓ : LnS) (k : Nat) : Prop where
  l : ℓ.st.length = ℓ.sh.length
  h8 : ℓ.sh.length ≤ 8
  h9 : ∀ q ∈ ℓ.sh, q.2 ≤ 9
  sr : Srt ℓ.st
  n : tot ℓ.st + ℓ.out.length ≤ 2 * k
  t : tot ℓ.st ≤ k
  th : ℓ.there.length ≤ k
  dn : ℓ.done.length = k
  vs : AllS (fun n => n.natAbs < 200) ℓ.st
  vo : ∀ n, some n ∈ ℓ.out → n.natAbs < 200
  vt : ∀ n ∈ ℓ.there, n < 30
theorem Gd.ok {ℓ : LnS} {k : Nat} (g : Gd ℓ k) (hk : k ≤ 60) : LnOk ℓ := ⟨g.l, g.h8, g.h9, by have := g.t; omega, by have := g.n; omega, by have := g.th; omega, by have := g.dn; omega⟩
/-! one call after another -/
end Sh
namespace Ld
open PySem PySem.Spec PyProof.Rows L2 Lx Sh
end Ld
namespace Sh
open PySem PySem.Spec PyProof.Rows L2 Lx Ld
theorem shp_str {x : Str} (h : PyData.strOk x = true) : Shp 1 (.str x) := ⟨by simpa only [PyData.canLay0] using h, by simp [PyData.depth]⟩
theorem strOk_app {a b : Str} (h : PyData.strOk a = true) (g : PyData.strOk b = true) : PyData.strOk (a ++ b) = true := by
  unfold PyData.strOk at *
  show (a.cps ++ b.cps).all _ = true
  rw [Array.all_append, h, g]; rfl
theorem numT_ok {n : Int} (h : n.natAbs < 200) : PyData.strOk (numT n) = true := by
  have hh : ∀ k : Fin 400, PyData.strOk (numT ((k.val : Int) - 200)) = true := by decide +kernel
  have := hh ⟨(n + 200).toNat, by omega⟩
  have e : (((n + 200).toNat : Nat) : Int) - 200 = n := by omega
  dsimp only at this
  rw [e] at this
  exact this
theorem wordT_ok {o : Option Int} (h : ∀ n, o = some n → n.natAbs < 200) : PyData.strOk (wordT o) = true := by
  cases o with
  | none => decide +kernel
  | some n => exact numT_ok (h n rfl)
theorem join_ok : ∀ (ws : List Str), (∀ w ∈ ws, PyData.strOk w = true) → PyData.strOk (Str.join " " ws) = true
  | [], _ => by decide +kernel
  | [w], h => h w List.mem_cons_self
  | w :: v :: r, h => strOk_app (strOk_app (h w List.mem_cons_self) (by decide +kernel)) (join_ok (v :: r) fun u hu => h u (List.mem_cons_of_mem _ hu))
theorem rowT_ok {xs : List (Option Int)} (h : ∀ n, some n ∈ xs → n.natAbs < 200) : PyData.strOk (rowT xs) = true := by
  unfold rowT
  by_cases e : xs = []
  · rw [if_pos e]; decide +kernel
  · rw [if_neg e, show Txt.join " " (xs.map wordT) = Str.join " " (xs.map wordT) from StrLaws.glued_eq_join _ _]
    refine join_ok _ fun w hw => ?_
    obtain ⟨o, ho, rfl⟩ := List.mem_map.mp hw
    exact wordT_ok fun n hn => h n (hn ▸ ho)
end Sh
set_option Elab.async false
set_option linter.all false
set_option maxRecDepth 100000
/-! a line is told number by number; a row goes past shelf by shelf: the same -/
namespace Sh
open PySem PySem.Spec PyProof.Rows L2 Lx Ld
end Sh
namespace Sh
open PySem PySem.Spec PyProof.Rows L2 Lx Ld
/-! told from a shelf on, as a law may tell it -/
structure OnOk (sh : List (Bool × Nat)) (st : List (List Int)) (xs : List Int) : Prop where
  l : st.length = sh.length
  sr : Srt st
  cap : ∀ (i : Nat) (q : Bool × Nat) (s : List Int), sh[i]? = some q → st[i]? = some s → s.length ≤ q.2
  nd : (st.flatten ++ xs).Nodup
end Sh
namespace Sh
open PySem PySem.Spec PyProof.Rows L2 Lx Ld
section
variable {sh : List (Bool × Nat)} {st : List (List Int)} {k : Nat} {q : Bool × Nat} {s : List Int} {x : Int}
theorem drop_get {α : Type} {l : List α} {k : Nat} {a : α} (h : l[k]? = some a) : l.drop k = a :: l.drop (k + 1) := by
  obtain ⟨hk, e⟩ := List.getElem?_eq_some_iff.mp h
  rw [List.drop_eq_getElem_cons hk, e]
theorem set_eq {α : Type} {l : List α} {k : Nat} {a b : α} (h : l[k]? = some a) : l.set k b = l.take k ++ b :: l.drop (k + 1) := by
  have hk := (List.getElem?_eq_some_iff.mp h).1
  rw [List.set_eq_take_append_cons_drop, if_pos hk]
end
end Sh
namespace Sh
open PySem PySem.Spec PyProof.Rows L2 Lx Ld
end Sh
namespace Sh
open PySem PySem.Spec PyProof.Rows L2 Lx Ld
end Sh
namespace Sh
open PySem PySem.Spec PyProof.Rows L2 Lx Ld
theorem OnOk.put {sh : List (Bool × Nat)} {st : List (List Int)} {k : Nat} {q : Bool × Nat} {s S : List Int} {x g : Int} {r : List Int} (ok : OnOk sh st (x :: r)) (hq : sh[k]? = some q) (hs : st[k]? = some s) (sS : asc S = S) (sl : S.length ≤ q.2) (pm : (S ++ [g]).Perm (s ++ [x])) : OnOk sh (st.set k S) [g] := by
  have hk := (List.getElem?_eq_some_iff.mp hs).1
  refine ⟨by rw [List.length_set]; exact ok.l, fun u hu => ?_, fun i p u e1 e2 => ?_, ?_⟩
  · rcases List.mem_or_eq_of_mem_set hu with h | h
    · exact ok.sr u h
    · rw [h]; exact sS
  · by_cases h : k = i
    · subst h
      rw [List.getElem?_set_self hk] at e2
      cases e2
      rw [hq] at e1
      cases e1
      exact sl
    · rw [List.getElem?_set_ne h] at e2
      exact ok.cap i p u e1 e2
  · have e1 : st.flatten = (st.take k).flatten ++ (s ++ (st.drop (k + 1)).flatten) := by
      rw [← List.flatten_cons, ← drop_get hs, ← List.flatten_append, List.take_append_drop]
    have e2 : (st.set k S).flatten = (st.take k).flatten ++ (S ++ (st.drop (k + 1)).flatten) := by
      rw [set_eq hs, List.flatten_append, List.flatten_cons]
    have h1 : (st.flatten ++ [x]).Nodup := List.Nodup.sublist ((List.Sublist.refl _).append ((List.nil_sublist r).cons₂ x)) ok.nd
    refine (List.Perm.nodup_iff ?_).mpr h1
    rw [e1, e2, List.append_assoc, List.append_assoc, List.append_assoc, List.append_assoc]
    refine List.Perm.append_left _ ?_
    have p1 : (S ++ ((st.drop (k + 1)).flatten ++ [g])).Perm ((S ++ [g]) ++ (st.drop (k + 1)).flatten) := by
      rw [List.append_assoc]
      exact List.Perm.append_left _ List.perm_append_comm
    have p2 : ((s ++ [x]) ++ (st.drop (k + 1)).flatten).Perm (s ++ ((st.drop (k + 1)).flatten ++ [x])) := by
      rw [List.append_assoc]
      exact List.Perm.append_left _ List.perm_append_comm
    exact p1.trans ((pm.append_right _).trans p2)
end Sh
namespace Ld
open PySem PySem.Spec PyProof.Rows L2 Lx Sh
end Ld
namespace Sh
open PySem PySem.Spec PyProof.Rows L2 Lx Ld
end Sh
set_option Elab.async false
set_option linter.all false
set_option maxRecDepth 100000
/-! a line told a row, step by step -/
namespace Sh
open PySem PySem.Spec PyProof.Rows L2 Lx Ld
end Sh
namespace Sh
open PySem PySem.Spec PyProof.Rows L2 Lx Ld
theorem OnOk.sub {sh : List (Bool × Nat)} {st : List (List Int)} {xs ys : List Int} (h : OnOk sh st ys) (s : xs.Sublist ys) : OnOk sh st xs := ⟨h.l, h.sr, h.cap, List.Nodup.sublist ((List.Sublist.refl _).append s) h.nd⟩
end Sh
namespace Ld
open PySem PySem.Spec PyProof.Rows L2 Lx Sh
end Ld
namespace Ld
open PySem PySem.Spec PyProof.Rows L2 Lx Sh
end Ld
namespace Sh
open PySem PySem.Spec PyProof.Rows L2 Lx Ld
end Sh
set_option Elab.async false
set_option linter.all false
set_option maxRecDepth 100000
/-! texts taken apart -/
namespace Ld
open PySem PySem.Spec PyProof.Rows L2 Lx Sh TL
def rSplit : V → List V → Hp → VK → Prop := fun x xs H Q => ∃ a b, x = .str a ∧ xs = [.str b] ∧ (b.length == 0) = false ∧ a.length + 2 ≤ sizeLine ∧ rNewStrs (Txt.split a b) H Q
theorem cm_split {X : Cx} : MtR X "str.split" rSplit := mt_split
def rRmp : V → List V → Hp → VK → Prop := fun x xs H Q => ∃ a b, x = .str a ∧ xs = [.str b] ∧ a.length ≤ sizeLine ∧ Q (.str (Txt.removeprefix a b)) H
theorem cm_rmp {X : Cx} : MtR X "str.removeprefix" rRmp := mt_removeprefix
def rInS : R2 := fun x y H Q => ∃ (c : Nat) (z : Str), x = .str ⟨#[c]⟩ ∧ y = .str z ∧ Q (.bl (decide (c ∈ z.cps.toList))) H
theorem op_inS {X : Cx} : OpR X (compareOp .In) rInS := op_in_sign
def rNotInS : R2 := fun x y H Q => ∃ (c : Nat) (z : Str), x = .str ⟨#[c]⟩ ∧ y = .str z ∧ Q (.bl (!decide (c ∈ z.cps.toList))) H
theorem op_notInS {X : Cx} : OpR X (compareOp .NotIn) rNotInS := op_notIn_sign
def rIntS : List V → Hp → VK → Prop := fun xs H Q => ∃ a n, xs = [.str a] ∧ PySem.intText? a = some n ∧ a.length ≤ 640 ∧ Q (.int n) H
theorem cl_intS {X : Cx} : CallR X (.type "int") rIntS := call_int_str
abbrev sgn (c : Nat) : Str := ⟨#[c]⟩
section
variable {K : PySem.W.Frag} {Γ : List Cell} {Θ : List Tmp}
theorem dqa_ofStrs {H : Hp} : ∀ ns : List Str, DqAll H (ns.map V.str) (ns.map PyData.str)
  | [] => .nil
  | n :: ns => .cons (.str n) (dqa_ofStrs ns)
theorem ve_split {to te : TE} {Q : List Cell → Tmp → Prop} (h : VE K Γ Θ to fun Γ1 x => ∃ a, x = .dt (.str a) ∧ VE K Γ1 (.dt (.str a) :: Θ) te fun Γ2 y => ∃ b, y = .dt (.str b) ∧ (b.length == 0) = false ∧ a.length + 2 ≤ sizeLine ∧ Q Γ2 (.fr ((Txt.split a b).map .str))) : VE K Γ Θ (tM1 rSplit to te) Q := fun L S0 σ τ S Qv E k => h L S0 σ τ S _ E fun Γ1 S1 v x E1 ⟨a, ex, h1⟩ => by
  subst ex
  have ev := dp_str E1.dt
  refine ⟨⟨a, ev⟩, h1 L S0 σ _ S1 _ E1 fun Γ2 S2 u y E2 ⟨b, ey, hb, hz, q⟩ => ?_⟩
  subst ey
  have eu := dp_str E2.dt
  exact ⟨a, b, ev, by rw [eu], hb, hz, fun p hp => k Γ2 _ _ _ (E2.pop.pop.newLst hp (dqa_ofStrs _)) q⟩
theorem ve_rmp {to te : TE} {Q : List Cell → Tmp → Prop} (h : VE K Γ Θ to fun Γ1 x => ∃ a, x = .dt (.str a) ∧ VE K Γ1 (.dt (.str a) :: Θ) te fun Γ2 y => ∃ b, y = .dt (.str b) ∧ a.length ≤ sizeLine ∧ Q Γ2 (.dt (.str (Txt.removeprefix a b)))) : VE K Γ Θ (tM1 rRmp to te) Q := fun L S0 σ τ S Qv E k => h L S0 σ τ S _ E fun Γ1 S1 v x E1 ⟨a, ex, h1⟩ => by
  subst ex
  have ev := dp_str E1.dt
  refine ⟨⟨a, ev⟩, h1 L S0 σ _ S1 _ E1 fun Γ2 S2 u y E2 ⟨b, ey, hz, q⟩ => ?_⟩
  subst ey
  have eu := dp_str E2.dt
  exact ⟨a, b, ev, by rw [eu], hz, k Γ2 _ _ _ (E2.pop.pop.push (.str _)) q⟩
theorem r2_inS {c : Nat} {z : Str} {Q : List Cell → Tmp → Prop} (q : Q Γ (.dt (.bool (decide (c ∈ tl z))))) : R2V K rInS Γ Θ (.dt (.str (sgn c))) (.dt (.str z)) Q := fun L S0 σ τ S vx vy Qv E k =>
  ⟨c, z, dp_str E.pop.dt, dp_str E.dt, k Γ S _ _ (E.pop.pop.push (.bl _)) q⟩
theorem r2_notInS {c : Nat} {z : Str} {Q : List Cell → Tmp → Prop} (q : Q Γ (.dt (.bool (!decide (c ∈ tl z))))) : R2V K rNotInS Γ Θ (.dt (.str (sgn c))) (.dt (.str z)) Q := fun L S0 σ τ S vx vy Qv E k =>
  ⟨c, z, dp_str E.pop.dt, dp_str E.dt, k Γ S _ _ (E.pop.pop.push (.bl _)) q⟩
theorem c1_intS {b : Str} {n : Int} {Q : List Cell → Tmp → Prop} (hn : PySem.intText? b = some n) (hl : b.length ≤ 640) (q : Q Γ (.dt (.int n))) : C1V K rIntS Γ Θ (.dt (.str b)) Q := fun L S0 σ τ S vx Qv E k =>
  ⟨b, n, by rw [dp_str E.dt], hn, hl, k Γ S _ _ (E.pop.push (.int _)) q⟩
theorem r2_ixStr {z : Str} {i : Int} {c : Nat} {Q : List Cell → Tmp → Prop} (hz : z.length ≤ sizeLine) (h : atI (tl z) i = some c) (q : Q Γ (.dt (.str (sgn c)))) : R2V K rIxS Γ Θ (.dt (.str z)) (.dt (.int i)) Q := fun L S0 σ τ S vx vy Qv E k =>
  ⟨z, i, c, dp_str E.pop.dt, dp_int E.dt, hz, h, k Γ S _ _ (E.pop.pop.push (.str _)) q⟩
theorem vi_str {te : TE} {Q : List Cell → Bool → List Dat → Prop} (h : VE K Γ Θ te fun Γ1 x => ∃ z : Str, x = .dt (.str z) ∧ Q Γ1 false ((tl z).map fun c => .str (sgn c))) : VI K Γ Θ (iStr te) Q := fun L S0 σ τ S R E k => h L S0 σ τ S _ E fun Γ1 S1 v x E1 ⟨z, ex, q⟩ => by
  subst ex
  have ev := dp_str E1.dt
  have hl : ((tl z).map fun c => PyData.str (sgn c)).length = z.cps.size := by rw [List.length_map]; exact Array.length_toList
  refine ⟨z, ev, k Γ1 [] [] S1 _ false _ E1.pop rfl ⟨fun S i _ _ hi => ?_, fun S _ _ => ?_, fun S i x H' sub _ hi y => ?_⟩ q⟩
  · rw [hl] at hi; exact hi
  · show z.cps.size ≤ _
    rw [hl]; exact Nat.le_refl _
  · obtain ⟨rfl, c, hc, rfl⟩ := y
    refine ⟨S, .str (sgn c), rfl, Gr.refl _ _, sub, ?_, .str _⟩
    rw [List.getElem?_map]
    show Option.map _ (z.cps.toList[i]?) = _
    rw [Array.getElem?_toList, hc]; rfl
theorem str_len (x y : Str) : (x ++ y).length = x.length + y.length := by
  rw [len_tl, tl_append, List.length_append, ← len_tl, ← len_tl]
theorem empty_app (a : Str) : Str.empty ++ a = a := ext_tl (by rw [tl_append]; rfl)
/-- f"{a} {b}" -/
theorem ve_join3 {ta tb : TE} {m : Str} {Q : List Cell → Tmp → Prop} (hm : m.length ≤ 1000) (h : VE K Γ Θ ta fun Γ1 x => ∃ a, x = .dt (.str a) ∧ a.length ≤ 1000 ∧ VE K Γ1 Θ tb fun Γ2 y => ∃ b : Int, y = .dt (.int b) ∧ b.natAbs < 200 ∧ Q Γ2 (.dt (.str (a ++ m ++ numT b)))) :
    VE K Γ Θ (fun σ H Q => tJs [tFmt ta, tC (.str m), tFmt tb] Str.empty σ H fun out H1 => Q (.str out) H1) Q := fun L S0 σ τ S Qv E k => by
  refine h L S0 σ τ S _ E fun Γ1 S1 v x E1 ⟨a, ex, ha, h1⟩ => ?_
  subst ex
  refine .inl ⟨a, dp_str E1.dt, gl_le (by omega), a, rfl, by rw [empty_app]; exact gl_le (by omega), ?_⟩
  rw [empty_app]
  refine ⟨m, rfl, by rw [str_len]; exact gl_le (by omega), ?_⟩
  refine h1 L S0 σ τ S1 _ E1.pop fun Γ2 S2 u y E2 ⟨b, ey, hb, q⟩ => ?_
  subst ey
  have h4 := numT_len hb
  refine .inr ⟨b, dp_int E2.dt, ?_, numT b, rfl, by rw [str_len, str_len]; exact gl_le (by omega), k Γ2 S2 _ _ (E2.pop.push (.str _)) q⟩
  by_cases h0 : b.natAbs = 0
  · rw [h0]; decide
  · exact Nat.lt_of_lt_of_le ((Nat.log2_lt h0).mpr (Nat.lt_of_lt_of_le hb (by decide : 200 ≤ 2 ^ 8))) (by decide)
end
end Ld
set_option Elab.async false
set_option linter.all false
set_option maxRecDepth 100000
/-! what a text writes -/
namespace Sh
open PySem PySem.Spec PyProof.Rows L2 Lx Ld TL
def dgs (w : Str) : Str := Txt.removeprefix w "-"
def digC (c : Nat) : Bool := decide (c ∈ tl "0123456789")
def digB (x : Str) : Bool := !decide (x = "") && (tl x).all digC
def zeroB (w : Str) : Bool := decide ((tl (dgs w)).head? = some 48) && !decide (w = "0")
def numB (w : Str) : Bool := digB (dgs w) && !zeroB w
def digV (l : List Nat) : Int := l.foldl (fun (a : Int) (c : Nat) => 10 * a + ((c : Int) - 48)) 0
def numV (w : Str) : Int := if w = dgs w then digV (tl (dgs w)) else -digV (tl (dgs w))
def wordB (w : Str) : Bool := decide (w = "|") || numB w
def wordV (w : Str) : Option Int := if w = "|" then none else some (numV w)
def rowW (x : Str) : List Str := Txt.split x " "
def rowV (x : Str) : List (Option Int) := if x = "none" then [] else (rowW x).map wordV
def rowB (x : Str) : Bool := decide (x = "none") || (rowW x).all wordB
def shB (t : Str) : Bool := decide ((rowW t).length = 2) && numB ((rowW t).getD 1 "")
def shV (t : Str) : Dat := .tuple [.str ((rowW t).getD 0 ""), .int (numV ((rowW t).getD 1 ""))]
theorem digC_iff {c : Nat} : digC c = true ↔ 48 ≤ c ∧ c ≤ 57 := by
  unfold digC
  rw [decide_eq_true_iff, show tl "0123456789" = [48, 49, 50, 51, 52, 53, 54, 55, 56, 57] by decide +kernel]
  simp only [List.mem_cons, List.not_mem_nil, or_false]
  omega
theorem int_dig {c : Nat} (h : digC c = true) : PySem.intText? (sgn c) = some ((c : Int) - 48) := by
  obtain ⟨h1, h2⟩ := digC_iff.mp h
  have : ∀ k : Fin 10, PySem.intText? (sgn (48 + k.val)) = some (((48 + k.val : Nat) : Int) - 48) := by decide +kernel
  have := this ⟨c - 48, by omega⟩
  have e : 48 + (c - 48) = c := by omega
  dsimp only at this
  rw [e] at this
  exact this
theorem digV_snoc (l : List Nat) (c : Nat) : digV (l ++ [c]) = 10 * digV l + ((c : Int) - 48) := by unfold digV; rw [List.foldl_append]; rfl
theorem strOk_tl {x : Str} : PyData.strOk x = true ↔ ∀ c ∈ tl x, c < 0x110000 := by
  unfold PyData.strOk
  rw [← Array.all_toList, List.all_eq_true]
  simp
/-- what numbers write, they read -/
theorem numT_read : ∀ {n : Int}, n.natAbs < 200 → numB (numT n) = true ∧ numV (numT n) = n := by
  have h : ∀ k : Fin 399, numB (numT ((k.val : Int) - 199)) = true ∧ numV (numT ((k.val : Int) - 199)) = (k.val : Int) - 199 := by decide +kernel
  intro n hn
  have := h ⟨(n + 199).toNat, by omega⟩
  have e : (((n + 199).toNat : Nat) : Int) - 199 = n := by omega
  dsimp only at this
  rw [e] at this
  exact this
theorem numT_free : ∀ {n : Int}, n.natAbs < 200 → (tl (numT n)).all (fun c => decide (c = 45) || digC c) = true := by
  have h : ∀ k : Fin 399, (tl (numT ((k.val : Int) - 199))).all (fun c => decide (c = 45) || digC c) = true := by decide +kernel
  intro n hn
  have := h ⟨(n + 199).toNat, by omega⟩
  have e : (((n + 199).toNat : Nat) : Int) - 199 = n := by omega
  dsimp only at this
  rw [e] at this
  exact this
end Sh
set_option Elab.async false
set_option linter.all false
set_option maxRecDepth 100000
/-! what a def makes and hands back: new lists, new lines -/
namespace Ld
open PySem PySem.Spec PyProof.Rows L2 Lx Sh
/-- statements: what is handed back may be one's own -/
def VSt (K : PySem.W.Frag) (Γ : List Cell) (t : TS) (N : List Cell → Prop) (Q : List Cell → Tmp → Prop) : Prop := ∀ (ss : List Dat) (L : Addr → Prop) (S0 : Hs) (σ : L2.St) (τ : List V) (S : Hs) (D : Ends), Env K L S0 Γ (srcT ss) σ τ S →
  (∀ Γ' σ' S', Env K L S0 Γ' (srcT ss) σ' τ S' → N Γ' → D.nx σ' S'.h) → (∀ Γ' σ' S' v c, Env K L S0 Γ' (c :: srcT ss) σ' (v :: τ) S' → Q Γ' c → D.rt v S'.h) → t D σ S.h
section
variable {K : PySem.W.Frag} {Γ : List Cell} {N : List Cell → Prop} {Q : List Cell → Tmp → Prop}
theorem st_of {t : TS} (h : VSs K Γ t ⟨N, fun _ _ => False, fun _ => False, fun _ => False⟩) : VSt K Γ t N Q := fun ss L S0 σ τ S D E kn kr =>
  h ss L S0 σ τ S D E kn (fun _ _ _ _ _ _ _ z => z.elim) (fun _ _ _ _ z => z.elim) (fun _ _ _ _ z => z.elim)
theorem st_seqT {s1 s2 : TS} (h : VSt K Γ s1 (fun Γ' => VSt K Γ' s2 N Q) Q) : VSt K Γ (tSeq s1 s2) N Q := fun ss L S0 σ τ S D E kn kr =>
  h ss L S0 σ τ S _ E (fun Γ' σ' S' E' p => p ss L S0 σ' τ S' D E' kn kr) kr
theorem st_if {tt : TT} {ta tb : TS} (h : ∀ ss, VT K Γ (srcT ss) tt fun Γ1 b => (b = true → VSt K Γ1 ta N Q) ∧ (b = false → VSt K Γ1 tb N Q)) : VSt K Γ (tIfS tt ta tb) N Q := fun ss L S0 σ τ S D E kn kr => h ss L S0 σ τ S _ E fun Γ1 S1 b E1 ⟨h1, h2⟩ => by
  cases b with
  | true => rw [if_pos rfl]; exact h1 rfl ss L S0 σ τ S1 D E1 kn kr
  | false => rw [if_neg Bool.false_ne_true]; exact h2 rfl ss L S0 σ τ S1 D E1 kn kr
theorem st_ret {te : TE} (h : ∀ ss, VE K Γ (srcT ss) te Q) : VSt K Γ (tRet te) N Q := fun ss L S0 σ τ S D E kn kr => h ss L S0 σ τ S _ E fun Γ' S' v c E' q => kr Γ' σ S' v c E' q
end
/-- a new list -/
def Fresh (S' : Hs) (H : Hp) (v : V) (ds : List Dat) : Prop := ∃ a us, v = .ref a ∧ S'.b a = none ∧ H a = none ∧ S'.h a = some (.lst us) ∧ DqAll S'.b us ds
def spL {α : Type} (K : PySem.W.Frag) (A : α → List Arg) (pre : α → Prop) (post : α → List Dat → Prop) : Sp := fun vs H Q _ => ∃ (B : Hp) (x : α), Same B H ∧ ArgsOk K B vs (A x) ∧ pre x ∧
  ∀ v S' ds, Gr L0 ⟨B, H⟩ S' → Same S'.b S'.h → Fresh S' H v ds → post x ds → Q v S'.h
abbrev spLF {α : Type} (K : PySem.W.Frag) (A : α → List Arg) (pre : α → Prop) (g : α → List Dat) : Sp := spL K A pre fun x ds => ds = g x
/-- a new line -/
def spNL {α : Type} (K : PySem.W.Frag) (C : Addr) (A : α → List Arg) (pre : α → Prop) (post : α → LnS → Prop) : Sp := fun vs H Q _ => ∃ (B : Hp) (x : α), Same B H ∧ ArgsOk K B vs (A x) ∧ pre x ∧
  ∀ a S' F ℓ, Gr L0 ⟨B, H⟩ S' → Same S'.b S'.h → (lineR C none ℓ).holds S'.b S'.h a F → (∀ y, F y → S'.b y = none ∧ H y = none) → post x ℓ → Q (.ref a) S'.h
section
variable {K : PySem.W.Frag} {Γ : List Cell} {Θ : List Tmp} {L : Addr → Prop} {S0 S : Hs} {σ : L2.St} {τ : List V}
theorem Env.newFr {S' : Hs} {a : Addr} {us : List V} {ds : List Dat} (E : Env K L S0 Γ Θ σ τ S) (g : Gr L0 S S') (sub : Same S'.b S'.h) (n : S.h a = none) (nb : S'.b a = none) (h : S'.h a = some (.lst us)) (p : DqAll S'.b us ds) : Env K L S0 Γ (.fr ds :: Θ) σ (.ref a :: τ) S' := by
  have n0 := E.fresh0 n
  obtain ⟨w, h1, h2⟩ := E.ok
  exact ⟨E.gr.trans0 g, sub, E.len, fun b => if b = a then some (.inr Θ.length) else w b, fun i c e => ((h1 i c e).reW n).grow g, ⟨a, rfl, ⟨nb, if_pos rfl, us, h, p⟩, n0⟩, h2.imp fun _ _ _ _ z => (z.reW n).grow g⟩
theorem ve_callL {α : Type} {A : α → List Arg} {pre : α → Prop} {post : α → List Dat → Prop} {X : XK} {t : TA} {Q : List Cell → Tmp → Prop} (h : VAX K Γ Θ t fun Γ1 as => ∃ x, as = A x ∧ pre x ∧ ∀ ds, post x ds → Q Γ1 (.fr ds)) : VE K Γ Θ (tCall (spL K A pre post) [] X t) Q := fun L S0 σ τ S Qv E k => h L S0 σ τ S _ E fun Γ1 S1 vs as E1 p ⟨x, ex, hp, q⟩ => by
  show spL K A pre post (vs ++ []) S1.h Qv X
  rw [List.append_nil]
  subst ex
  refine ⟨S1.b, x, E1.sub, p, hp, fun v S' ds g s f hq => ?_⟩
  obtain ⟨a, us, rfl, nb, n, hu, pu⟩ := f
  exact k Γ1 S' _ _ (E1.newFr g s n nb hu pu) (q ds hq)
theorem ve_callLF {α : Type} {A : α → List Arg} {pre : α → Prop} {g : α → List Dat} {X : XK} {t : TA} {Q : List Cell → Tmp → Prop} (h : VAX K Γ Θ t fun Γ1 as => ∃ x, as = A x ∧ pre x ∧ Q Γ1 (.fr (g x))) : VE K Γ Θ (tCall (spLF K A pre g) [] X t) Q :=
  ve_callL fun L S0 σ τ S Qv E k => h L S0 σ τ S Qv E fun Γ1 S1 vs as E1 p ⟨x, ex, hp, q⟩ => k Γ1 S1 vs as E1 p ⟨x, ex, hp, fun d hd => by rw [hd]; exact q⟩
theorem ve_callNL {α : Type} {C : Addr} {A : α → List Arg} {pre : α → Prop} {post : α → LnS → Prop} {X : XK} {t : TA} {Q : List Cell → Tmp → Prop} (h : VAX K Γ Θ t fun Γ1 as => ∃ x, as = A x ∧ pre x ∧ ∀ ℓ, post x ℓ → Q Γ1 (.li (lineR C none ℓ))) : VE K Γ Θ (tCall (spNL K C A pre post) [] X t) Q := fun L S0 σ τ S Qv E k => h L S0 σ τ S _ E fun Γ1 S1 vs as E1 p ⟨x, ex, hp, q⟩ => by
  show spNL K C A pre post (vs ++ []) S1.h Qv X
  rw [List.append_nil]
  subst ex
  exact ⟨S1.b, x, E1.sub, p, hp, fun a S' F ℓ g s hq hF po => k Γ1 S' _ _ (E1.newLi g s hq hF) (q ℓ po)⟩
end
end Ld
set_option Elab.async false
set_option linter.all false
set_option maxRecDepth 100000
/-! texts written are read back; lines told a row -/
namespace Sh
open PySem PySem.Spec PyProof.Rows L2 Lx Ld TL
theorem spl_sub (S : List Nat) : ∀ (l : List Nat) (k : Nat) (acc : List Nat), ∀ p ∈ spl S k acc l, (∀ c ∈ p, c ∈ acc ∨ c ∈ l) ∧ p.length ≤ acc.length + l.length
  | [], k, acc, p, hp => by
    rw [spl_nil, List.mem_singleton] at hp
    subst hp
    exact ⟨fun c hc => .inl hc, Nat.le_add_right _ _⟩
  | c :: r, 0, acc, p, hp => by
    by_cases h : pre S (c :: r) = true
    · rw [spl_hit h] at hp
      rcases List.mem_cons.mp hp with rfl | hp
      · exact ⟨fun c hc => .inl hc, Nat.le_add_right _ _⟩
      · obtain ⟨h1, h2⟩ := spl_sub S r _ _ p hp
        refine ⟨fun d hd => .inr ?_, by simp at h2 ⊢; omega⟩
        rcases h1 d hd with h | h
        · simp at h
        · exact List.mem_cons_of_mem _ h
    · rw [spl_miss (Bool.eq_false_iff.mpr h)] at hp
      obtain ⟨h1, h2⟩ := spl_sub S r _ _ p hp
      refine ⟨fun d hd => ?_, by simp at h2 ⊢; omega⟩
      rcases h1 d hd with h | h
      · rcases List.mem_append.mp h with h | h
        · exact .inl h
        · rw [List.mem_singleton.mp h]; exact .inr List.mem_cons_self
      · exact .inr (List.mem_cons_of_mem _ h)
  | c :: r, k + 1, acc, p, hp => by
    obtain ⟨h1, h2⟩ := spl_sub S r k acc p hp
    refine ⟨fun d hd => ?_, by simp at h2 ⊢; omega⟩
    rcases h1 d hd with h | h
    · exact .inl h
    · exact .inr (List.mem_cons_of_mem _ h)
theorem split_sub {x y w : Str} (hy : tl y ≠ []) (hk : y.cps.all (· < 256) = true) (hw : w ∈ Txt.split x y) : (∀ c ∈ tl w, c ∈ tl x) ∧ w.length ≤ x.length := by
  have h := split_spl x y hy (kind_ok hk)
  have hm : tl w ∈ spl (tl y) 0 [] (tl x) := by rw [← h]; exact List.mem_map_of_mem hw
  obtain ⟨h1, h2⟩ := spl_sub _ _ _ _ _ hm
  refine ⟨fun c hc => (h1 c hc).elim (fun z => by simp at z) id, ?_⟩
  rw [len_tl, len_tl]
  simpa using h2
theorem split_ok {x y w : Str} (hy : tl y ≠ []) (hk : y.cps.all (· < 256) = true) (hx : PyData.strOk x = true) (hw : w ∈ Txt.split x y) : PyData.strOk w = true ∧ w.length ≤ x.length :=
  ⟨strOk_tl.mpr fun c hc => strOk_tl.mp hx c ((split_sub hy hk hw).1 c hc), (split_sub hy hk hw).2⟩
theorem blank_ok {x w : Str} (hx : PyData.strOk x = true) (hw : w ∈ rowW x) : PyData.strOk w = true ∧ w.length ≤ x.length := split_ok (by decide +kernel) (by decide +kernel) hx hw
theorem feed_ok {x w : Str} (hx : PyData.strOk x = true) (hw : w ∈ Txt.split x "\n") : PyData.strOk w = true ∧ w.length ≤ x.length := split_ok (by decide +kernel) (by decide +kernel) hx hw
theorem tl_dgs (w : Str) : tl (dgs w) = if (tl w).head? = some 45 then (tl w).tail else tl w := by
  obtain ⟨l, rfl⟩ : ∃ l : List Nat, w = ⟨l.toArray⟩ := ⟨tl w, (mk_tl w).symm⟩
  have e : Builtin.Str.subAt ⟨l.toArray⟩ ("-" : Str) 0 = decide (l.head? = some 45) := by
    unfold Builtin.Str.subAt
    rw [show (("-" : Str).cps) = #[45] by decide +kernel, show ("-" : Str).length = 1 by decide +kernel]
    cases l with
    | nil => rfl
    | cons c r =>
      show ((c :: r).toArray.extract 0 (0 + 1) == #[45]) = _
      simp
      by_cases h : c = 45 <;> simp [h]
  unfold dgs Txt.removeprefix
  rw [e, show ("-" : Str).length = 1 by decide +kernel]
  show tl (Txt.affix _ (if decide (l.head? = some 45) = true then _ else _)) = if l.head? = some 45 then l.tail else l
  by_cases h : l.head? = some 45
  · rw [if_pos (decide_eq_true h), if_pos h]
    cases l with
    | nil => cases h
    | cons c r =>
      show tl (if ((Str.length ⟨(c :: r).toArray⟩) - 1 == Str.length ⟨(c :: r).toArray⟩) = true then _ else _) = r
      have hl : Str.length ⟨(c :: r).toArray⟩ = r.length + 1 := rfl
      rw [hl, if_neg (by simp), tl_strSub]
      show List.take _ (List.drop 1 (c :: r)) = r
      rw [List.drop_succ_cons, List.drop_zero]
      exact List.take_of_length_le (by omega)
  · rw [if_neg (fun z => h (of_decide_eq_true z)), if_neg h]
    rfl
theorem rmp_ok {x : Str} (hx : PyData.strOk x = true) : PyData.strOk (dgs x) = true ∧ (dgs x).length ≤ x.length := by
  have e := tl_dgs x
  constructor
  · rw [strOk_tl] at hx ⊢
    intro c hc
    rw [e] at hc
    split at hc
    · exact hx c (List.mem_of_mem_tail hc)
    · exact hx c hc
  · rw [len_tl, len_tl, e]
    split
    · rw [List.length_tail]; omega
    · exact Nat.le_refl _
theorem tl_blank : tl (" " : Str) = [32] := by decide +kernel
theorem wordT_free {o : Option Int} (h : ∀ n, o = some n → n.natAbs < 200) : ∀ c ∈ tl (wordT o), c = 45 ∨ c = 124 ∨ digC c = true := by
  cases o with
  | none => intro c hc; rw [show tl (wordT none) = [124] by decide +kernel] at hc; exact .inr (.inl (List.mem_singleton.mp hc))
  | some n =>
    intro c hc
    have := List.all_eq_true.mp (numT_free (h n rfl)) c hc
    simp only [Bool.or_eq_true, decide_eq_true_iff] at this
    rcases this with h | h
    · exact .inl h
    · exact .inr (.inr h)
theorem wordT_read {o : Option Int} (h : ∀ n, o = some n → n.natAbs < 200) : wordB (wordT o) = true ∧ wordV (wordT o) = o := by
  cases o with
  | none => exact ⟨by decide +kernel, by decide +kernel⟩
  | some n =>
    obtain ⟨h1, h2⟩ := numT_read (h n rfl)
    have ne : numT n ≠ "|" := fun e => by rw [e] at h1; exact absurd h1 (by decide +kernel)
    refine ⟨?_, ?_⟩
    · show (decide (numT n = "|") || numB (numT n)) = true
      rw [h1, Bool.or_true]
    · show (if numT n = "|" then none else some (numV (numT n))) = _
      rw [if_neg ne, h2]
theorem row_split {r : List (Option Int)} (h0 : r ≠ []) (h : ∀ n, some n ∈ r → n.natAbs < 200) : rowW (rowT r) = r.map wordT := by
  unfold rowW rowT
  rw [if_neg h0]
  refine split_join tl_blank (by decide +kernel) (by simpa using h0) fun p hp hc => ?_
  obtain ⟨o, ho, rfl⟩ := List.mem_map.mp hp
  rcases wordT_free (fun n e => h n (by rw [← e]; exact ho)) 32 hc with h | h | h
  · cases h
  · cases h
  · exact absurd (digC_iff.mp h) (by omega)
theorem row_none {r : List (Option Int)} (h : ∀ n, some n ∈ r → n.natAbs < 200) : rowT r = "none" ↔ r = [] := by
  refine ⟨fun e => Classical.byContradiction fun h0 => ?_, fun e => if_pos e⟩
  have h1 := row_split h0 h
  rw [e, show rowW "none" = (["none"] : List Str) by decide +kernel] at h1
  obtain ⟨o, r', rfl⟩ := List.exists_cons_of_ne_nil h0
  simp only [List.map_cons, List.cons.injEq] at h1
  rcases wordT_free (fun n e => h n (by rw [← e]; exact List.mem_cons_self)) 110 (by rw [← h1.1]; decide +kernel) with h | h | h
  · cases h
  · cases h
  · exact absurd (digC_iff.mp h) (by omega)
/-- a row's text is read -/
theorem row_read {r : List (Option Int)} (h : ∀ n, some n ∈ r → n.natAbs < 200) : rowB (rowT r) = true ∧ rowV (rowT r) = r := by
  by_cases h0 : r = []
  · subst h0; exact ⟨by decide +kernel, by decide +kernel⟩
  · have ne : rowT r ≠ "none" := fun e => h0 ((row_none h).mp e)
    have hw := row_split h0 h
    refine ⟨?_, ?_⟩
    · unfold rowB
      rw [hw, List.all_map, Bool.or_eq_true]
      refine .inr (List.all_eq_true.mpr fun o ho => (wordT_read fun n e => h n (by rw [← e]; exact ho)).1)
    · unfold rowV
      rw [if_neg ne, hw, List.map_map]
      refine (List.map_congr_left fun o ho => (wordT_read fun n e => h n (by rw [← e]; exact ho)).2).trans (List.map_id _)
def shT (p : Bool × Nat) : Str := wd p.1 ++ " " ++ numT p.2
def lineT (ln : Ln) : Str := if ln = [] then "straight" else Txt.join "\n" (ln.map shT)
theorem shT_read {p : Bool × Nat} (h : p.2 ≤ 9) : shB (shT p) = true ∧ shV (shT p) = sD p ∧ 10 ∉ tl (shT p) ∧ shT p ≠ "straight" ∧ (shT p).length ≤ 7 := by
  have hh : ∀ (l : Bool) (k : Fin 10), shB (shT (l, k.val)) = true ∧ (rowW (shT (l, k.val))).getD 0 "" = wd l ∧ numV ((rowW (shT (l, k.val))).getD 1 "") = (k.val : Int) ∧ 10 ∉ tl (shT (l, k.val)) ∧ shT (l, k.val) ≠ "straight" ∧ (shT (l, k.val)).length ≤ 7 := by decide +kernel
  obtain ⟨l, n⟩ := p
  obtain ⟨h1, h2, h3, h4, h5, h6⟩ := hh l ⟨n, by dsimp only at h; omega⟩
  dsimp only at h1 h2 h3 h4 h5 h6
  exact ⟨h1, by unfold shV; rw [h2, h3]; rfl, h4, h5, h6⟩
theorem line_split {ln : Ln} (h0 : ln ≠ []) (h : ∀ p ∈ ln, p.2 ≤ 9) : Txt.split (lineT ln) "\n" = ln.map shT := by
  unfold lineT
  rw [if_neg h0]
  refine split_join (s := 10) (S := []) (by decide +kernel) (by decide +kernel) (by simpa using h0) fun p hp hc => ?_
  obtain ⟨o, ho, rfl⟩ := List.mem_map.mp hp
  exact (shT_read (h o ho)).2.2.1 hc
theorem line_none {ln : Ln} (h : ∀ p ∈ ln, p.2 ≤ 9) : lineT ln = "straight" ↔ ln = [] := by
  refine ⟨fun e => Classical.byContradiction fun h0 => ?_, fun e => if_pos e⟩
  have h1 := line_split h0 h
  rw [e, show Txt.split "straight" "\n" = (["straight"] : List Str) by decide +kernel] at h1
  obtain ⟨o, r', rfl⟩ := List.exists_cons_of_ne_nil h0
  simp only [List.map_cons, List.cons.injEq] at h1
  exact (shT_read (h o List.mem_cons_self)).2.2.2.1 h1.1.symm
end Sh
set_option Elab.async false
set_option linter.all false
set_option maxRecDepth 100000
namespace Sh
open PySem PySem.Spec PyProof.Rows L2 Lx Ld TL
theorem digB_cons {x : Str} (h : digB x = true) : ∃ c r, TL.tl x = c :: r := by
  unfold digB at h
  rw [Bool.and_eq_true] at h
  cases e : TL.tl x with
  | nil => exact absurd (show x = "" from TL.ext_tl e) (by simpa using h.1)
  | cons c r => exact ⟨c, r, rfl⟩
theorem digB_all {x : Str} (h : digB x = true) : (TL.tl x).all digC = true := by
  unfold digB at h
  rw [Bool.and_eq_true] at h
  exact h.2
theorem sgn_ok {x : Str} {c : Nat} {r : List Nat} (h : PyData.strOk x = true) (e : TL.tl x = c :: r) : PyData.strOk (sgn c) = true := by
  rw [strOk_tl] at h ⊢
  intro d hd
  rw [show TL.tl (sgn c) = [c] from rfl, List.mem_singleton] at hd
  rw [hd]
  exact h c (by rw [e]; exact List.mem_cons_self)
theorem sgn_0 {c : Nat} : decide (sgn c = ("0" : Str)) = decide (c = 48) := by
  by_cases h : c = 48
  · subst h; decide +kernel
  · rw [decide_eq_false h, decide_eq_false fun e => h (by have := congrArg TL.tl e; rw [show TL.tl (sgn c) = [c] from rfl, show TL.tl ("0" : Str) = [48] by decide +kernel] at this; exact List.head_eq_of_cons_eq this)]
theorem shT_sum {x : Ln} (h : ∀ p ∈ x, p.2 ≤ 9) : ((x.map shT).map (·.length)).sum ≤ 7 * x.length := by
  induction x with
  | nil => simp
  | cons p x ih =>
    have h1 := ih fun q hq => h q (List.mem_cons_of_mem _ hq)
    have h2 := (shT_read (h p List.mem_cons_self)).2.2.2.2
    simp only [List.map_cons, List.sum_cons, List.length_cons] at h1 ⊢
    omega
end Sh
namespace Sh
open PySem PySem.Spec PyProof.Rows L2 Lx Ld
end Sh
namespace Sh
open PySem PySem.Spec PyProof.Rows L2 Lx Ld
theorem nums_val {r : List (Option Int)} : (∀ y ∈ nums r, y.natAbs < 200) ↔ ∀ n, some n ∈ r → n.natAbs < 200 :=
  ⟨fun h n hn => h n (mem_nums.mpr hn), fun h y hy => h y (mem_nums.mp hy)⟩
end Sh
namespace Sh
open PySem PySem.Spec PyProof.Rows L2 Lx Ld
theorem join_len (y : Str) : ∀ parts : List Str, (Txt.join y parts).length ≤ (parts.map (·.length)).sum + parts.length * y.length := fun parts => by
  rw [TL.join_eq]
  induction parts with
  | nil => exact Nat.zero_le _
  | cons a r ih =>
    cases r with
    | nil => show a.length ≤ _; simp
    | cons b r =>
      show (a ++ y ++ Str.join y (b :: r)).length ≤ _
      rw [str_len, str_len]
      simp only [List.map_cons, List.sum_cons, List.length_cons, Nat.add_mul, Nat.one_mul] at ih ⊢
      omega
theorem rowT_bnd {r : List (Option Int)} (h : r.length ≤ 100) (hv : ∀ n, some n ∈ r → n.natAbs < 200) : (rowT r).length ≤ 1000 ∧ PyData.strOk (rowT r) = true := by
  refine ⟨?_, rowT_ok hv⟩
  by_cases h0 : r = []
  · subst h0; decide +kernel
  · unfold rowT
    rw [if_neg h0]
    have h1 := join_len " " (r.map wordT)
    have h2 := words_sum hv
    rw [List.length_map, show (" " : Str).length = 1 by decide +kernel] at h1
    omega
theorem join_nl : ∀ ws : List Str, (∀ w ∈ ws, PyData.strOk w = true) → PyData.strOk (Str.join "\n" ws) = true
  | [], _ => by decide +kernel
  | [a], h => h a List.mem_cons_self
  | a :: b :: r, h => by
    rw [strOk_tl]
    intro c hc
    have hc : c ∈ TL.tl (a ++ "\n" ++ Str.join "\n" (b :: r)) := hc
    rw [TL.tl_append, TL.tl_append, List.mem_append, List.mem_append] at hc
    rcases hc with (hc | hc) | hc
    · exact strOk_tl.mp (h a List.mem_cons_self) c hc
    · rw [show TL.tl ("\n" : Str) = [10] by decide +kernel, List.mem_singleton] at hc
      omega
    · exact strOk_tl.mp (join_nl (b :: r) fun w hw => h w (List.mem_cons_of_mem _ hw)) c hc
theorem lineT_bnd {ln : Ln} (h : ln.length ≤ 8) (hv : ∀ p ∈ ln, p.2 ≤ 9) : (lineT ln).length ≤ 1000 ∧ PyData.strOk (lineT ln) = true := by
  by_cases h0 : ln = []
  · subst h0; exact ⟨by decide +kernel, by decide +kernel⟩
  · have h1 := join_len "\n" (ln.map shT)
    have h2 := shT_sum hv
    rw [List.length_map, show ("\n" : Str).length = 1 by decide +kernel] at h1
    unfold lineT
    rw [if_neg h0]
    refine ⟨by omega, ?_⟩
    rw [TL.join_eq]
    refine join_nl _ fun w hw => ?_
    obtain ⟨p, hp, rfl⟩ := List.mem_map.mp hw
    have hh : ∀ (l : Bool) (k : Fin 10), PyData.strOk (shT (l, k.val)) = true := by decide +kernel
    exact hh p.1 ⟨p.2, by have := hv p hp; omega⟩
theorem line_read {ln : Ln} (h : ∀ p ∈ ln, p.2 ≤ 9) : (lineT ln = "straight" ∧ ln = []) ∨ (lineT ln ≠ "straight" ∧ (∀ t ∈ Txt.split (lineT ln) "\n", shB t = true) ∧ (Txt.split (lineT ln) "\n").map shV = ln.map sD) := by
  by_cases h0 : ln = []
  · exact .inl ⟨(line_none h).mpr h0, h0⟩
  · refine .inr ⟨fun e => h0 ((line_none h).mp e), ?_⟩
    rw [line_split h0 h]
    refine ⟨fun t ht => ?_, ?_⟩
    · obtain ⟨p, hp, rfl⟩ := List.mem_map.mp ht
      exact (shT_read (h p hp)).1
    · rw [List.map_map]
      exact List.map_congr_left fun p hp => (shT_read (h p hp)).2.1
end Sh
namespace Ld
open PySem PySem.Spec PyProof.Rows L2 Lx Sh
end Ld
namespace Sh
open PySem PySem.Spec PyProof.Rows L2 Lx Ld
end Sh
set_option Elab.async false
set_option linter.all false
set_option maxRecDepth 100000
namespace Ld
open PySem PySem.Spec PyProof.Rows L2 Lx
section
variable {K : PySem.W.Frag} {mg : Str → Option Value}
theorem fun_of {x : Str} {st : Stmt} {f : Addr} {fd : FuncData} (F : FunD K x x (defArgs st) (defBody st) (defScope st) [] [] f fd) : Fun K x x st f fd := by
  obtain ⟨oc, od, dV, kV, doc, pm, an, cdv, ct, osl, e, lk, hcd, hd, _⟩ := F.ex
  rcases hd with ⟨_, hd⟩ | ⟨hd, _⟩
  · subst hd
    exact ⟨⟨oc, od, kV, doc, pm, an, cdv, ct, osl, e, lk, hcd⟩, F.kp⟩
  · exact absurd rfl hd
theorem Df.of {x : Str} {st : Stmt} {ps : List Str} {f : Addr} {fd : FuncData} (F : FunD K x x (defArgs st) (defBody st) (defScope st) [] [] f fd) (g : mg x = some (.ref f))
    (h : ∀ (kV doc pm : Value) (an : Option Addr) (cdv ct : Value) (us : List Value), us.length = ps.length → bindArgs (PySem.W.fnOf x x (defArgs st) (defBody st) (defScope st) .none kV doc pm an cdv ct) ⟨us, []⟩ = pure (ps.zip us)) : Df K mg x st ps f fd :=
  ⟨fun_of F, g, (fun_of F).binds h⟩
theorem law_sp {H : Hp} {a : Addr} {ns : List Int} (hl : ns.length ≤ 63) (hS : SqL K H a (ns.map V.int)) : spF K (fun ns : List Int => [.sc ns]) (fun ns => ns.length ≤ 63) (fun _ => .bool true) [.ref a] H (fun v _ => v = .bl true) fun _ _ _ => False :=
  ⟨H, ns, Same.refl _, .cons ⟨a, rfl, hS⟩ .nil, hl, fun v S' d _ _ hd e => by
    subst e
    exact dp_bool hd⟩
end
end Ld
set_option Elab.async false
set_option linter.all false
set_option maxRecDepth 100000
/-! a class with its methods, out of the head's facts -/
namespace Ld
open PySem PySem.Spec PyProof.Rows L2 Lx Sh
section
variable {K : PySem.W.Frag}
theorem fun_ofQ {x qual : Str} {st : Stmt} {f : Addr} {fd : FuncData} (F : FunD K x qual (defArgs st) (defBody st) (defScope st) [] [] f fd) : Fun K x qual st f fd := by
  obtain ⟨oc, od, dV, kV, doc, pm, an, cdv, ct, osl, e, lk, hcd, hd, _⟩ := F.ex
  rcases hd with ⟨_, hd⟩ | ⟨hd, _⟩
  · subst hd
    exact ⟨⟨oc, od, kV, doc, pm, an, cdv, ct, osl, e, lk, hcd⟩, F.kp⟩
  · exact absurd rfl hd
theorem DfM.of {C : Addr} {x qual : Str} {st : Stmt} {ps : List Str} {f : Addr} {fd : FuncData} (F : FunD K x qual (defArgs st) (defBody st) (defScope st) [] [] f fd) (m : Meth K C x f)
    (h : ∀ (kV doc pm : Value) (an : Option Addr) (cdv ct : Value) (us : List Value), us.length = ps.length → bindArgs (PySem.W.fnOf x qual (defArgs st) (defBody st) (defScope st) .none kV doc pm an cdv ct) ⟨us, []⟩ = pure (ps.zip us)) : DfM K C x qual st ps f fd :=
  ⟨fun_ofQ F, m, (fun_ofQ F).binds h⟩
theorem LnI.of {x : Str} (cl : Cls K (He.ga K x)) (c : He.insB x K = true) : LnI K (He.ga K x) := by
  obtain ⟨c1, c⟩ := He.ba c
  obtain ⟨c2, c⟩ := He.ba c
  obtain ⟨c3, c⟩ := He.ba c
  obtain ⟨c4, c⟩ := He.ba c
  obtain ⟨c5, c⟩ := He.ba c
  obtain ⟨c6, c7⟩ := He.ba c
  exact ⟨⟨cl, He.eqO_ok c1, He.eqO_ok c2, of_decide_eq_true c3, of_decide_eq_true c4, of_decide_eq_true c5⟩, of_decide_eq_true c6, c7⟩
end
end Ld
set_option Elab.async false
set_option linter.all false
set_option maxRecDepth 100000
/-! what is a row, a shelf, a line, places, counts: told of any thing -/
namespace Sh
open PySem PySem.Spec PyProof.Rows L2 Lx Ld
/-- a thing without dicts, as deep as is looked -/
def okD : Dat → Bool
  | .dict _ => false
  | .tuple r => decide (r.length ≤ 100) && r.all isK
  | .list r => decide (r.length ≤ 100) && r.all isK
  | _ => true
theorem okD_t {r : List Dat} (h : okD (.tuple r) = true) : r.length ≤ 100 ∧ ∀ d ∈ r, isK d = true := by
  have h : (decide (r.length ≤ 100) && r.all isK) = true := h
  rw [Bool.and_eq_true] at h
  exact ⟨of_decide_eq_true h.1, fun d hd => List.all_eq_true.mp h.2 d hd⟩
def okDD : Dat → Bool
  | .tuple r => decide (r.length ≤ 100) && r.all okD
  | d => okD d
theorem okDD_t {r : List Dat} (h : okDD (.tuple r) = true) : r.length ≤ 100 ∧ ∀ d ∈ r, okD d = true := by
  have h : (decide (r.length ≤ 100) && r.all okD) = true := h
  rw [Bool.and_eq_true] at h
  exact ⟨of_decide_eq_true h.1, fun d hd => List.all_eq_true.mp h.2 d hd⟩
def intOf : Dat → Int
  | .int i => i
  | _ => 0
theorem isI_int {d : Dat} (h : isI d = true) : d = .int (intOf d) := by
  cases d <;> first | rfl | cases h
theorem ints_eq {r : List Dat} (h : r.all isI = true) : r = (r.map intOf).map .int := by
  rw [List.map_map]
  conv => lhs; rw [← List.map_id r]
  exact List.map_congr_left fun d hd => isI_int (List.all_eq_true.mp h d hd)
def noNo (r : List Dat) : List Dat := r.filter fun d => !isNo d
/-- unlike -/
def unl (ns : List Int) : Bool := decide (((firstMet (fun i => ns.getD i 0) ns.length).length : Int) = (ns.length : Int))
def isRowD : Dat → Bool
  | .tuple r => !decide ((24 : Int) < (r.length : Int)) && ((noNo r).all isI && unl ((noNo r).map intOf))
  | _ => false
def isWithinD (d : Dat) (lo hi : Int) : Bool := match d with
  | .int n => decide (lo ≤ n) && decide (n ≤ hi)
  | _ => false
def isWordD : Dat → Bool
  | .str s => [PyData.str "light", .str "heavy"].any fun d => eqF d (.str s)
  | _ => false
def isPlD (d : Dat) : Bool := isWithinD d 0 9
def isShelfD : Dat → Bool
  | .tuple [a, b] => isWordD a && isPlD b
  | _ => false
def isLineD : Dat → Bool
  | .tuple r => !decide ((8 : Int) < (r.length : Int)) && r.all isShelfD
  | _ => false
end Sh
set_option Elab.async false
set_option linter.all false
set_option maxRecDepth 100000
/-! C(..) when __init__ raises -/
namespace Ld
open PySem PySem.Spec PyProof.Rows L2 Lx Sh
end Ld
namespace Sh
open PySem PySem.Spec PyProof.Rows L2 Lx Ld
end Sh
set_option Elab.async false
set_option linter.all false
set_option maxRecDepth 100000
/-! a comprehension whose expression lets an exception out -/
namespace Xa
open PySem PySem.Spec PyProof.Rows L2
section
variable {X : Cx} {W : WX} {u : Value} {s s' : Shared}
theorem note_eq {e : Value} {env env' : PySem.Env} (h : env.frame = env'.frame) : noteFrame e env = noteFrame e env' := by
  unfold noteFrame PySem.frameOf
  rw [h]
/-- in the air of X, and noted by its frame -/
def XH (X : Cx) (W : WX) (u : Value) (s' : Shared) : Prop :=
  ∃ (a : Addr) (B : Heap) (sI : Shared) (σ : L2.St) (H : Hp) (cls : Value) (d : Option Addr), u = .ref a ∧ Inv X [] σ H sI ∧ (∀ b o, sI.heap.get? b = some o → b ∉ frs X.stack → B.get? b = some o) ∧ sI.heap.UpToSlots s'.heap ∧
    HandSPX.HeldZ B X.stack a (L2N.Zn cls d) X.env.locals s'.heap ∧ H a = none ∧ s'.os = sI.os ∧ AllBare s'.gens ∧ W cls d σ H
theorem XH.xe (x : XH X W u s') : L2N.XE X W u s' := by
  obtain ⟨a, B, sI, σ, H, cls, d, e, I, nb, up, hh, r⟩ := x
  exact ⟨a, B, sI, [], σ, H, cls, d, e, I, nb, up, .inr (.inr hh), r⟩
theorem XE_note {E : Value → Shared → Prop} {Q : Unit → Shared → Prop} (hs : X.stack = X.env :: X.outer) (hf : X.env.frame = some X.env.locals) (x : L2N.XE X W u s') (hQ : ∀ s2, XH X W u s2 → s'.heap.UpToSlots s2.heap → Q () s2) :
    wpAny (model X.prog X.w) X.A (noteFrame u X.env) Q E s' := by
  obtain ⟨a, B, sI, pins, σ, H, cls, d, rfl, I, nb, up, sky, na, os, ag, w⟩ := x
  have J : Inv X [] σ H sI := Inv.unpinned (pins := []) I
  have hfr : X.A.frames = some (X.env :: X.outer) := by rw [I.ok.frames, hs]
  have mk : ∀ s2 : Shared, HandSPX.HeldZ B (X.env :: X.outer) a (L2N.Zn cls d) X.env.locals s2.heap → s'.heap.UpToSlots s2.heap → s2.os = s'.os → s2.gens = s'.gens → Q () s2 := fun s2 hh up2 e1 e2 =>
    hQ s2 ⟨a, B, sI, σ, H, cls, d, rfl, J, nb, up.trans up2, by rw [hs]; exact hh, na, e1.trans os, by rw [e2]; exact ag, w⟩ up2
  rw [hs] at sky
  rcases sky with ⟨hB, hn, hl, oe, vs, he, hz, hd, h1⟩ | fl | hh
  · exact PXN.look_newZ L2N.Zn.steady hfr hl hf he hB hn hd h1 hz fun h' hh up2 => mk _ hh up2 rfl rfl
  · exact PXN.looks_onZ L2N.Zn.steady hfr hf fl fun h' hh up2 => mk _ hh up2 rfl rfl
  · exact HandSPX.againZ hf hh.2.2.2 (mk s' hh (Heap.UpToSlots.refl _) rfl rfl)
theorem funs_but {h h' B B2 : Heap} {C : Addr} (sb : Heap.SameBut C h h') (hb : ∀ b o, B2.get? b = some o → B.get? b = some o) : ∀ {l : List PySem.Env}, C ∉ frs l → h.FunFrames B l → h'.FunFrames B2 l
  | [], _, _ => trivial
  | env :: rest, hC, ⟨hk, ⟨L, o, hf, hn, ho, hd⟩, hr⟩ => by
    have e : frs (env :: rest) = L :: frs rest := by
      show List.filterMap _ (env :: rest) = _
      rw [List.filterMap_cons, hf]
      rfl
    rw [e, List.mem_cons, not_or] at hC
    refine ⟨hk, ⟨L, o, hf, ?_, (sb.2 L (fun z => hC.1 z.symm)).trans ho, hd⟩, funs_but sb hb hC.2 hr⟩
    cases q : B2.get? L with
    | none => rfl
    | some o => rw [hb L o q] at hn; cases hn
/-- the comprehension's own dict goes -/
theorem XH.gone {C : Addr} {h' : Heap} {m m' : Str → Option Value} (x : XH X W u s') (hC : ∀ H, (∀ c d σ, W c d σ H → H C = none)) (h1 : C ≠ X.env.locals) (h2 : C ∈ X.ex ∨ X.s_0.heap.objs.size ≤ C) (h3 : ∀ y c, X.env.cells.lookup y = some c → c ≠ C) (h4 : ∀ p ∈ X.pn ++ [], p.1 ≠ C) (h5 : C ∉ frs X.stack)
    (hn : s'.heap.Ns C m) (hn' : h'.Ns C m') (sb : Heap.SameBut C s'.heap h') : XH X W u { s' with heap := h' } := by
  obtain ⟨a, B, sI, σ, H, cls, d, rfl, I, nb, up, ⟨f1, f2, f3, oe, vs, T, oT, ts, he, hz, hd, hv, hT0, hTe, hT, hdT, ht⟩, na, os, ag, w⟩ := x
  have nf : ∀ {b : Addr} {o : Obj} {us : Array Value}, s'.heap.get? b = some o → o.data = .fields us → b ≠ C := fun {b o us} e1 e2 e3 => by
    obtain ⟨o', es, ep, e4, e5, _⟩ := hn
    rw [e3, e4] at e1
    cases e1
    rw [e5] at e2
    cases e2
  obtain ⟨G, g1, g2⟩ := restrict sI.heap fun b => decide (b ≠ C)
  obtain ⟨B2, b1, b2⟩ := restrict B fun b => decide (b ≠ C)
  have gC : ∀ b, b ≠ C → G.get? b = sI.heap.get? b := fun b hb => g1 b (decide_eq_true hb)
  have bC : ∀ b, b ≠ C → B2.get? b = B.get? b := fun b hb => b1 b (decide_eq_true hb)
  have gn : G.get? C = none := g2 C (by simp)
  have bn : B2.get? C = none := b2 C (by simp)
  have bs : ∀ b o, B2.get? b = some o → b ≠ C ∧ B.get? b = some o := fun b o e => by
    by_cases hb : b = C
    · rw [hb, bn] at e; cases e
    · exact ⟨hb, by rw [← bC b hb]; exact e⟩
  have gs : ∀ b o, G.get? b = some o → b ≠ C ∧ sI.heap.get? b = some o := fun b o e => by
    by_cases hb : b = C
    · rw [hb, gn] at e; cases e
    · exact ⟨hb, by rw [← gC b hb]; exact e⟩
  refine ⟨a, B2, { sI with heap := G }, σ, H, cls, d, rfl, I.turned (t' := sI.toks) (fun b o hb e => by rw [gC b hb]; exact e) (hC H cls d σ w) h1 h2 h3 h4, fun b o e hb => ?_, fun b o e hnf => ?_, ⟨fun b o e => ?_, ?_, ?_, oe, vs, T, oT, ts, ?_, hz, hd, hv, ?_, hTe, ?_, hdT, ht⟩, na, os, ag, w⟩
  · obtain ⟨e1, e2⟩ := gs b o e
    rw [bC b e1]
    exact nb b o e2 hb
  · obtain ⟨e1, e2⟩ := gs b o e
    obtain ⟨sl, e3⟩ := up b o e2 hnf
    exact ⟨sl, (sb.2 b e1).trans e3⟩
  · obtain ⟨e1, e2⟩ := bs b o e
    exact (sb.2 b e1).trans (f1 b o e2)
  · cases e : B2.get? a with
    | none => rfl
    | some o => rw [(bs a o e).2] at f2; cases f2
  · exact funs_but sb (fun b o e => (bs b o e).2) h5 f3
  · exact (sb.2 a (nf he hd)).trans he
  · cases e : B2.get? T with
    | none => rfl
    | some o => rw [(bs T o e).2] at hT0; cases hT0
  · exact (sb.2 T (nf hT hdT)).trans hT
theorem XH.pass {α : Type} {what : String} {ce : PySem.Env} {Q : α → Shared → Prop} (x : XH X W u s') (tk : L2N.Takes X W) (hf : ce.frame = some X.env.locals) : wpAny (model X.prog X.w) X.A (PySem.passOn what u ce : Sem α) Q X.xe s' := by
  obtain ⟨a, B, sI, σ, H, cls, d, rfl, I, nb, up, ⟨f1, f2, f3, tr⟩, na, os, ag, w⟩ := x
  have tr0 := tr
  obtain ⟨oe, vs, T, oT, ts, he, hz, hd, hv, hT0, hTe, hT, hdT, ht⟩ := tr0
  unfold PySem.passOn
  refine wpAny_bind (wpAny_field he hd hv ?_)
  rw [if_neg (show ¬ ((Value.ref T == .none) = true) from by simp)]
  refine wpAny_bind (HandSPX.setFlight_anyZ f1 f3 tr fun h' k1 k2 k3 k4 => ?_)
  rw [hf] at k3
  refine wpAny_throw ?_
  exact tk _ _ (XH.xe (s' := { s' with heap := h' }) ⟨a, B, sI, σ, H, cls, d, rfl, I, nb, up.trans k4, ⟨k1, f2, k2, k3⟩, na, os, ag, w⟩)
end
/-- how a comprehension's block ends -/
def postX (M : Model) (A : Around) (E : Value → Shared → Prop) (Q : Value → Shared → Prop) (acc : Value) (ce : PySem.Env) : Result → Shared → Prop
  | .ok _, s' => ∃ m, s'.heap.Ns ce.locals m ∧ ∀ h', Heap.SameBut ce.locals s'.heap h' → Q acc { s' with heap := h' }
  | .error x, s' => ∃ m, s'.heap.Ns ce.locals m ∧ ∀ h' m', h'.Ns ce.locals m' → Heap.SameBut ce.locals s'.heap h' → wpAny M A (PySem.passOn "comprehension.variables-let-go" x ce : Sem Value) (fun _ _ => False) E { s' with heap := h' }
theorem comp_x {M : Model} {A : Around} {E : Value → Shared → Prop} {s : Shared} {env : PySem.Env} {e : Expr} {scope : Scope} {pos : Pos} {newAcc first : Sem Value} {g : Comprehension} {gs : List Comprehension} {cl : List (Str × Addr)} {Q : Value → Shared → Prop}
    (c1 : clausesOf e = g :: gs) (c2 : ∀ x, foldedSetIterable g.iter env x = pure x) (c3 : closureFor scope env = pure cl) (c4 : scope.kind = .function) (c5 : ∀ x ∈ scope.names, x.2 = .local → scope.names.lookup x.1 = some .local)
    (h : wpAny M A first (fun x t1 => wpAny M A (pyIter x) (fun it t2 => wpAny M A newAcc (fun acc t3 => wpAny M A (newFunctionEnv scope env.globals cl [] env.qual none .none (some env)) (fun ce t4 =>
      codeAny M A (.compStart e 0 it acc { ce with scope := relabel scope env }) (postX M A E Q acc { ce with scope := relabel scope env }) t4) E t3) E t2) E t1) E s) : wpAny M A (comprehension e scope env pos newAcc false first none) Q E s := by
  unfold comprehension
  rw [c3, c1]
  refine wpAny_bind (wpAny_mono h (fun x t1 k1 => wpAny_bind (wpAny_standAt (wpAny_bind (wpAny_of_eq (c2 x) (wpAny_bind (wpAny_holding (wpAny_mono k1 (fun it t2 k2 =>
    wpAny_standIf (wpAny_bind (wpAny_mono k2 (fun acc t3 k3 => wpAny_bind (wpAny_pure (wpAny_bind (wpAny_mono k3 (fun ce t4 k4 => ?_) fun _ _ z => z)))) fun _ _ z => z))) fun _ _ z => z))))))) fun _ _ z => z)
  dsimp only
  have hv : ∀ x ∈ (scope.names.filter fun x => (x.2 == .local || x.2 == .cell) && x.1 != (".0" : Str)).reverse, x.2 = .local → PySem.Env.kindOf { ce with scope := relabel scope env } x.1 = some .local := fun x hx hl =>
    lookup_relabel_local (c5 x (List.mem_filter.mp (List.mem_reverse.mp hx)).1 hl)
  refine wpAny_holding (wpAny_bind (wpAny_attempt (wpAny_holding (wpAny_run (codeAny_mono k4 fun r t5 hr => ?_)))))
  cases r with
  | ok f =>
    obtain ⟨m, hn, hr⟩ := hr
    exact wpAny_bind (wpAny_holding (wpAny_comp_letGo (cenv := { ce with scope := relabel scope env }) c4 _ t5 m hv hn fun h' m' _ sb => wpAny_pure (hr h' sb)))
  | error x =>
    obtain ⟨m, hn, hr⟩ := hr
    exact wpAny_bind (wpAny_holding (wpAny_comp_letGo (cenv := { ce with scope := relabel scope env }) c4 _ t5 m hv hn fun h' m' hn' sb => wpAny_mono (hr h' m' hn' sb) (fun _ _ f => f.elim) fun _ _ y => y))
theorem tr_to {X : Cx} {pins : List (Addr × Obj)} {σ : L2.St} {H : Hp} {s : Shared} {xe : Value → Shared → Prop} (K : Inv X pins σ H s) : Inv (X.tr X.pn xe) pins σ H s :=
  ⟨K.ok.toTry _ _, K.os, K.bare, K.base, K.loc, K.cell, K.free, K.freeC, fun p hp => K.pin p hp, K.hok, K.len⟩
theorem tr_of {X : Cx} {pins : List (Addr × Obj)} {σ : L2.St} {H : Hp} {s : Shared} {xe : Value → Shared → Prop} (K : Inv (X.tr X.pn xe) pins σ H s) : Inv X pins σ H s :=
  ⟨K.ok.ofTry, K.os, K.bare, K.base, K.loc, K.cell, K.free, K.freeC, fun p hp => K.pin p hp, K.hok, K.len⟩
section
variable {X : Cx}
theorem pe_lcX {E0 : XK} {elt tg iter : Expr} {ifs : List Expr} {scope : Scope} {own : List (Str × Nat)} {pos : Pos} {wi : TI} {g : TG} {tt : TT} {te : TE} (hst : X.stack = X.env :: X.outer) (hfr : X.env.frame = some X.env.locals) (hc : X.calm = true) (hN : X.N.Nodup) (tk : L2N.Takes X (fun cls d _ H => E0 cls d H))
    (hi : PI X tg iter wi) (ok : BlkOk X.N X.env.scope scope own) (hg : ∀ (s : Shared) (H : Hp) (C : Addr) (cl : List (Str × Addr)) (fp : List Addr), PG (X.blk s H scope (compEnvC scope cl C X.env) fp) tg g)
    (ht : ∀ (s : Shared) (H : Hp) (C : Addr) (cl : List (Str × Addr)) (fp : List Addr), PTs (X.blk s H scope (compEnvC scope cl C X.env) fp) ifs tt)
    (he : ∀ (s : Shared) (H : Hp) (C : Addr) (cl : List (Str × Addr)) (fp : List Addr) (xe : Value → Shared → Prop), (∀ σ, PassesAt (L2N.CX X.prog X.w) ((X.blk s H scope (compEnvC scope cl C X.env) fp).tr [] xe) σ E0) → PE ((X.blk s H scope (compEnvC scope cl C X.env) fp).tr [] xe) elt te)
    (hs : ∀ x, foldedSetIterable iter X.env x = pure x := by intro _; rfl) : PE X (.ListComp elt [⟨tg, iter, ifs, 0⟩] scope pos) (tLc wi g tt te (own.map (·.2))) := by
  refine ⟨fun pins s σ H Q J h => ?_⟩
  rw [eval_ListComp]
  have free : ∀ y ∈ scope.names, y.2 = .free → ∃ c, X.env.cells.lookup y.1 = some c := fun y hy e => (ok.free y hy e).elim (fun k => J.ok.has _ (.inl k)) fun k => J.ok.has _ (.inr k)
  refine comp_x rfl hs (closure_ok free) ok.kind (fun y hy e => by rw [ok.uniq y hy, e]) (thn (hi.run pins s σ H _ J h) fun xv s1 hx => thn hx fun itv s2 h2 => ?_)
  obtain ⟨it, fp, tn, JT, H2, e, J2, T, st2, f2, q⟩ := h2
  subst e
  refine wpAny_newObj_type (newEnv_comp ?_) (by show 0 ≤ sizeLine; decide)
  generalize hD : s2.heap.objs.size = D
  obtain ⟨W, ⟨m0, w0⟩, turn⟩ := q D (J2.hok.fresh (Nat.le_of_eq hD))
  generalize hs3 : ({ s2 with heap := s2.heap.push { cls := .type "list", data := .seq ([] : List Value).toArray } } : Shared) = s3
  have h3 : s3.heap = s2.heap.push { cls := .type "list", data := .seq ([] : List Value).toArray } := by subst hs3; rfl
  have J3 : Inv X pins σ (upd H2 D (.lst [])) s3 := by
    rw [← hs3]
    exact J2.laid (t' := s2.toks) (fun b o e => Heap.get?_push_of_some _ e) (Nat.le_of_eq hD) ⟨Nat.zero_le _, [], 0, .nil, by rw [← hD]; exact Heap.get?_push_size _ rfl⟩
  have f3 : ∀ b ∈ fp, FpOk X pins (upd H2 D (.lst [])) b ∧ b < s3.heap.objs.size := fun b hb => by
    obtain ⟨o, eo, _⟩ := T.obj _ _ st2 b hb
    have lt := Heap.lt_size eo
    have nD : b ≠ D := by rw [← hD]; exact Nat.ne_of_lt lt
    exact ⟨⟨by rw [upd_ne nD]; exact (f2 b hb).1, (f2 b hb).2⟩, by rw [h3, Heap.size_push]; exact Nat.lt_succ_of_lt lt⟩
  have st3 : tn 0 s3.heap := T.keep _ _ _ st2 fun b _ o e => by rw [h3]; exact Heap.get?_push_of_some _ e
  have J4 := block_start J3 ok hN f3
  have pg := hg s3 (upd H2 D (.lst [])) s3.heap.objs.size (cellsFrom (s3.heap.objs.size + 1) scope.names (cloFrom X.env.cells scope.names [])) fp
  have pt := ht s3 (upd H2 D (.lst [])) s3.heap.objs.size (cellsFrom (s3.heap.objs.size + 1) scope.names (cloFrom X.env.cells scope.names [])) fp
  have pe := he s3 (upd H2 D (.lst [])) s3.heap.objs.size (cellsFrom (s3.heap.objs.size + 1) scope.names (cloFrom X.env.cells scope.names [])) fp
  have nf : ∀ b ∈ fp, (upd H2 D (.lst [])) b = none := fun b hb => (f3 b hb).1.1
  show codeAny _ _ (.compStart (.ListComp elt [⟨tg, iter, ifs, 0⟩] scope pos) 0 (.ref it) (.ref D) (compEnvC scope (cellsFrom (s3.heap.objs.size + 1) scope.names (cloFrom X.env.cells scope.names [])) s3.heap.objs.size X.env))
    (postX (model X.prog X.w) X.A X.xe (EP X pins σ Q) (.ref D) (compEnvC scope (cellsFrom (s3.heap.objs.size + 1) scope.names (cloFrom X.env.cells scope.names [])) s3.heap.objs.size X.env)) { s3 with heap := pushCells (s3.heap.push { cls := .type "dict", data := .dict #[] }) scope.names }
  generalize hce : compEnvC scope (cellsFrom (s3.heap.objs.size + 1) scope.names (cloFrom X.env.cells scope.names [])) s3.heap.objs.size X.env = ce at J4 pg pt pe ⊢
  have cL : ce.locals = s3.heap.objs.size := by subst hce; rfl
  have cF : ce.frame = X.env.frame := by subst hce; rfl
  generalize hH3 : upd H2 D (.lst []) = H3 at J3 J4 pg pt pe w0 nf f3
  generalize hs4 : ({ s3 with heap := pushCells (s3.heap.push { cls := .type "dict", data := .dict #[] }) scope.names } : Shared) = s4 at J4 ⊢
  have st4 : tn 0 s4.heap := T.keep _ _ _ st3 fun b _ o e => by rw [← hs4]; exact pushCells_keeps _ _ _ _ (Heap.get?_push_of_some _ e)
  -- back in the def's terms
  have home : ∀ {xe : Value → Shared → Prop} {pb : List (Addr × Obj)} {σ' : L2.St} {H' : Hp} {s' : Shared}, Inv ((X.blk s3 H3 scope ce fp).tr [] xe) pb σ' H' s' → Inv X pins σ H' s' := fun {xe pb σ' H' s'} K =>
    J3.call' (ch := fp) K.os K.base K.hok K.bare fun b hb => ⟨(f3 b hb).1.2.2.2.1, (f3 b hb).1.2.1, (f3 b hb).1.2.2.2.2.1, (f3 b hb).1.2.2.2.2.2⟩
  have loc : ∀ {xe : Value → Shared → Prop} {pb : List (Addr × Obj)} {σ' : L2.St} {H' : Hp} {s' : Shared}, Inv ((X.blk s3 H3 scope ce fp).tr [] xe) pb σ' H' s' → (∃ m, s'.heap.Ns ce.locals m) ∧ H' ce.locals = none := fun {xe pb σ' H' s'} K => by
    obtain ⟨m, hm, _⟩ := K.loc
    exact ⟨⟨m, hm⟩, K.free⟩
  generalize hR : postX (model X.prog X.w) X.A X.xe (EP X pins σ Q) (.ref D) ce = R
  -- what leaves the expression leaves the block
  have pass : ∀ σ', PassesAt (L2N.CX X.prog X.w) ((X.blk s3 H3 scope ce fp).tr [] (notedBy (model X.prog X.w) X.A ce fun e s' => R (.error e) s')) σ' E0 := fun σ' pb H9 s9 u s' K c => by
    obtain ⟨a, B, H', cls, d, rfl, fl, hok, ub, na, os, ag, hE⟩ := c
    have c2 : L2N.CX X.prog X.w X.stack H9 s9 (fun c d H1 => E0 c d H1 ∧ H1 = H') (.ref a) s' := ⟨a, B, H', cls, d, rfl, fl, hok, ub, na, os, ag, hE, rfl⟩
    have xX : L2N.XE X (fun c d _ H1 => E0 c d H1 ∧ H1 = H') (.ref a) s' := L2N.XE.of_call (home K) (fun _ _ _ z => z) c2
    obtain ⟨m, hn, hC⟩ : ∃ m, s'.heap.Ns ce.locals m ∧ H' ce.locals = none := by
      obtain ⟨_, _, _, _, _, H1, _, _, _, K1, _, up, _, _, _, _, w⟩ : L2N.XE ((X.blk s3 H3 scope ce fp).tr [] (notedBy (model X.prog X.w) X.A ce fun e s' => R (.error e) s')) (fun c d _ H1 => E0 c d H1 ∧ H1 = H') (.ref a) s' := L2N.XE.of_call K (fun _ _ _ z => z) c2
      obtain ⟨⟨m, hm⟩, hf⟩ := loc K1
      exact ⟨m, up.ns hm, by rw [← w.2]; exact hf⟩
    show wpAny (model X.prog X.w) X.A (noteFrame (.ref a) ce) (fun _ s'' => R (.error (.ref a)) s'') (fun e s' => R (.error e) s') s'
    rw [note_eq (env' := X.env) cF]
    refine XE_note hst hfr xX fun t xh up => ?_
    rw [← hR]
    refine ⟨m, up.ns hn, fun h' m' hn' sb => ?_⟩
    obtain ⟨_, k1, k2, k3, k4, k5⟩ := J3.fpOk (b := ce.locals) (by rw [cL]; exact Nat.le_refl _) hC
    refine (xh.gone (fun H1 c d _ w => by rw [w.2]; exact hC) k1 k3 k4 (fun p hp => k5 p ?_) (fun z => ?_) (up.ns hn) hn' sb).pass (tk.imp fun _ _ _ _ z => z.1) (cF.trans hfr)
    · rw [List.append_nil] at hp
      exact List.mem_append_left _ hp
    · rcases List.mem_cons.mp (J3.stkSub _ z) with z | z
      · exact k1 z
      · exact k2 z
  have ps := pe _ pass
  have stay : ∀ {σ' : L2.St} {H' : Hp} {s' : Shared}, Inv (X.blk s3 H3 scope ce fp) [] σ' H' s' → (∀ b ∈ fp, H' b = none) → ∀ b ∈ fp, FpOk (X.blk s3 H3 scope ce fp) [] H' b := fun {σ' H' s'} K hn b hb =>
    ⟨hn b hb, (K.ok.exf b hb).1, K.ok.exfs b hb, .inl hb, fun x c e => (K.ok.exf b hb).2 x c e, fun p hp => absurd (show p ∈ ([] : List (Addr × Obj)) ++ [] from hp) (by simp)⟩
  have run : codeAny (model X.prog X.w) X.A (.compLoop (.ListComp elt [⟨tg, iter, ifs, 0⟩] scope pos) 0 (.ref it) (.ref D) ce) R s4 := by
    refine compLoop_any (fun n t => ∃ i H', Inv (X.blk s3 H3 scope ce fp) [] (wipe σ (own.map (·.2))) H' t ∧ tn i t.heap ∧ (∀ b ∈ fp, H' b = none) ∧ W i n H') ?_ m0 ⟨0, H3, J4, st4, nf, w0⟩
    rintro n t5 ⟨i, H5, K5, st5, n5, w5⟩
    rcases turn i n H5 w5 with ⟨stop, qq⟩ | ⟨go, Nx, hNx, step⟩
    · refine thnF (T.done (X.blk s3 H3 scope ce fp) rfl rfl rfl hc i [] t5 _ H5 (fun _ _ => False) K5 (stay K5 n5) st5 stop) fun r t6 ⟨hr, K6⟩ => ?_
      subst hr
      have K6' := K6.toTry (fun _ _ => False)
      obtain ⟨⟨m, hn⟩, hL⟩ := loc K6'
      obtain ⟨k0, k1, k2, k3, k4, k5⟩ := J3.fpOk (b := ce.locals) (by rw [cL]; exact Nat.le_refl _) hL
      rw [← hR]
      exact ⟨m, hn, fun h' sb => ⟨.ref D, H5, (home K6').turned (t' := t6.toks) (fun b o hb e => (sb.2 b hb).trans e) k0 k1 k3 k4 k5, rfl, qq⟩⟩
    · refine thnF (T.item (X.blk s3 H3 scope ce fp) rfl rfl rfl hc i [] t5 _ H5 (fun _ _ => False) K5 (stay K5 n5) st5 go) fun r t6 ⟨v, hr, h6⟩ => ?_
      subst hr
      refine thnF h6 fun _ t7 ⟨x, H7, K7, r7, y7, st7, n7⟩ => ?_
      refine thnF (pg.run _ t7 _ H7 x v _ (K7.pinned (stay K7 n7) (T.obj _ _ st7)) r7 (step x H7 y7)) fun _ t8 ⟨σ8, H8, K8, hw8, q8⟩ => ?_
      refine thnF (pt.run _ t8 σ8 H8 _ K8 q8) fun b t9 ⟨H9, K9, q9⟩ => ?_
      have fin : ∀ {s' : Shared} {H' : Hp}, Inv (X.blk s3 H3 scope ce fp) ([] ++ pinsAt fp t7.heap) σ8 H' s' → Nx H' → ∃ m, m < n ∧ ∃ i H', Inv (X.blk s3 H3 scope ce fp) [] (wipe σ (own.map (·.2))) H' s' ∧ tn i s'.heap ∧ (∀ b ∈ fp, H' b = none) ∧ W i m H' := fun {s' H'} K nx => by
        obtain ⟨m', lt, w'⟩ := hNx H' nx
        have pin : ∀ b ∈ fp, ∀ o, t7.heap.get? b = some o → s'.heap.get? b = some o ∧ H' b = none := fun b hb o e =>
          let z := K.pin (b, o) (List.mem_append_right _ (List.mem_append_right _ (mem_pinsAt hb e)))
          ⟨z.1, z.2.1⟩
        refine ⟨m', lt, i + 1, H', (K.unpinned (pins := [])).weak (by rw [← hw8, wipe_length]) (fun j u e => by rw [← hw8] at e; exact (wipe_some e).1), T.keep _ _ _ st7 fun b hb o e => (pin b hb o e).1, fun b hb => ?_, w'⟩
        obtain ⟨o, e, _⟩ := T.obj _ _ st7 b hb
        exact (pin b hb o e).2
      cases b with
      | false =>
        simp only [Bool.false_eq_true, if_false] at q9 ⊢
        exact fin K9 q9
      | true =>
        simp only [if_true] at q9 ⊢
        have K9' : Inv ((X.blk s3 H3 scope ce fp).tr [] (notedBy (model X.prog X.w) X.A ce fun e s' => R (.error e) s')) ([] ++ pinsAt fp t7.heap) σ8 H9 t9 := tr_to K9
        refine wpAny_mono (ps.run _ t9 σ8 H9 _ K9' q9) (fun z t10 ⟨yv, H10, K10, r10, acc, hD10, hz10, nx⟩ => ?_) fun _ _ z => z
        exact app_ok (X := X.blk s3 H3 scope ce fp) (tr_of K10) hD10 hz10 r10 fun t11 K11 => fin K11 nx
  exact codeAny_compStart_list run (T.self X.A 0 _ _ _ st4 run)
end
end Xa
set_option Elab.async false
set_option linter.all false
set_option maxRecDepth 100000
namespace Ld
open PySem PySem.Spec PyProof.Rows L2 Lx Sh
section
variable {K : PySem.W.Frag} {L : Addr → Prop} {S0 : Hs} {Γ : List Cell} {Θ : List Tmp}
/-- a comprehension: of the j-th item the expression raises -/
theorem er_lcT {α : Type} (inj : α → Dat) (xs : List α) (v : α → Dat) {wi : TI} {g : TG} {te : TE} {vs : List Nat} (j : Nat) (b0 : α) (nb : NB vs Θ) (hj : xs[j]? = some b0)
    (h : VI K Γ Θ wi fun Γ1 pr ds => ds = xs.map inj ∧ (∀ v ∈ vs, Γ1[v]? = some Cell.no) ∧ xs.length < sizeLine ∧ (∀ i a, i < j → xs[i]? = some a → ∃ f, TgI K pr g vs (inj a) f ∧ ∀ acc srcs, VD K (f Γ1) (.fr acc :: (srcT srcs ++ Θ)) te fun Γ4 y => y = v a ∧ clr vs Γ4 = Γ1) ∧
      ∃ f, TgI K pr g vs (inj b0) f ∧ ∀ acc srcs, VEr K L S0 (f Γ1) (.fr acc :: (srcT srcs ++ Θ)) te) : VEr K L S0 Γ Θ (tLc wi g tYes te vs) := fun σ τ S Qv E =>
  h L S0 σ τ S _ E fun Γ1 srcs τ1 S1 J pr ds E1 hl w ⟨eds, hn, hsz, hs, hb⟩ => fun D hD => by
    have nbs : NB vs (srcT srcs ++ Θ) := nb_app nb_srcT nb
    have hls : ds.length = xs.length := by rw [eds, List.length_map]
    have hjl : j < ds.length := by rw [hls]; exact (List.getElem?_eq_some_iff.mp hj).1
    have E1w : Env K L S0 Γ1 (.fr [] :: (srcT srcs ++ Θ)) (wipe σ vs) (.ref D :: (τ1 ++ τ)) ⟨S1.b, upd S1.h D (.lst [])⟩ := (E1.newLst hD .nil).wiped hn (nb_fr nbs)
    refine ⟨fun i m H => m = j - i ∧ i ≤ j ∧ ∃ S2, S2.h = H ∧ Env K L S0 Γ1 (.fr ((xs.take i).map v) :: (srcT srcs ++ Θ)) (wipe σ vs) (.ref D :: (τ1 ++ τ)) S2, ⟨_, rfl, Nat.zero_le _, _, rfl, E1w⟩, ?_⟩
    rintro i m H ⟨rfl, hi, S2, rfl, E2⟩
    have dq := E2.pop.srcs hl
    refine .inr ⟨w.go S2 i E2.sub dq (by omega), fun H3 => i < j ∧ ∃ S3, S3.h = H3 ∧ Env K L S0 Γ1 (.fr ((xs.take (i + 1)).map v) :: (srcT srcs ++ Θ)) (wipe σ vs) (.ref D :: (τ1 ++ τ)) S3, fun H' ⟨lt, S3, e, E3⟩ => ⟨_, by omega, rfl, by omega, S3, e, E3⟩, fun x H' y => ?_⟩
    obtain ⟨S3, d, e3, g3, s3, hd3, q3⟩ := w.yld S2 i x H' E2.sub dq (by omega) y
    subst e3
    obtain ⟨a, ha, ead⟩ : ∃ a, xs[i]? = some a ∧ inj a = d := by
      rw [eds, List.getElem?_map] at hd3
      exact Option.map_eq_some_iff.mp hd3
    subst ead
    by_cases hlt : i < j
    · obtain ⟨f, tg, hf⟩ := hs i a hlt ha
      refine tg.run L S0 Γ1 _ σ _ S3 x _ (nb_fr nbs) (E2.grow g3 s3) q3 fun σ3 E3 ew => ⟨ew, ?_⟩
      refine tYes_ok ?_
      refine hf _ srcs L S0 σ3 _ S3 _ E3 fun Γ5 S5 u y E5 ⟨ey, p5⟩ => ?_
      obtain ⟨a', us, ea, hu, pu, mk⟩ := E5.swap.mutTop
      cases ea
      have hv : Dq S5.b u y := E5.dt
      have le : us.length ≤ xs.length := by
        rw [pu.len, List.length_map, List.length_take]
        omega
      refine ⟨us, hu, by omega, hlt, ⟨S5.b, upd S5.h D (.lst (us ++ [u]))⟩, rfl, ?_⟩
      have tk : xs.take (i + 1) = xs.take i ++ [a] := by rw [List.take_add_one, ha] <;> rfl
      have E6 := Env.pop (Env.swap (mk (us ++ [u]) _ (pu.app (.one hv))))
      rw [tk, List.map_append, List.map_singleton, ← ey, ← ew, ← p5]
      exact (E6.forget (clr_len vs) fun i c e => clr_at e).wiped (by rw [p5]; exact hn) (nb_fr nbs)
    · have e : i = j := by omega
      subst e
      rw [hj] at ha
      cases ha
      obtain ⟨f, tg, hf⟩ := hb
      refine tg.run L S0 Γ1 _ σ _ S3 x _ (nb_fr nbs) (E2.grow g3 s3) q3 fun σ3 E3 ew => ⟨ew, ?_⟩
      refine tYes_ok ?_
      exact hf _ srcs σ3 _ S3 _ E3
/-! a def that tells or raises, called -/
def spO {α β : Type} (K : PySem.W.Frag) (A : α → List Arg) (pre : α → Prop) (g : α → Dat) (A' : β → List Arg) (pre' : β → Prop) (C : β → Addr) : Sp := fun vs H Q E => spF K A pre g vs H Q E ∨ spR K A' pre' C vs H Q E
theorem ve_callO {α β : Type} {A : α → List Arg} {pre : α → Prop} {g : α → Dat} {A' : β → List Arg} {pre' : β → Prop} {C : β → Addr} {E : L2.St → XK} {t : TA} {Q : List Cell → Tmp → Prop} (h : VAX K Γ Θ t fun Γ1 as => ∃ x, as = A x ∧ pre x ∧ Q Γ1 (.dt (g x))) :
    VE K Γ Θ (L2.tCallS (spO K A pre g A' pre' C) E t) Q := fun L S0 σ τ S Qv Ev k => h L S0 σ τ S _ Ev fun Γ1 S1 vs as E1 p ⟨x, ex, hp, q⟩ => by
  subst ex
  exact .inl ⟨S1.b, x, E1.sub, p, hp, fun v S' d g s hd hq => k Γ1 S' v _ ((E1.grow g s).push hd) (by rw [hq]; exact q)⟩
theorem er_callO {α β : Type} {A : α → List Arg} {pre : α → Prop} {g : α → Dat} {A' : β → List Arg} {pre' : β → Prop} {C : β → Addr} {E : XK} {t : TA} (h : VAX K Γ Θ t fun Γ1 as => ∃ x, as = A' x ∧ pre' x ∧ XF E L S0 (C x)) : VEr K L S0 Γ Θ (L2.tCallS (spO K A pre g A' pre' C) (fun _ => E) t) := fun σ τ S Qv E0 => h L S0 σ τ S _ E0 fun Γ1 S1 vs as E1 p ⟨x, ex, hp, hE⟩ => by
  subst ex
  exact .inr ⟨S1.b, x, E1.sub, p, hp, fun S' g s => hE S' (E1.gr.trans0 g) s⟩
theorem er_tup {t : TA} (h : VAr K L S0 Γ Θ t) : VEr K L S0 Γ Θ (tTupF t) := fun σ τ S Qv E => h σ τ S _ E
end
theorem ar_snd {K : PySem.W.Frag} {L : Addr → Prop} {S0 : Hs} {Γ : List Cell} {Θ : List Tmp} {te : TE} {t : TA} (h : VX K Γ Θ te fun Γ1 a => VAr K L S0 Γ1 (a.tmp :: Θ) t) : VAr K L S0 Γ Θ (tCons te t) := fun σ τ S Qv E => h L S0 σ τ S _ E fun Γ1 S1 v a E1 q => q σ _ S1 _ E1
end Ld
set_option Elab.async false
set_option linter.all false
set_option maxRecDepth 100000
/-! numbers written and read -/
namespace Sh
open PySem PySem.Spec PyProof.Rows L2 Lx Ld TL
theorem hd_app {l r : List Nat} (h : l ≠ []) : (l ++ r).head? = l.head? := by
  cases l with
  | nil => exact absurd rfl h
  | cons a l => rfl
theorem dig_all {l : List Nat} : l.all digC = true ↔ NumText.AllDigits l := by
  rw [List.all_eq_true]
  exact ⟨fun h c hc => digC_iff.mp (h c hc), fun h c hc => digC_iff.mpr (h c hc)⟩
theorem val_snoc (l : List Nat) (c : Nat) : NumText.digitsVal (l ++ [c]) = NumText.digitsVal l * 10 + (c - 48) := by
  unfold NumText.digitsVal
  rw [List.foldl_append]
  rfl
theorem digV_val : ∀ (n : Nat) (l : List Nat), l.length = n → NumText.AllDigits l → digV l = (NumText.digitsVal l : Nat)
  | 0, l, hl, _ => by
    rw [List.length_eq_zero_iff.mp hl]
    rfl
  | n + 1, l, hl, h => by
    have hne : l ≠ [] := fun e => by rw [e] at hl; cases hl
    have e := List.dropLast_concat_getLast hne
    generalize l.dropLast = r at e
    generalize l.getLast hne = c at e
    subst e
    have hc := h c (by simp)
    rw [digV_snoc, val_snoc, digV_val n r (by simpa using hl) fun d hd => h d (by simp [hd])]
    omega
theorem val_pos : ∀ (n : Nat) (l : List Nat), l.length = n → NumText.AllDigits l → l ≠ [] → l.head? ≠ some 48 → 1 ≤ NumText.digitsVal l
  | 0, l, hl, _, hne, _ => absurd (List.length_eq_zero_iff.mp hl) hne
  | n + 1, l, hl, h, hne, h0 => by
    have e := List.dropLast_concat_getLast hne
    generalize l.dropLast = r at e
    generalize l.getLast hne = c at e
    subst e
    have hc := h c (by simp)
    rw [val_snoc]
    by_cases hr : r = []
    · subst hr
      have : c ≠ 48 := fun e => h0 (by rw [e]; rfl)
      show 1 ≤ 0 * 10 + (c - 48)
      omega
    · have := val_pos n r (by simpa using hl) (fun d hd => h d (by simp [hd])) hr (by rw [hd_app hr] at h0; exact h0)
      omega
theorem canon : ∀ (n : Nat) (l : List Nat), l.length = n → NumText.AllDigits l → l ≠ [] → l.head? ≠ some 48 ∨ l = [48] → numL (NumText.digitsVal l) = l
  | 0, l, hl, _, hne, _ => absurd (List.length_eq_zero_iff.mp hl) hne
  | n + 1, l, hl, h, hne, h0 => by
    rcases h0 with h0 | rfl
    · have e := List.dropLast_concat_getLast hne
      generalize l.dropLast = r at e
      generalize l.getLast hne = c at e
      subst e
      have hc := h c (by simp)
      rw [val_snoc]
      by_cases hr : r = []
      · subst hr
        show numL (0 * 10 + (c - 48)) = [c]
        rw [numL_lt (by omega)]
        congr 1
        omega
      · have hr0 : r.head? ≠ some 48 := by rw [hd_app hr] at h0; exact h0
        have hrd : NumText.AllDigits r := fun d hd => h d (by simp [hd])
        have hp := val_pos n r (by simpa using hl) hrd hr hr0
        rw [numL_step (by omega), show (NumText.digitsVal r * 10 + (c - 48)) / 10 = NumText.digitsVal r by omega, canon n r (by simpa using hl) hrd hr (.inl hr0)]
        congr 2
        omega
    · rw [show NumText.digitsVal [48] = 0 from rfl, numL_lt (by decide)]
theorem numL_head : ∀ n : Nat, (numL n).head? = some 48 → n = 0 := fun n => by
  induction n using Nat.strongRecOn with
  | _ n ih =>
    intro h
    by_cases hn : n < 10
    · rw [numL_lt hn] at h
      have : 48 + n = 48 := Option.some.inj h
      omega
    · rw [numL_step (by omega), hd_app (numL_ne _)] at h
      have := ih (n / 10) (by omega) h
      omega
/-- written back just so -/
theorem canon_iff {l : List Nat} (h : NumText.AllDigits l) (hne : l ≠ []) : numL (NumText.digitsVal l) = l ↔ ¬ (l.head? = some 48 ∧ l ≠ [48]) := by
  constructor
  · rintro e ⟨h1, h2⟩
    have h3 : (numL (NumText.digitsVal l)).head? = some 48 := by rw [e]; exact h1
    rw [numL_head _ h3, numL_lt (by decide)] at e
    exact h2 e.symm
  · intro h0
    refine canon _ l rfl h hne ?_
    by_cases h1 : l.head? = some 48
    · exact .inr (Classical.byContradiction fun z => h0 ⟨h1, z⟩)
    · exact .inl h1
theorem tl_numN (n : Nat) : tl (numT (n : Int)) = numL n := tl_num n
theorem tl_numNeg {n : Nat} (h : 0 < n) : tl (numT (-(n : Int))) = 45 :: numL n := by
  obtain ⟨m, rfl⟩ : ∃ m, n = m + 1 := ⟨n - 1, by omega⟩
  have e : (toString (-((m + 1 : Nat) : Int)) : String) = "-" ++ toString (m + 1) := rfl
  unfold numT
  rw [e]
  show tl (Str.ofString ("-" ++ toString (m + 1))) = _
  rw [tl_ofString, String.toList_append, List.map_append]
  have e2 : (toString (m + 1) : String).toList.map Char.toNat = numL (m + 1) := by
    show (Nat.repr (m + 1)).toList.map Char.toNat = _
    rw [Nat.toList_repr]
    rfl
  rw [e2]
  rfl
theorem str0 {w : Str} : w = "0" ↔ tl w = [48] := ⟨fun e => by rw [e]; decide +kernel, fun e => ext_tl (by rw [e]; decide +kernel)⟩
/-- int(w) -/
theorem int_word {w : Str} (hd : digB (dgs w) = true) (hl : w.length ≤ 640) : PySem.intText? w = some (numV w) := by
  have hne : tl (dgs w) ≠ [] := by
    obtain ⟨c, r, e⟩ := digB_cons hd
    rw [e]; exact fun z => nomatch z
  have had := dig_all.mp (digB_all hd)
  have e := tl_dgs w
  unfold numV
  by_cases h : w = dgs w
  · rw [if_pos h, digV_val _ _ rfl had, ← h]
    rw [← h] at had hne
    exact PySem.intText_digits had hne (by omega)
  · rw [if_neg h, digV_val _ _ rfl had]
    by_cases h45 : (tl w).head? = some 45
    · rw [if_pos h45] at e
      have e2 : tl w = 45 :: tl (dgs w) := by
        rw [e]
        cases hw : tl w with
        | nil => rw [hw] at h45; cases h45
        | cons c r =>
          rw [hw] at h45
          rw [Option.some.inj h45]
          rfl
      exact PySem.intText_neg e2 had hne (by omega)
    · rw [if_neg h45] at e
      exact absurd (ext_tl e).symm h
/-- str(int(w)) == w -/
theorem back_word {w : Str} (hd : digB (dgs w) = true) : decide (numT (numV w) = w) = !zeroB w := by
  have hne : tl (dgs w) ≠ [] := by
    obtain ⟨c, r, e⟩ := digB_cons hd
    rw [e]; exact fun z => nomatch z
  have had := dig_all.mp (digB_all hd)
  have e := tl_dgs w
  have key := canon_iff had hne
  unfold numV zeroB
  by_cases h : w = dgs w
  · rw [if_pos h, digV_val _ _ rfl had]
    have h1 : numT ((NumText.digitsVal (tl (dgs w)) : Nat) : Int) = w ↔ numL (NumText.digitsVal (tl (dgs w))) = tl (dgs w) := by
      constructor
      · intro z
        rw [← tl_numN, z, ← h]
      · intro z
        exact ext_tl (by rw [tl_numN, z, ← h])
    have h2 : w = "0" ↔ tl (dgs w) = [48] := by rw [← h]; exact str0
    rw [Bool.eq_iff_iff]
    simp only [decide_eq_true_eq, Bool.not_eq_true', Bool.and_eq_false_imp, Bool.not_eq_false']
    rw [h1, key, h2]
    constructor
    · intro z h3
      exact Classical.byContradiction fun h4 => z ⟨h3, h4⟩
    · rintro z ⟨h3, h4⟩
      exact h4 (z h3)
  · rw [if_neg h, digV_val _ _ rfl had]
    by_cases h45 : (tl w).head? = some 45
    · rw [if_pos h45] at e
      have e2 : tl w = 45 :: tl (dgs w) := by
        rw [e]
        cases hw : tl w with
        | nil => rw [hw] at h45; cases h45
        | cons c r =>
          rw [hw] at h45
          rw [Option.some.inj h45]
          rfl
      have n0 : w ≠ "0" := fun z => by
        rw [str0.mp z] at e2
        cases e2
      have hz : decide (w = "0") = false := decide_eq_false n0
      rw [hz, Bool.not_false, Bool.and_true, Bool.eq_iff_iff]
      simp only [decide_eq_true_eq, Bool.not_eq_true', decide_eq_false_iff_not]
      by_cases hv : NumText.digitsVal (tl (dgs w)) = 0
      · constructor
        · intro z
          rw [hv] at z
          exact absurd z.symm (by intro y; exact n0 (y.trans (by decide +kernel)))
        · intro z
          have := val_pos _ _ rfl had hne z
          omega
      · have h1 : numT (-((NumText.digitsVal (tl (dgs w)) : Nat) : Int)) = w ↔ numL (NumText.digitsVal (tl (dgs w))) = tl (dgs w) := by
          constructor
          · intro z
            have := tl_numNeg (n := NumText.digitsVal (tl (dgs w))) (by omega)
            rw [z, e2] at this
            exact (List.cons.inj this).2.symm
          · intro z
            exact ext_tl (by rw [tl_numNeg (by omega), z, e2])
        rw [h1, key]
        constructor
        · intro z h3
          refine z ⟨h3, fun h4 => hv ?_⟩
          rw [h4]; rfl
        · intro z h3
          exact z h3.1
    · rw [if_neg h45] at e
      exact absurd (ext_tl e).symm h
end Sh
set_option Elab.async false
set_option linter.all false
set_option maxRecDepth 100000
namespace Sh
open PySem PySem.Spec PyProof.Rows L2 Lx Ld TL
def isStr : Dat → Bool
  | .str _ => true
  | _ => false
def NoTxt (d : Dat) : Prop := isK d = true ∧ isStr d = false
def TxOk (x : Str) : Prop := x.length ≤ 90 ∧ PyData.strOk x = true
def BadNum (w : Str) : Prop := TxOk w ∧ numB w = false
def BadWd (w : Str) : Prop := TxOk w ∧ wordB w = false
def BadSh1 (w : Str) : Prop := TxOk w ∧ (rowW w).length ≠ 2
def BadSh2 (w : Str) : Prop := TxOk w ∧ (rowW w).length = 2 ∧ numB ((rowW w).getD 1 "") = false
def BadSh (w : Str) : Prop := TxOk w ∧ shB w = false
theorem badSh {w : Str} (h : BadSh w) : BadSh1 w ∨ BadSh2 w := by
  obtain ⟨h1, h2⟩ := h
  unfold shB at h2
  by_cases h3 : (rowW w).length = 2
  · rw [decide_eq_true h3, Bool.true_and] at h2
    exact .inr ⟨h1, h3, h2⟩
  · exact .inl ⟨h1, h3⟩
end Sh
namespace Sh
open PySem PySem.Spec PyProof.Rows L2 Lx Ld TL
theorem or_bad {K : PySem.W.Frag} {α : Type} {A : α → List Ld.Arg} {pre : α → Prop} {g : α → Dat} {A' : Str → List Ld.Arg} {C : Str → Addr} {vs : List V} {H : Hp} {Q : VK} {E : XK} (h : spO K A pre g A' BadSh C vs H Q E) :
    spF K A pre g vs H Q E ∨ spR K A' BadSh1 C vs H Q E ∨ spR K A' BadSh2 C vs H Q E := by
  rcases h with h | ⟨B, x, s, a, p, q⟩
  · exact .inl h
  · rcases badSh p with p | p
    · exact .inr (.inl ⟨B, x, s, a, p, q⟩)
    · exact .inr (.inr ⟨B, x, s, a, p, q⟩)
end Sh
namespace Sh
open PySem PySem.Spec PyProof.Rows L2 Lx Ld TL
def rowD (x : Str) : Dat := .tuple (oL (rowV x))
theorem okD_row {r : List (Option Int)} (h : r.length ≤ 100) : okD (.tuple (oL r)) = true := by
  show (decide ((oL r).length ≤ 100) && (oL r).all isK) = true
  rw [decide_eq_true (by rw [List.length_map]; exact h), Bool.true_and, List.all_eq_true]
  intro d hd
  obtain ⟨o, _, rfl⟩ := List.mem_map.mp hd
  cases o <;> rfl
end Sh
namespace Sh
open PySem PySem.Spec PyProof.Rows L2 Lx Ld TL
theorem first_bad {α : Type} {p : α → Bool} : ∀ {l : List α}, l.all p = false → ∃ (j : Nat) (b : α), l[j]? = some b ∧ p b = false ∧ ∀ (i : Nat) (a : α), i < j → l[i]? = some a → p a = true
  | [], h => by cases h
  | c :: l, h => by
    by_cases hc : p c = true
    · rw [List.all_cons, hc, Bool.true_and] at h
      obtain ⟨j, b, h1, h2, h3⟩ := first_bad h
      refine ⟨j + 1, b, h1, h2, fun i a hi ha => ?_⟩
      cases i with
      | zero => cases ha; exact hc
      | succ i => exact h3 i a (by omega) ha
    · exact ⟨0, c, rfl, by simpa using hc, fun i a hi => by omega⟩
def BadRowB (x : Str) : Prop := TxOk x ∧ rowB x = false
def BadRowC (x : Str) : Prop := TxOk x ∧ rowB x = true ∧ isRowD (rowD x) = false
def lineW (x : Str) : List Str := Txt.split x "\n"
def lineB (x : Str) : Bool := decide (x = "straight") || (lineW x).all shB
def lineD (x : Str) : Dat := if x = "straight" then .tuple [] else .tuple ((lineW x).map shV)
def BadLineB (x : Str) : Prop := TxOk x ∧ lineB x = false
def BadLineC (x : Str) : Prop := TxOk x ∧ lineB x = true ∧ isLineD (lineD x) = false
theorem okDD_line {l : List Str} (h : l.length ≤ 100) : okDD (.tuple (l.map shV)) = true := by
  show (decide ((l.map shV).length ≤ 100) && (l.map shV).all okD) = true
  rw [decide_eq_true (by rw [List.length_map]; exact h), Bool.true_and, List.all_eq_true]
  intro d hd
  obtain ⟨o, _, rfl⟩ := List.mem_map.mp hd
  rfl
end Sh
namespace Ld
open PySem PySem.Spec PyProof.Rows L2 Lx Sh TL
theorem ve_slS {K : PySem.W.Frag} {Γ : List Cell} {Θ : List Tmp} {te : TE} {tl th : TO} {Q : List Cell → Tmp → Prop} (h : VE K Γ Θ te fun Γ1 x => VO K Γ1 (x :: Θ) tl fun Γ2 lo => VO K Γ2 (x :: Θ) th fun Γ3 hi => ∃ z, x = .dt (.str z) ∧ z.length ≤ sizeLine ∧ Q Γ3 (.dt (.str (cutS z lo hi)))) : VE K Γ Θ (tSl rSlS te tl th) Q := fun L S0 σ τ S Qv E k =>
  h L S0 σ τ S _ E fun Γ1 S1 v x E1 h1 => h1 L S0 σ _ S1 _ E1 fun Γ2 S2 lo E2 h2 => h2 L S0 σ _ S2 _ E2 fun Γ3 S3 hi E3 ⟨z, hx, hz, q⟩ => by
    subst hx
    exact ⟨z, dp_str E3.dt, hz, k Γ3 S3 _ _ (E3.pop.push (.str _)) q⟩
end Ld
namespace Sh
open PySem PySem.Spec PyProof.Rows L2 Lx Ld TL
theorem tl_cut (z : Str) (lo hi : Option Int) : tl (cutS z lo hi) = ((tl z).drop (HT.sIx z.length 0 lo)).take (HT.sIx z.length z.length hi - HT.sIx z.length 0 lo) := rfl
theorem cut_sub {z : Str} {lo hi : Option Int} : ∀ c ∈ tl (cutS z lo hi), c ∈ tl z := fun c hc => List.mem_of_mem_drop (List.mem_of_mem_take (by rw [tl_cut] at hc; exact hc))
theorem cut_len {z : Str} {lo hi : Option Int} : (cutS z lo hi).length ≤ HT.sIx z.length z.length hi - HT.sIx z.length 0 lo := by
  rw [len_tl, tl_cut, List.length_take]
  omega
theorem bare_dgs (w : Str) : (if cutS w none (some 1) = "-" then cutS w (some 1) none else w) = dgs w := by
  apply ext_tl
  rw [tl_dgs]
  have e45 : tl ("-" : Str) = [45] := by decide +kernel
  cases hw : tl w with
  | nil =>
    have h : ¬ cutS w none (some 1) = "-" := fun z => by
      have := congrArg tl z
      rw [tl_cut, hw, e45] at this
      simp at this
    rw [if_neg h, hw]
    rfl
  | cons c r =>
    have hl : w.length = r.length + 1 := by rw [len_tl, hw]; rfl
    have h1 : tl (cutS w none (some 1)) = [c] := by
      rw [tl_cut, hw, hl]
      have e1 : HT.sIx (r.length + 1) 0 none = 0 := rfl
      have e2 : HT.sIx (r.length + 1) (r.length + 1) (some 1) = 1 := by simp [HT.sIx]
      rw [e1, e2]
      rfl
    have h2 : tl (cutS w (some 1) none) = r := by
      rw [tl_cut, hw, hl]
      have e1 : HT.sIx (r.length + 1) 0 (some 1) = 1 := by simp [HT.sIx]
      have e2 : HT.sIx (r.length + 1) (r.length + 1) none = r.length + 1 := rfl
      rw [e1, e2]
      show List.take (r.length + 1 - 1) r = r
      rw [List.take_of_length_le (by omega)]
    have h3 : cutS w none (some 1) = "-" ↔ c = 45 := by
      constructor
      · intro z
        have := congrArg tl z
        rw [h1, e45] at this
        exact (List.cons.inj this).1
      · intro z
        exact ext_tl (by rw [h1, e45, z])
    by_cases hc : c = 45
    · rw [if_pos (h3.mpr hc), h2, if_pos (by rw [hc]; rfl)]
      rfl
    · rw [if_neg (fun z => hc (h3.mp z)), hw]
      exact (if_neg (fun z => hc (Option.some.inj (show some c = some 45 from z)))).symm
theorem val_lt : ∀ (n : Nat) (l : List Nat), l.length = n → NumText.AllDigits l → NumText.digitsVal l < 10 ^ n
  | 0, l, hl, _ => by
    rw [List.length_eq_zero_iff.mp hl]
    decide
  | n + 1, l, hl, h => by
    have hne : l ≠ [] := fun e => by rw [e] at hl; cases hl
    have e := List.dropLast_concat_getLast hne
    generalize l.dropLast = r at e
    generalize l.getLast hne = c at e
    subst e
    have hc := h c (by simp)
    have := val_lt n r (by simpa using hl) fun d hd => h d (by simp [hd])
    rw [val_snoc, Nat.pow_succ]
    omega
theorem numV_lt {w : Str} (hd : digB (dgs w) = true) (hl : w.length ≤ 90) (ho : PyData.strOk w = true) : (numV w).natAbs < 2 ^ 1900 := by
  have had := dig_all.mp (digB_all hd)
  have h1 := val_lt _ _ rfl had
  have h2 : (tl (dgs w)).length ≤ 90 := by
    have := (rmp_ok ho).2
    rw [len_tl] at this
    omega
  have h3 : 10 ^ (tl (dgs w)).length ≤ 10 ^ 90 := Nat.pow_le_pow_right (by decide) h2
  have h4 : (10 : Nat) ^ 90 < 2 ^ 1900 := by decide +kernel
  have h5 : (numV w).natAbs = NumText.digitsVal (tl (dgs w)) := by
    unfold numV
    rw [digV_val _ _ rfl had]
    split <;> omega
  omega
def lawN (w : Str) : Dat := if numB w then .int (numV w) else .str "no"
end Sh
namespace Sh
open PySem PySem.Spec PyProof.Rows L2 Lx Ld TL
theorem cut_ok {z : Str} {lo hi : Option Int} (h : PyData.strOk z = true) : PyData.strOk (cutS z lo hi) = true := by
  rw [strOk_tl] at h ⊢
  exact fun c hc => h c (cut_sub c hc)
theorem lawN_no {w : Str} (h : numB w = false) : lawN w = .str "no" := by unfold lawN; rw [h]; rfl
theorem lawN_yes {w : Str} (h : numB w = true) : lawN w = .int (numV w) := by unfold lawN; rw [h]; rfl
theorem numB_no1 {w : Str} (h : dgs w = "") : numB w = false := by
  unfold numB digB
  rw [h]
  rfl
theorem numB_no2 {w : Str} (h : (tl (dgs w)).all digC = false) : numB w = false := by
  unfold numB digB
  rw [h, Bool.and_false, Bool.false_and]
theorem digB_of {w : Str} (h0 : ¬ dgs w = "") (h : (tl (dgs w)).all digC = true) : digB (dgs w) = true := by
  unfold digB
  rw [h, decide_eq_false h0]
  rfl
theorem no_sgn {l : List Nat} : ((l.filter fun c => !digC c).map fun c => PyData.str (sgn c)).isEmpty = l.all digC := by
  induction l with
  | nil => rfl
  | cons c l ih =>
    rw [List.all_cons]
    cases h : digC c with
    | true =>
      rw [List.filter_cons, h, Bool.not_true, if_neg Bool.false_ne_true, Bool.true_and]
      exact ih
    | false =>
      rw [List.filter_cons, h, Bool.not_false, if_pos rfl, Bool.false_and]
      rfl
theorem sgn_okM {x : Str} {c : Nat} (h : PyData.strOk x = true) (e : c ∈ tl x) : PyData.strOk (sgn c) = true := by
  rw [strOk_tl] at h ⊢
  intro d hd
  rw [show tl (sgn c) = [c] from rfl, List.mem_singleton] at hd
  rw [hd]
  exact h c e
end Sh
namespace Sh
open PySem PySem.Spec PyProof.Rows L2 Lx Ld TL
theorem numT_any (n : Int) : PyData.strOk (numT n) = true := by
  rw [strOk_tl]
  intro c hc
  have hb : ∀ m : Nat, ∀ d ∈ numL m, d < 0x110000 := fun m d hd => by
    have := numL_digits m d hd
    omega
  by_cases h : 0 ≤ n
  · obtain ⟨m, rfl⟩ := Int.eq_ofNat_of_zero_le h
    exact hb m c (by rw [tl_numN] at hc; exact hc)
  · obtain ⟨m, hm⟩ := Int.eq_ofNat_of_zero_le (show 0 ≤ -n by omega)
    have e : n = -(m : Int) := by omega
    rw [e, tl_numNeg (by omega)] at hc
    rcases List.mem_cons.mp hc with rfl | hc
    · decide
    · exact hb m c hc
end Sh
namespace Sh
open PySem PySem.Spec PyProof.Rows L2 Lx Ld TL
def parW (w : Str) : Dat := if w = "|" then .none else lawN w
def parR (x : Str) : Dat := .tuple (if x = "none" then [] else (rowW x).map parW)
def parS (t : Str) : Dat := .tuple (((rowW t).take 1).map PyData.str ++ ((rowW t).drop 1).map lawN)
def parL (x : Str) : Dat := .tuple (if x = "straight" then [] else (lineW x).map parS)
end Sh
namespace Ld
open PySem PySem.Spec PyProof.Rows L2 Lx Sh TL
def rLenTx : List V → Hp → VK → Prop := fun xs H Q => ∃ z : Str, xs = [.str z] ∧ z.length ≤ sizeLine ∧ Q (.int z.length) H
theorem cl_lenTx {X : Cx} : CallR X (.builtin "len") rLenTx := call_len_str
theorem c1_lenTx {K : PySem.W.Frag} {Γ : List Cell} {Θ : List Tmp} {z : Str} {Q : List Cell → Tmp → Prop} (hz : z.length ≤ sizeLine) (q : Q Γ (.dt (.int z.length))) : C1V K rLenTx Γ Θ (.dt (.str z)) Q := fun L S0 σ τ S vx Qv E k =>
  ⟨z, by rw [dp_str E.dt], hz, k Γ S _ _ (E.pop.push (.int _)) q⟩
end Ld
set_option Elab.async false
set_option linter.all false
set_option maxRecDepth 100000
/-! what is read is what the law's parser tells -/
namespace Sh
open PySem PySem.Spec PyProof.Rows L2 Lx Ld TL
abbrev rfn : Dat := .tuple [.str "refused", .int 9]
inductive TxR : Nat → Dat → Dat → Prop
  | no {k : Nat} {d : Dat} : k ≤ 1 → NoTxt d → TxR k d rfn
  | rowB {x : Str} : BadRowB x → TxR 0 (.str x) rfn
  | rowC {x : Str} : BadRowC x → TxR 0 (.str x) rfn
  | row {x : Str} : TxOk x → rowB x = true → isRowD (rowD x) = true → TxR 0 (.str x) (rowD x)
  | lineB {x : Str} : BadLineB x → TxR 1 (.str x) rfn
  | lineC {x : Str} : BadLineC x → TxR 1 (.str x) rfn
  | line {x : Str} : TxOk x → lineB x = true → isLineD (lineD x) = true → TxR 1 (.str x) (lineD x)
theorem parW_ok {w : Str} (h : wordB w = true) : parW w = oD (wordV w) := by
  unfold parW wordV
  by_cases h1 : w = "|"
  · rw [if_pos h1, if_pos h1]; rfl
  · rw [if_neg h1, if_neg h1]
    unfold wordB at h
    rw [decide_eq_false h1, Bool.false_or] at h
    exact lawN_yes h
theorem parW_no {w : Str} (h : wordB w = false) : parW w = .str "no" := by
  unfold wordB at h
  rw [Bool.or_eq_false_iff] at h
  unfold parW
  rw [if_neg (of_decide_eq_false h.1)]
  exact lawN_no h.2
theorem parR_ok {x : Str} (h : rowB x = true) : parR x = rowD x := by
  unfold parR rowD rowV
  unfold rowB at h
  by_cases h1 : x = "none"
  · rw [if_pos h1, if_pos h1]; rfl
  · rw [if_neg h1, if_neg h1]
    rw [decide_eq_false h1, Bool.false_or] at h
    show PyData.tuple _ = PyData.tuple (((rowW x).map wordV).map oD)
    rw [List.map_map]
    exact congrArg PyData.tuple (List.map_congr_left fun w hw => parW_ok (List.all_eq_true.mp h w hw))
theorem parR_no {x : Str} (h : rowB x = false) : isRowD (parR x) = false := by
  unfold rowB at h
  rw [Bool.or_eq_false_iff] at h
  obtain ⟨j, w, h1, h2, _⟩ := first_bad h.2
  unfold parR
  rw [if_neg (of_decide_eq_false h.1)]
  have hm : PyData.str "no" ∈ noNo ((rowW x).map parW) := by
    refine List.mem_filter.mpr ⟨List.mem_map.mpr ⟨w, List.mem_of_getElem? h1, parW_no h2⟩, rfl⟩
  have hall : (noNo ((rowW x).map parW)).all isI = false := by
    rw [List.all_eq_false]
    exact ⟨_, hm, by decide⟩
  show (!_ && (_ && _)) = false
  rw [hall, Bool.false_and, Bool.and_false]
theorem parS_ok {t : Str} (h : shB t = true) : parS t = shV t := by
  unfold shB at h
  rw [Bool.and_eq_true, decide_eq_true_iff] at h
  obtain ⟨h2, hn⟩ := h
  obtain ⟨a, b, e⟩ : ∃ a b, rowW t = [a, b] := by
    match h : rowW t, h2 with
    | [a, b], _ => exact ⟨a, b, rfl⟩
  unfold parS shV
  rw [e] at hn ⊢
  show PyData.tuple [.str a, lawN b] = _
  rw [lawN_yes (show numB b = true from hn)]
  rfl
theorem parS_no {t : Str} (h : shB t = false) : isShelfD (parS t) = false := by
  unfold parS
  match hr : rowW t with
  | [] => rfl
  | [a] => rfl
  | [a, b] =>
    unfold shB at h
    rw [hr] at h
    have hn : numB b = false := by simpa using h
    show (isWordD (.str a) && isPlD (lawN b)) = false
    rw [lawN_no hn]
    show (_ && false) = false
    rw [Bool.and_false]
  | a :: b :: c :: r => rfl
theorem parL_ok {x : Str} (h : lineB x = true) : parL x = lineD x := by
  unfold parL lineD
  unfold lineB at h
  by_cases h1 : x = "straight"
  · rw [if_pos h1, if_pos h1]
  · rw [if_neg h1, if_neg h1]
    rw [decide_eq_false h1, Bool.false_or] at h
    exact congrArg PyData.tuple (List.map_congr_left fun w hw => parS_ok (List.all_eq_true.mp h w hw))
theorem parL_no {x : Str} (h : lineB x = false) : isLineD (parL x) = false := by
  unfold lineB at h
  rw [Bool.or_eq_false_iff] at h
  obtain ⟨j, w, h1, h2, _⟩ := first_bad h.2
  unfold parL
  rw [if_neg (of_decide_eq_false h.1)]
  have hall : ((lineW x).map parS).all isShelfD = false := by
    rw [List.all_eq_false]
    exact ⟨_, List.mem_map.mpr ⟨w, List.mem_of_getElem? h1, rfl⟩, by rw [parS_no h2]; exact Bool.false_ne_true⟩
  show (!_ && _) = false
  rw [hall, Bool.and_false]
/-- what is asked of a text, told by the parser -/
theorem ask_row {x : Str} (h : TxOk x) : TxR 0 (.str x) (if isRowD (parR x) = true then parR x else rfn) := by
  cases hb : rowB x with
  | false =>
    rw [parR_no hb, if_neg Bool.false_ne_true]
    exact .rowB ⟨h, hb⟩
  | true =>
    rw [parR_ok hb]
    cases hr : isRowD (rowD x) with
    | false =>
      rw [if_neg Bool.false_ne_true]
      exact .rowC ⟨h, hb, hr⟩
    | true =>
      rw [if_pos rfl]
      exact .row h hb hr
theorem ask_line {x : Str} (h : TxOk x) : TxR 1 (.str x) (if isLineD (parL x) = true then parL x else rfn) := by
  cases hb : lineB x with
  | false =>
    rw [parL_no hb, if_neg Bool.false_ne_true]
    exact .lineB ⟨h, hb⟩
  | true =>
    rw [parL_ok hb]
    cases hr : isLineD (lineD x) with
    | false =>
      rw [if_neg Bool.false_ne_true]
      exact .lineC ⟨h, hb, hr⟩
    | true =>
      rw [if_pos rfl]
      exact .line h hb hr
theorem lawN_k (w : Str) : isK (lawN w) = true := by
  unfold lawN
  split <;> rfl
theorem parW_k (w : Str) : isK (parW w) = true := by
  unfold parW
  split
  · rfl
  · exact lawN_k w
theorem parR_okD {x : Str} (h : TxOk x) : okD (parR x) = true := by
  have hw : (rowW x).length ≤ 92 := Nat.le_trans (PyProof.Rows.split_le x " ") (by have := h.1; omega)
  unfold parR
  show (decide (_ ≤ 100) && List.all _ isK) = true
  split
  · rfl
  · rw [decide_eq_true (by rw [List.length_map]; omega), Bool.true_and, List.all_eq_true]
    intro d hd
    obtain ⟨w, _, rfl⟩ := List.mem_map.mp hd
    exact parW_k w
theorem parS_okD {t : Str} (h : t.length ≤ 90) : okD (parS t) = true := by
  have hw : (rowW t).length ≤ 92 := Nat.le_trans (PyProof.Rows.split_le t " ") (by omega)
  unfold parS
  show (decide (_ ≤ 100) && List.all _ isK) = true
  rw [decide_eq_true (by rw [List.length_append, List.length_map, List.length_map, List.length_take, List.length_drop]; omega), Bool.true_and, List.all_eq_true]
  intro d hd
  rcases List.mem_append.mp hd with hd | hd
  · obtain ⟨w, _, rfl⟩ := List.mem_map.mp hd
    rfl
  · obtain ⟨w, _, rfl⟩ := List.mem_map.mp hd
    exact lawN_k w
theorem parL_okDD {x : Str} (h : TxOk x) : okDD (parL x) = true := by
  have hw : (lineW x).length ≤ 92 := Nat.le_trans (PyProof.Rows.split_le x "\n") (by have := h.1; omega)
  unfold parL
  show (decide (_ ≤ 100) && List.all _ okD) = true
  split
  · rfl
  · rw [decide_eq_true (by rw [List.length_map]; omega), Bool.true_and, List.all_eq_true]
    intro d hd
    obtain ⟨w, hm, rfl⟩ := List.mem_map.mp hd
    have := feed_ok h.2 hm
    have := h.1
    exact parS_okD (by omega)
end Sh
namespace Sh
open PySem PySem.Spec PyProof.Rows L2 Lx Ld TL
def joinR (r : List (Option Int)) : Str := Txt.join " " (r.map wordT)
def joinL (ln : Ln) : Str := Txt.join "\n" (ln.map shT)
theorem joinR_row {r : List (Option Int)} (h : r ≠ []) : joinR r = rowT r := (if_neg h).symm
theorem joinL_line {ln : Ln} (h : ln ≠ []) : joinL ln = lineT ln := (if_neg h).symm
theorem rowT_len {r : List (Option Int)} (hl : r.length ≤ 12) (h : ∀ n, some n ∈ r → n.natAbs < 200) : TxOk (rowT r) ∧ (rowT r).length ≤ 60 := by
  have h1 : (rowT r).length ≤ 60 := by
    by_cases h0 : r = []
    · subst h0; decide +kernel
    · rw [← joinR_row h0]
      have h2 := join_len " " (r.map wordT)
      have h3 := words_sum h
      have h4 : ((" " : Str).length) = 1 := by decide +kernel
      unfold joinR
      rw [List.length_map, h4] at h2
      omega
  exact ⟨⟨by omega, (rowT_bnd (by omega) h).2⟩, h1⟩
theorem lineT_len {ln : Ln} (hl : ln.length ≤ 4) (h : ∀ p ∈ ln, p.2 ≤ 9) : TxOk (lineT ln) ∧ (lineT ln).length ≤ 32 := by
  have h1 : (lineT ln).length ≤ 32 := by
    by_cases h0 : ln = []
    · subst h0; decide +kernel
    · rw [← joinL_line h0]
      have h2 := join_len "\n" (ln.map shT)
      have h3 := shT_sum h
      have h4 : (("\n" : Str).length) = 1 := by decide +kernel
      unfold joinL
      rw [List.length_map, h4] at h2
      omega
  exact ⟨⟨by omega, (lineT_bnd (by omega) h).2⟩, h1⟩
/-- a text with a sign put in, left out or exchanged -/
theorem odd_ok {t s : Str} {a b : Nat} (hab : a ≤ b) (ht : PyData.strOk t = true) (hl : t.length ≤ 60) (hs : PyData.strOk s = true) (hsl : s.length ≤ 10) : TxOk (cutS t none (some (a : Int)) ++ s ++ cutS t (some (b : Int)) none) ∧ (cutS t none (some (a : Int))).length ≤ 60 ∧ (cutS t (some (b : Int)) none).length ≤ 60 := by
  have e1 : (cutS t none (some (a : Int))).length ≤ min a t.length := by
    have := cut_len (z := t) (lo := none) (hi := some (a : Int))
    rw [HT.sIx_nat, HT.sIx_none] at this
    omega
  have e2 : (cutS t (some (b : Int)) none).length ≤ t.length - min b t.length := by
    have := cut_len (z := t) (lo := some (b : Int)) (hi := none)
    rw [HT.sIx_nat, HT.sIx_none] at this
    omega
  refine ⟨⟨by rw [str_len, str_len]; omega, ?_⟩, by omega, by omega⟩
  rw [strOk_tl] at ht hs ⊢
  intro c hc
  rw [tl_append, tl_append] at hc
  rcases List.mem_append.mp hc with hc | hc
  · rcases List.mem_append.mp hc with hc | hc
    · exact ht c (cut_sub c hc)
    · exact hs c hc
  · exact ht c (cut_sub c hc)
end Sh
namespace Sh
open PySem PySem.Spec PyProof.Rows L2 Lx Ld TL
theorem noNo_oL : ∀ r : List (Option Int), noNo (oL r) = (nums r).map PyData.int
  | [] => rfl
  | none :: r => noNo_oL r
  | some n :: r => congrArg (PyData.int n :: ·) (noNo_oL r)
theorem isLine_ok {ln : Ln} (hl : ln.length ≤ 8) (h : ∀ p ∈ ln, p.2 ≤ 9) : isLineD (shD ln) = true := by
  show (!decide ((8 : Int) < ((ln.map sD).length : Int)) && (ln.map sD).all isShelfD) = true
  rw [decide_eq_false (by rw [List.length_map]; omega), Bool.not_false, Bool.true_and, List.all_eq_true]
  intro d hd
  obtain ⟨p, hp, rfl⟩ := List.mem_map.mp hd
  have := h p hp
  show (isWordD (.str (wd p.1)) && (decide ((0 : Int) ≤ (p.2 : Int)) && decide ((p.2 : Int) ≤ 9))) = true
  rw [decide_eq_true (by omega), decide_eq_true (by omega)]
  cases p.1 <;> decide +kernel
end Sh
namespace Sh
open PySem PySem.Spec PyProof.Rows L2 Lx Ld TL
theorem unl_ok {ns : List Int} (h : ns.Nodup) : unl ns = true := by
  unfold unl
  rw [RZ.firstMet_nodup h ns.length (Nat.le_refl _), List.take_length]
  exact decide_eq_true rfl
theorem isRow_ok {r : List (Option Int)} (h : RowOk r) : isRowD (.tuple (oL r)) = true := by
  show (!decide ((24 : Int) < ((oL r).length : Int)) && ((noNo (oL r)).all isI && unl ((noNo (oL r)).map intOf))) = true
  have h1 := h.1
  rw [decide_eq_false (by rw [List.length_map]; omega), Bool.not_false, Bool.true_and, noNo_oL, List.map_map]
  have e : (nums r).map (intOf ∘ PyData.int) = nums r := by
    conv => rhs; rw [← List.map_id (nums r)]
    rfl
  rw [e, unl_ok h.2, Bool.and_true, List.all_eq_true]
  intro d hd
  obtain ⟨n, _, rfl⟩ := List.mem_map.mp hd
  rfl
theorem rowD_T {r : List (Option Int)} (h : ∀ n, some n ∈ r → n.natAbs < 200) : rowD (rowT r) = .tuple (oL r) := by
  unfold rowD
  rw [(row_read h).2]
theorem lineD_T {ln : Ln} (h : ∀ p ∈ ln, p.2 ≤ 9) : lineB (lineT ln) = true ∧ lineD (lineT ln) = shD ln := by
  unfold lineB lineD lineW
  rcases line_read h with ⟨h1, rfl⟩ | ⟨h1, h2, h3⟩
  · rw [h1]
    exact ⟨by decide +kernel, if_pos rfl⟩
  · refine ⟨?_, ?_⟩
    · rw [Bool.or_eq_true]
      exact .inr (List.all_eq_true.mpr h2)
    · rw [if_neg h1]
      exact congrArg PyData.tuple h3
theorem tx_row {r : List (Option Int)} (hl : r.length ≤ 12) (h : RowOk r) (hv : ∀ n, some n ∈ r → n.natAbs < 200) : TxR 0 (.str (rowT r)) (.tuple (oL r)) := by
  have := TxR.row (rowT_len hl hv).1 (row_read hv).1 (by rw [rowD_T hv]; exact isRow_ok h)
  rw [rowD_T hv] at this
  exact this
theorem tx_line {ln : Ln} (hl : ln.length ≤ 4) (h : ∀ p ∈ ln, p.2 ≤ 9) : TxR 1 (.str (lineT ln)) (shD ln) := by
  have := TxR.line (lineT_len hl h).1 (lineD_T h).1 (by rw [(lineD_T h).2]; exact isLine_ok (by omega) h)
  rw [(lineD_T h).2] at this
  exact this
end Sh
namespace Sh
open PySem PySem.Spec PyProof.Rows L2 Lx Ld TL
def signs : List Dat := [.str "", .str " ", .str "0", .str "1", .str "-", .str "|", .str "\n", .str "none", .str "a", .str "light 1", .str "\nheavy 2"]
def chSg (d : Dat) : Bool := match d with
  | .str s => PyData.strOk s && decide (s.length ≤ 10)
  | _ => false
theorem bSg {d : Dat} (h : d ∈ signs) : ∃ s, d = .str s ∧ PyData.strOk s = true ∧ s.length ≤ 10 := by
  have h2 : chSg d = true := List.all_eq_true.mp (show signs.all chSg = true by decide +kernel) d h
  match d, h2 with
  | .str s, h2 =>
    have h2 : (PyData.strOk s && decide (s.length ≤ 10)) = true := h2
    rw [Bool.and_eq_true] at h2
    exact ⟨s, rfl, h2.1, of_decide_eq_true h2.2⟩
end Sh
namespace Sh
open PySem PySem.Spec PyProof.Rows L2 Lx Ld TL
theorem shp_shV {t : Str} (h : PyData.strOk t = true) : Shp 2 (shV t) := shp_tup fun d hd => by
  rcases List.mem_cons.mp hd with rfl | hd
  · refine shp_str ?_
    cases hr : rowW t with
    | nil => decide +kernel
    | cons a l => exact (blank_ok h (by rw [hr]; exact List.mem_cons_self)).1
  · rw [List.mem_singleton.mp hd]
    exact ⟨by simp only [PyData.canLay0], by simp [PyData.depth]⟩
theorem shp_parL {X : Str} (o : TxOk X) (h : isLineD (parL X) = true) : Shp 5 (parL X) := by
  cases hb : lineB X with
  | false => rw [parL_no hb] at h; cases h
  | true =>
    rw [parL_ok hb]
    unfold lineD
    split
    · exact ⟨by decide +kernel, by decide +kernel⟩
    · have := shp_tup (n := 2) (ds := (lineW X).map shV) fun d hd => by
        obtain ⟨t, ht, rfl⟩ := List.mem_map.mp hd
        exact shp_shV (feed_ok o.2 ht).1
      exact ⟨this.1, Nat.le_trans this.2 (by decide)⟩
theorem shp_parR {X : Str} (h : isRowD (parR X) = true) : Shp 5 (parR X) := by
  cases hb : rowB X with
  | false => rw [parR_no hb] at h; cases h
  | true =>
    rw [parR_ok hb]
    exact ⟨(shp_to _).1, Nat.le_trans (shp_to _).2 (by decide)⟩
end Sh
namespace Sh
open PySem PySem.Spec PyProof.Rows L2 Lx Ld TL
theorem bad_txt {x : Str} (h : TxOk x) (h1 : isRowD (parR x) = false) (h2 : isLineD (parL x) = false) {k : Nat} (hk : k ≤ 1) : TxR k (.str x) rfn := by
  have a := ask_row h
  have b := ask_line h
  rw [h1, if_neg Bool.false_ne_true] at a
  rw [h2, if_neg Bool.false_ne_true] at b
  obtain rfl | rfl : k = 0 ∨ k = 1 := by omega
  · exact a
  · exact b
def chTx (d : Dat) : Bool := match d with
  | .str x => (decide (x.length ≤ 90) && PyData.strOk x) && (!isRowD (parR x) && !isLineD (parL x))
  | d => isK d
theorem bTx {d : Dat} (h : chTx d = true) {k : Nat} (hk : k ≤ 1) : TxR k d rfn := by
  cases d with
  | str x =>
    have h : ((decide (x.length ≤ 90) && PyData.strOk x) && (!isRowD (parR x) && !isLineD (parL x))) = true := h
    simp only [Bool.and_eq_true, decide_eq_true_eq, Bool.not_eq_true'] at h
    exact bad_txt h.1 h.2.1 h.2.2 hk
  | none => exact .no hk ⟨rfl, rfl⟩
  | bool b => exact .no hk ⟨rfl, rfl⟩
  | int b => exact .no hk ⟨rfl, rfl⟩
  | list b => exact .no hk ⟨rfl, rfl⟩
  | tuple b => exact .no hk ⟨rfl, rfl⟩
  | dict b => cases h
theorem badT (s : Str) : ([.none, .int 5, .str "", .list [.str s], .str "1 1", .str "light", .str "light 1 2", .str "01"] : List Dat).all chTx = true := by
  show (chTx .none && (chTx (.int 5) && (chTx (.str "") && (chTx (.list [.str s]) && (chTx (.str "1 1") && (chTx (.str "light") && (chTx (.str "light 1 2") && (chTx (.str "01") && true)))))))) = true
  rw [show chTx (.list [.str s]) = true from rfl]
  decide +kernel
end Sh
set_option Elab.async false
set_option linter.all false
set_option maxRecDepth 100000
set_option autoImplicit false
set_option maxHeartbeats 8000000
namespace Sh
open PySem PySem.Spec PyProof.Rows L2 Lx Ld
local macro_rules | `(tactic| walk_at "n") => `(tactic| first
  | exact nb_nil
  | exact nb_srcT
  | exact nb_app nb_srcT nb_nil
  | (refine nb_dt ?_; walk_at "n")
  | (refine nb_fr ?_; walk_at "n")
  | (refine nb_sc ?_; walk_at "n")
  | (refine nb_arg ?_; walk_at "n")
  | (refine nb_br (by decide) ?_; walk_at "n")
  | (refine nb_app nb_srcT ?_; walk_at "n"))
local macro_rules | `(tactic| fail "walk VE0") => `(tactic| first
  | ((with_reducible apply ve_var); exact rfl)
  | ((with_reducible apply ve_own); exact rfl; exact rfl)
  | ((with_reducible apply ve_scr); exact rfl)
  | ((with_reducible apply ve_ob); exact rfl)
  | (with_reducible refine ve_int ?_)
  | (with_reducible refine ve_bl ?_)
  | (with_reducible refine ve_non ?_)
  | (with_reducible refine ve_str ?_))
local macro_rules | `(tactic| fail "walk VE1") => `(tactic| first
  | (with_reducible refine ve_op ?_)
  | (with_reducible refine ve_isi ?_)
  | (with_reducible refine ve_c1 ?_)
  | (with_reducible refine ve_c2 ?_)
  | (with_reducible refine ve_callLF ?_)
  | (with_reducible refine ve_callL ?_)
  | (with_reducible refine ve_callNL ?_)
  | (with_reducible refine ve_callV ⟨_, isl_ow rfl⟩ ?_))
local macro_rules | `(tactic| fail "walk VE2") => `(tactic| first
  | (with_reducible refine ve_callOrF ?_)
  | (with_reducible refine ve_callF ?_)
  | (with_reducible refine ve_callFd ?_)
  | (with_reducible refine ve_callG ?_)
  | (with_reducible refine ve_callW ?_)
  | (with_reducible refine ve_tup ?_)
  | (with_reducible refine ve_tidxI ?_)
  | (with_reducible refine ve_popAt ⟨_, isl_ow rfl⟩ ?_))
local macro_rules | `(tactic| fail "walk VE3") => `(tactic| first
  | (with_reducible refine ve_pop0 ⟨_, isl_ow rfl⟩ ?_)
  | (with_reducible refine ve_append ⟨_, isl_ow rfl⟩ (vx_of ?_))
  | (with_reducible refine ve_append ⟨_, isl_ln rfl⟩ (vx_of ?_))
  | (with_reducible refine ve_insert ⟨_, isl_ow rfl⟩ (vx_of ?_))
  | (with_reducible refine ve_extend ⟨_, isl_ow rfl⟩ (vx_of ?_))
  | (with_reducible refine ve_indexI ?_)
  | (with_reducible refine ve_lcount ?_)
  | (with_reducible refine ve_remove ⟨_, isl_ln rfl⟩ ?_))
local macro_rules | `(tactic| fail "walk VE4") => `(tactic| first
  | (with_reducible refine ve_remove ⟨_, isl_ow rfl⟩ ?_)
  | (with_reducible refine ve_ifS ?_)
  | (with_reducible refine ve_ifE ?_)
  | (with_reducible refine ve_lst ?_)
  | (with_reducible refine ve_chain ?_)
  | ((with_reducible apply ve_fldSh); assumption; exact rfl)
  | (with_reducible refine ve_split ?_)
  | (with_reducible refine ve_rmp ?_))
local macro_rules | `(tactic| fail "walk VE5") => `(tactic| first
  | (with_reducible refine ve_join ?_)
  | (with_reducible refine ve_dnew ?_)
  | (with_reducible refine ve_dictZip ?_)
  | (with_reducible refine ve_dget ⟨_, rfl⟩ ?_)
  | (with_reducible refine ve_notV ?_)
  | (with_reducible refine ve_notTp ?_)
  | (with_reducible refine ve_andV ?_)
  | (with_reducible refine ve_orV ?_))
local macro_rules | `(tactic| fail "walk VE6") => `(tactic| first
  | (with_reducible refine ve_maxD ?_)
  | (with_reducible refine ve_un rfl ?_)
  | (with_reducible refine ve_lenSet ?_)
  | (with_reducible refine ve_revL ?_)
  | (with_reducible refine ve_slL ?_)
  | (with_reducible refine ve_slT ?_)
  | (with_reducible refine ve_slS ?_)
  | (with_reducible refine ve_lstRg1 ?_))
local macro_rules | `(tactic| fail "walk VE7") => `(tactic| first
  | (with_reducible refine ve_lstRg2 ?_)
  | (with_reducible refine ve_tidxO ?_))
local macro_rules | `(tactic| fail "walk VE") => `(tactic| first | fail "walk VE0" | fail "walk VE1" | fail "walk VE2" | fail "walk VE3" | fail "walk VE4" | fail "walk VE5" | fail "walk VE6" | fail "walk VE7")
local macro_rules | `(tactic| fail "walk VSs0") => `(tactic| first
  | (with_reducible refine ss_seq ?_)
  | (with_reducible refine ss_set fun ss => ?_)
  | (with_reducible refine ss_parT fun ss => ?_)
  | (with_reducible refine ss_setL fun ss => vx_of ?_)
  | (with_reducible refine ss_swap fun ss => ?_)
  | (with_reducible refine ss_asg4 (by decide) fun ss => ?_)
  | (with_reducible refine ss_asgG fun ss => ?_)
  | (with_reducible refine ss_if fun ss => ?_))
local macro_rules | `(tactic| fail "walk VSs1") => `(tactic| first
  | (with_reducible refine ss_ret fun ss => vd_of ?_)
  | (with_reducible refine ss_retN ?_)
  | (with_reducible refine ss_drop fun ss => ?_)
  | (with_reducible refine ss_par fun ss => ?_)
  | (with_reducible refine ss_par3 fun ss => ?_)
  | (with_reducible refine ss_next ?_)
  | (with_reducible refine ss_cont ?_)
  | (with_reducible refine ss_dput fun ss => ?_))
local macro_rules | `(tactic| fail "walk VSs2") => `(tactic| first
  | (with_reducible refine ss_augI ⟨_, rfl⟩ fun ss => ?_)
  | (with_reducible refine ss_augI0 ⟨_, rfl⟩ fun ss => ?_))
local macro_rules | `(tactic| fail "walk VSs") => `(tactic| first | fail "walk VSs0" | fail "walk VSs1" | fail "walk VSs2")
local macro_rules | `(tactic| fail "walk VAX") => `(tactic| first
  | (with_reducible refine vax_cons (vx_of ?_))
  | (with_reducible refine vax_star ?_)
  | (with_reducible refine vax_nil ?_))
local macro_rules | `(tactic| fail "walk VX") => `(tactic| first
  | (with_reducible refine vx_of ?_))
local macro_rules | `(tactic| fail "walk VT") => `(tactic| first
  | (with_reducible refine vt_B ?_)
  | (with_reducible refine vt_test ?_)
  | (with_reducible refine vt_and ?_)
  | (with_reducible refine vt_or ?_)
  | (with_reducible refine vt_not ?_)
  | (with_reducible refine vt_yes ?_)
  | (with_reducible refine vt_truL ?_)
  | (with_reducible refine vt_truTp ?_))
local macro_rules | `(tactic| fail "walk VD") => `(tactic| first
  | (with_reducible refine vd_of ?_))
local macro_rules | `(tactic| fail "walk R2V0") => `(tactic| first
  | (with_reducible refine r2_inS ?_)
  | (with_reducible refine r2_notInS ?_)
  | (with_reducible refine r2_ii ?_)
  | (with_reducible refine r2_ib ?_)
  | (with_reducible refine r2_eqI ?_)
  | (with_reducible refine r2_neI ?_)
  | (with_reducible refine r2_ic (by first | (show (_ : Int) < _; omega) | (unfold L2.CMul; omega) | (unfold L2.CDiv; omega) | (unfold L2.CPow; omega)) ?_)
  | (with_reducible refine r2_isB ?_))
local macro_rules | `(tactic| fail "walk R2V1") => `(tactic| first
  | (with_reducible refine r2_notB ?_)
  | (with_reducible refine r2_isN rd_dt ?_)
  | (with_reducible refine r2_notN rd_dt ?_)
  | (with_reducible refine r2_eqW ?_)
  | (with_reducible refine r2_eqWW ?_)
  | (with_reducible refine r2_eqB ?_)
  | (with_reducible refine r2_neB ?_))
local macro_rules | `(tactic| fail "walk R2V") => `(tactic| first | fail "walk R2V0" | fail "walk R2V1")
local macro_rules | `(tactic| fail "walk C1V0") => `(tactic| first
  | (with_reducible refine c1_strS ?_)
  | (with_reducible refine c1_strI (by omega) ?_)
  | (with_reducible refine c1_len (sq_l rd_dt) ?_)
  | (with_reducible refine c1_len (sq_l rd_fr) ?_)
  | (with_reducible refine c1_len sq_t ?_)
  | (with_reducible refine c1_len (sq_l (rd_ow rfl)) ?_)
  | (with_reducible refine c1_len (sq_l (rd_ln rfl)) ?_)
  | (with_reducible refine c1_tupL (rd_ow rfl) ?_))
local macro_rules | `(tactic| fail "walk C1V1") => `(tactic| first
  | (with_reducible refine c1_listL (rd_ow rfl) ?_)
  | (with_reducible refine c1_lenS ?_)
  | (with_reducible refine c1_intB ?_)
  | (with_reducible refine c1_intI ?_)
  | (with_reducible refine c1_tupT ?_)
  | (with_reducible refine c1_tupL rd_dt ?_)
  | (with_reducible refine c1_tupL rd_fr ?_)
  | (with_reducible refine c1_listT ?_))
local macro_rules | `(tactic| fail "walk C1V2") => `(tactic| first
  | (with_reducible refine c1_listL rd_dt ?_)
  | (with_reducible refine c1_listL rd_fr ?_))
local macro_rules | `(tactic| fail "walk C1V") => `(tactic| first | fail "walk C1V0" | fail "walk C1V1" | fail "walk C1V2")
local macro_rules | `(tactic| fail "walk VI0") => `(tactic| first
  | (with_reducible refine vi_str ?_)
  | (with_reducible refine vi_list ?_)
  | (with_reducible refine vi_tup ?_)
  | (with_reducible refine vi_rng1 ?_)
  | (with_reducible refine vi_rng2 ?_)
  | (with_reducible refine vi_enum ?_)
  | (with_reducible refine vi_enumT ?_)
  | (with_reducible refine vi_zip ?_))
local macro_rules | `(tactic| fail "walk VI1") => `(tactic| first
  | (with_reducible refine vi_zipM ?_)
  | (with_reducible refine vi_zipT2 ?_)
  | (with_reducible refine vi_zipLT ?_))
local macro_rules | `(tactic| fail "walk VI") => `(tactic| first | fail "walk VI0" | fail "walk VI1")
local macro_rules | `(tactic| fail "walk VG") => `(tactic| first
  | (with_reducible refine vg_name ?_)
  | (with_reducible refine vg_pair ?_)
  | (with_reducible refine vg_three ?_)
  | (with_reducible refine vg_nest ?_))
local macro_rules | `(tactic| fail "walk AsB") => `(tactic| first
  | (with_reducible refine asb ?_))
local macro_rules | `(tactic| fail "walk C2V") => `(tactic| first
  | (with_reducible refine c2_max ?_)
  | (with_reducible refine c2_min ?_))
local macro_rules | `(tactic| fail "walk VO") => `(tactic| first
  | (with_reducible refine vo_none ?_)
  | (with_reducible refine vo_some ?_))
local macro_rules | `(tactic| fail "walk Fz") => `(tactic| first
  | (with_reducible refine fz_dt ?_)
  | (with_reducible refine fz_fr ?_)
  | ((with_reducible apply fz_br); exact rfl))
local macro_rules | `(tactic| fail "walk Az") => `(tactic| first
  | (with_reducible refine az_dt ?_)
  | (with_reducible refine az_fr ?_)
  | (with_reducible refine az_sc ?_)
  | ((with_reducible apply az_br); exact rfl))
local macro_rules | `(tactic| fail "walk Sto") => `(tactic| first
  | (with_reducible refine sto_dt ?_)
  | (with_reducible refine sto_ob ?_)
  | (with_reducible refine sto_fr ?_)
  | ((with_reducible apply sto_br); exact rfl))
local macro_rules | `(tactic| fail "walk VSt") => `(tactic| first
  | (with_reducible refine st_seqT ?_)
  | (with_reducible refine st_ret fun ss => ?_)
  | (with_reducible refine st_if fun ss => ?_)
  | (with_reducible refine st_of ?_))
local macro_rules | `(tactic| fail "walk gen0") => `(tactic| first
  | (with_reducible refine fl_fr ?_)
  | ((with_reducible apply fl_br); exact rfl)
  | (refine ⟨⟨_, rd_dt⟩, ?_⟩)
  | (refine ⟨⟨_, rd_ow rfl⟩, ?_⟩)
  | (refine ⟨_, _, rfl, kb_ss, ?_⟩)
  | (refine ⟨_, _, rfl, kb_bb, ?_⟩)
  | (with_reducible refine b2 (fun hb => ?_) (fun hb => ?_))
  | (refine ⟨_, _, rfl, kb_tt, ?_⟩))
local macro_rules | `(tactic| fail "walk gen1") => `(tactic| first
  | (refine ⟨_, _, rfl, kb_ii, ?_⟩)
  | (refine ⟨_, _, rfl, kb_ib, ?_⟩)
  | (refine ⟨_, _, rfl, kb_ll, ?_⟩)
  | (refine ⟨_, (rfl : dts _ = some _), gl_le (by simp), ?_⟩)
  | (refine ⟨_, (rfl : Tmp.dt (.int _) = Tmp.dt (.int _)), ?_⟩)
  | (refine ⟨_, (rfl : Tmp.dt (.tuple _) = Tmp.dt (.tuple _)), ?_⟩)
  | (refine ⟨_, (rfl : PyData.list _ = PyData.list _), ?_⟩)
  | (refine ⟨_, (rfl : PyData.tuple _ = PyData.tuple _), ?_⟩))
local macro_rules | `(tactic| fail "walk gen2") => `(tactic| first
  | (refine ⟨_, rd_fr, ?_⟩)
  | (refine ⟨_, rd_dt, ?_⟩)
  | (refine ⟨_, rd_ow rfl, ?_⟩)
  | (refine ⟨⟨_, rfl⟩, ?_⟩)
  | (refine ⟨⟨_, isl_ow rfl⟩, ?_⟩)
  | (refine ⟨⟨_, isl_ln rfl⟩, ?_⟩)
  | (refine ⟨(by intro k z; cases z), _, _, rfl, rfl, ?_⟩)
  | (dsimp only [DE.wn]))
local macro_rules | `(tactic| fail "walk gen3") => `(tactic| first
  | (exact absurd (by assumption) Bool.false_ne_true)
  | (exact absurd (by assumption) Bool.false_ne_true.symm))
local macro_rules | `(tactic| fail "walk gen") => `(tactic| first | fail "walk gen0" | fail "walk gen1" | fail "walk gen2" | fail "walk gen3")
local macro_rules | `(tactic| fail "walk small") => `(tactic| first | (guard_target =~ VI ..; fail "walk VI") | (guard_target =~ VG ..; fail "walk VG") | (guard_target =~ AsB ..; fail "walk AsB") | (guard_target =~ C2V ..; fail "walk C2V") | (guard_target =~ VO ..; fail "walk VO") | (guard_target =~ Fz ..; fail "walk Fz") | (guard_target =~ Az ..; fail "walk Az") | (guard_target =~ Sto ..; fail "walk Sto") | (guard_target =~ VSt ..; fail "walk VSt"))
local macro_rules | `(tactic| fail "walk") => `(tactic| first | (guard_target =~ VE ..; fail "walk VE") | (guard_target =~ VSs ..; fail "walk VSs") | (guard_target =~ VAX ..; fail "walk VAX") | (guard_target =~ VX ..; fail "walk VX") | (guard_target =~ VT ..; fail "walk VT") | (guard_target =~ VD ..; fail "walk VD") | (guard_target =~ R2V ..; fail "walk R2V") | (guard_target =~ C1V ..; fail "walk C1V") | fail "walk small" | fail "walk gen" | fail "no step")
local macro_rules | `(tactic| walk_at "v") => `(tactic| fail "walk")
local macro_rules | `(tactic| walk_at "s") => `(tactic| (try dsimp only [DE.wn, putC, Cell.put, List.getElem?_cons_zero, List.getElem?_cons_succ, cxOf, cells0, List.map, Arg.cell, Arg.tmp, List.length, List.replicate, List.append, List.cons_append, List.nil_append, List.set, Nat.reduceAdd, Nat.reduceSub, List.reduceReplicate, clr, List.set_cons_zero, List.set_cons_succ]))
local macro_rules | `(tactic| walk_at "w") => `(tactic| (repeat' fail "walk"))
section
variable {P : Program} {w : World} {K : PySem.W.Frag} {mg : Str → Option Value} {base : Heap}
theorem ok__law_which {f : Addr} {fd : FuncData} (D : Df K mg "_law_which" s__law_which ["_law_e"] f fd) {C_NoRow : Addr} (g_NoRow : mg "NoRow" = some (.ref C_NoRow)) {C_NoShelf : Addr} (g_NoShelf : mg "NoShelf" = some (.ref C_NoShelf)) {C_NoLine : Addr} (g_NoLine : mg "NoLine" = some (.ref C_NoLine)) {C_NoPlaces : Addr} (g_NoPlaces : mg "NoPlaces" = some (.ref C_NoPlaces)) {C_Marked : Addr} (g_Marked : mg "Marked" = some (.ref C_Marked)) {C_NoCounts : Addr} (g_NoCounts : mg "NoCounts" = some (.ref C_NoCounts)) {C_NoLetting : Addr} (g_NoLetting : mg "NoLetting" = some (.ref C_NoLetting)) {C_TooMany : Addr} (g_TooMany : mg "TooMany" = some (.ref C_TooMany)) {C_NoMove : Addr} (g_NoMove : mg "NoMove" = some (.ref C_NoMove)) {C_NoText : Addr} (g_NoText : mg "NoText" = some (.ref C_NoText)) {C_NoNumber : Addr} (g_NoNumber : mg "NoNumber" = some (.ref C_NoNumber)) {C_Nothing : Addr} (g_Nothing : mg "Nothing" = some (.ref C_Nothing)) (m_isinstance : mg "isinstance" = none) (m_ValueError : mg "ValueError" = none) {idx : Addr → Option Int} (hK : ∀ X n, idx X = some n → KitF K X n [C_NoRow, C_NoShelf, C_NoLine, C_NoPlaces, C_Marked, C_NoCounts, C_NoLetting, C_TooMany, C_NoMove, C_NoText, C_NoNumber, C_Nothing]) : Xa.FnE P w K mg base 1 f fd ["_law_e"] (spE idx) := by
  obtain ⟨oc, od, kV, doc, pm, an, cdv, ct, osl, rfl, lk, hcd⟩ := D.F.ex
  refine Xa.fn_ofE lk hcd sc__law_which (fun a c d vs H Q E h => by obtain ⟨rfl, _⟩ := h; rfl) fun A outer s H vs Q E p cls d hot hz hr h => ?_
  obtain ⟨rfl, hn, rfl, X, n, rfl, hi, B, sub, q⟩ := h
  have kf := hK X n hi
  obtain ⟨hh, vs0, hv0, hc0⟩ := hot
  have ci : CallR (L2H.cxH CX0 P w K mg base ["_law_e", "_law_own"] "_law_which" (defScope s__law_which) f cdv A outer s H E p) (.builtin "isinstance") (rIsE K X p.1) := Xa.call_isX (a := p.1) (oe := p.2) (List.mem_singleton.mpr rfl) kf.e hz.zc ⟨vs0, hv0⟩
  refine ⟨_, (pss_cons (ps_set (i := 1) sc__law_which.nd rfl (Or.inl rfl) (pe_lst (pa_cons (pe_callB ci (by rfl) m_isinstance (by decide +kernel) (pa_cons (pv 0) (pa_cons (pe_glob (v := .ref C_NoRow) (by rfl) g_NoRow rfl) pa_nil))) (pa_cons (pe_callB ci (by rfl) m_isinstance (by decide +kernel) (pa_cons (pv 0) (pa_cons (pe_glob (v := .ref C_NoShelf) (by rfl) g_NoShelf rfl) pa_nil))) (pa_cons (pe_callB ci (by rfl) m_isinstance (by decide +kernel) (pa_cons (pv 0) (pa_cons (pe_glob (v := .ref C_NoLine) (by rfl) g_NoLine rfl) pa_nil))) (pa_cons (pe_callB ci (by rfl) m_isinstance (by decide +kernel) (pa_cons (pv 0) (pa_cons (pe_glob (v := .ref C_NoPlaces) (by rfl) g_NoPlaces rfl) pa_nil))) pa_nil))))))
      (pss_cons (ps_expr (pe_bm PySem.F.plainAttrs_list PySem.F.slot_list_extend PySem.F.type_list_extend mt_extend (pv 1) (pa_cons (pe_lst (pa_cons (pe_callB ci (by rfl) m_isinstance (by decide +kernel) (pa_cons (pv 0) (pa_cons (pe_glob (v := .ref C_Marked) (by rfl) g_Marked rfl) pa_nil))) (pa_cons (pe_callB ci (by rfl) m_isinstance (by decide +kernel) (pa_cons (pv 0) (pa_cons (pe_glob (v := .ref C_NoCounts) (by rfl) g_NoCounts rfl) pa_nil))) (pa_cons (pe_callB ci (by rfl) m_isinstance (by decide +kernel) (pa_cons (pv 0) (pa_cons (pe_glob (v := .ref C_NoLetting) (by rfl) g_NoLetting rfl) pa_nil))) (pa_cons (pe_callB ci (by rfl) m_isinstance (by decide +kernel) (pa_cons (pv 0) (pa_cons (pe_glob (v := .ref C_TooMany) (by rfl) g_TooMany rfl) pa_nil))) pa_nil))))) pa_nil)))
      (pss_cons (ps_expr (pe_bm PySem.F.plainAttrs_list PySem.F.slot_list_extend PySem.F.type_list_extend mt_extend (pv 1) (pa_cons (pe_lst (pa_cons (pe_callB ci (by rfl) m_isinstance (by decide +kernel) (pa_cons (pv 0) (pa_cons (pe_glob (v := .ref C_NoMove) (by rfl) g_NoMove rfl) pa_nil))) (pa_cons (pe_callB ci (by rfl) m_isinstance (by decide +kernel) (pa_cons (pv 0) (pa_cons (pe_glob (v := .ref C_NoText) (by rfl) g_NoText rfl) pa_nil))) (pa_cons (pe_callB ci (by rfl) m_isinstance (by decide +kernel) (pa_cons (pv 0) (pa_cons (pe_glob (v := .ref C_NoNumber) (by rfl) g_NoNumber rfl) pa_nil))) (pa_cons (pe_callB ci (by rfl) m_isinstance (by decide +kernel) (pa_cons (pv 0) (pa_cons (pe_glob (v := .ref C_Nothing) (by rfl) g_Nothing rfl) pa_nil))) pa_nil))))) pa_nil)))
      (pss_cons (ps_if (PW.pt (pw_or (pt_cmpR op_ne (pe_bm PySem.F.plainAttrs_list PySem.F.slot_list_count PySem.F.type_list_count Xa.mt_lcountV (pv 1) (pa_cons pe_bl pa_nil)) pe_int (nomark _)) (pw_or1 (pt_not (pt_val (pe_callB ci (by rfl) m_isinstance (by decide +kernel) (pa_cons (pv 0) (pa_cons (pe_bltn (v := .ty "ValueError") (by rfl) m_ValueError (by decide +kernel) rfl) pa_nil)))))))) (pss_one (ps_ret (pe_tupF (pa_cons pe_str (pa_cons (pe_un un_neg pe_int) pa_nil))))) pss_nil)
      (pss_one (ps_ret (pe_tupF (pa_cons pe_str (pa_cons (pe_bm PySem.F.plainAttrs_list PySem.F.slot_list_index PySem.F.type_list_index mt_index (pv 1) (pa_cons pe_bl pa_nil)) pa_nil))))))))), ?_⟩
  have sz : ∀ {n : Nat}, n ≤ 12 → n ≤ sizeLine := fun h => Sh.gl_le (by omega)
  refine is_rd rfl (kf.o 0 _ rfl) (is_rd rfl (kf.o 1 _ rfl) (is_rd rfl (kf.o 2 _ rfl) (is_rd rfl (kf.o 3 _ rfl) ⟨sz (by simp), fun l hl => ?_⟩)))
  refine ⟨_, rfl, .inl ⟨rfl, _, .of upd_same⟩, is_rd rfl (kf.o 4 _ rfl) (is_rd rfl (kf.o 5 _ rfl) (is_rd rfl (kf.o 6 _ rfl) (is_rd rfl (kf.o 7 _ rfl) ⟨sz (by simp), fun l2 hl2 => ?_⟩)))⟩
  have n12 : l ≠ l2 := fun e => by rw [← e, upd_same] at hl2; cases hl2
  refine ⟨l, l2, _, _, rfl, rfl, by rw [upd_ne n12, upd_same], upd_same, sz (by simp), ?_⟩
  refine ⟨_, rfl, .inl ⟨rfl, _, .of upd_same⟩, is_rd rfl (kf.o 8 _ rfl) (is_rd rfl (kf.o 9 _ rfl) (is_rd rfl (kf.o 10 _ rfl) (is_rd rfl (kf.o 11 _ rfl) ⟨sz (by simp), fun l3 hl3 => ?_⟩)))⟩
  have n13 : l ≠ l3 := fun e => by rw [← e, upd_same] at hl3; cases hl3
  refine ⟨l, l3, _, _, rfl, rfl, by rw [upd_ne n13, upd_same], upd_same, sz (by simp), ?_⟩
  have hn0 := kf.n0
  have hn1 := kf.n1
  have hcs : n = 0 ∨ n = 1 ∨ n = 2 ∨ n = 3 ∨ n = 4 ∨ n = 5 ∨ n = 6 ∨ n = 7 ∨ n = 8 ∨ n = 9 ∨ n = 10 ∨ n = 11 := by omega
  refine ⟨_, rfl, .inl ⟨rfl, _, .of upd_same⟩, l, _, _, rfl, rfl, .of upd_same, rfl, rfl, ?_⟩
  refine ⟨rfl, _, rfl, ?_⟩
  have fin : ∀ {j : Nat} {bs : List V} {H1 : Hp}, n = (j : Int) → j < 12 → H1 l = some (.lst bs) → bs.all flatV = true → bs[j]? = some (.bl true) → (bs.take j).all (fun z => !eqV z (.bl true)) = true → (∀ a o, H a = some o → H1 a = some o) →
      tRet (tTupF (tCons (tC (V.str "refused")) (tCons (tBM K "list" (rIndex K) (tVar 1) (tCons (tC (V.bl true)) tNil)) tNil))) { nx := fun _ H' => Q .non H', rt := Q } (List.set (L2.start ["_law_e", "_law_own"] [V.ref p.fst]) 1 (some (V.ref l))) H1 := fun {j bs H1} e hj h1 h2 h3 h4 hk => by
    refine ⟨_, rfl, .inl ⟨rfl, _, .of h1⟩, l, bs, .bl true, j, .bl true, rfl, rfl, .of h1, rfl, h2, h3, rfl, idx_pre h4, ?_⟩
    refine ⟨sz (by simp), ?_⟩
    intro p2 o2 hd2 hp2
    have hB2 : B p2 = none := by
      cases e2 : B p2 with
      | none => rfl
      | some u => rw [hk p2 u (sub p2 u e2)] at hp2; cases hp2
    have keepB : ∀ a o, H a = some o → upd H1 p2 (.frz o2 (.tup [.str "refused", .int (j : Int)])) a = some o := fun a o ea => by
      rw [upd_ne (ne_of_none (hk a o ea) hp2)]
      exact hk a o ea
    refine q (.ref p2) ⟨upd B p2 (.frz o2 (.tup [.str "refused", .int (j : Int)])), upd H1 p2 (.frz o2 (.tup [.str "refused", .int (j : Int)]))⟩ ⟨fun a o ea => ?_, fun a o _ ea => keepB a o ea, fun a ea na => ?_, fun a na => ?_⟩ (fun a o ea => ?_) ?_
    · show upd B p2 _ a = some o
      rw [upd_ne (ne_of_none ea hB2)]
      exact ea
    · show upd B p2 _ a = none
      by_cases e3 : a = p2
      · subst e3
        cases e4 : H a with
        | none => exact absurd e4 na
        | some u => rw [hk a u e4] at hp2; cases hp2
      · rw [upd_ne e3]
        exact ea
    · cases e4 : H a with
      | none => exact absurd e4 na
      | some u =>
        show upd H1 p2 _ a ≠ none
        rw [keepB a u e4]
        exact fun z => nomatch z
    · have ea : upd B p2 (.frz o2 (.tup [.str "refused", .int (j : Int)])) a = some o := ea
      show upd H1 p2 _ a = some o
      by_cases e3 : a = p2
      · subst e3
        rw [upd_same] at ea ⊢
        exact ea
      · rw [upd_ne e3] at ea
        exact keepB a o (sub a o ea)
    · rw [e]
      exact .tup hd2 upd_same (.cons (.str _) (.cons (.int _) .nil))
  have h2n : H l2 = none := by rw [upd_ne n12.symm] at hl2; exact hl2
  have h3n : H l3 = none := by
    rw [upd_ne n13.symm] at hl3
    by_cases e3 : l3 = l2
    · rw [e3, upd_same] at hl3; cases hl3
    · rw [upd_ne e3, upd_ne n13.symm] at hl3; exact hl3
  have kp : ∀ (x1 x2 x3 x4 x5 : HO) a o, H a = some o → upd (upd (upd (upd (upd H l x1) l2 x2) l x3) l3 x4) l x5 a = some o := fun x1 x2 x3 x4 x5 a o ea => by
    rw [upd_ne (ne_of_none ea hl), upd_ne (ne_of_none ea h3n), upd_ne (ne_of_none ea hl), upd_ne (ne_of_none ea h2n), upd_ne (ne_of_none ea hl)]
    exact ea
  rcases hcs with rfl | rfl | rfl | rfl | rfl | rfl | rfl | rfl | rfl | rfl | rfl | rfl
  · refine ite_f (by decide) (is_rdV rfl kf.v ⟨true, rfl, ite_f rfl ?_⟩)
    exact fin (j := 0) rfl (by decide) upd_same rfl rfl rfl (kp _ _ _ _ _)
  · refine ite_f (by decide) (is_rdV rfl kf.v ⟨true, rfl, ite_f rfl ?_⟩)
    exact fin (j := 1) rfl (by decide) upd_same rfl rfl rfl (kp _ _ _ _ _)
  · refine ite_f (by decide) (is_rdV rfl kf.v ⟨true, rfl, ite_f rfl ?_⟩)
    exact fin (j := 2) rfl (by decide) upd_same rfl rfl rfl (kp _ _ _ _ _)
  · refine ite_f (by decide) (is_rdV rfl kf.v ⟨true, rfl, ite_f rfl ?_⟩)
    exact fin (j := 3) rfl (by decide) upd_same rfl rfl rfl (kp _ _ _ _ _)
  · refine ite_f (by decide) (is_rdV rfl kf.v ⟨true, rfl, ite_f rfl ?_⟩)
    exact fin (j := 4) rfl (by decide) upd_same rfl rfl rfl (kp _ _ _ _ _)
  · refine ite_f (by decide) (is_rdV rfl kf.v ⟨true, rfl, ite_f rfl ?_⟩)
    exact fin (j := 5) rfl (by decide) upd_same rfl rfl rfl (kp _ _ _ _ _)
  · refine ite_f (by decide) (is_rdV rfl kf.v ⟨true, rfl, ite_f rfl ?_⟩)
    exact fin (j := 6) rfl (by decide) upd_same rfl rfl rfl (kp _ _ _ _ _)
  · refine ite_f (by decide) (is_rdV rfl kf.v ⟨true, rfl, ite_f rfl ?_⟩)
    exact fin (j := 7) rfl (by decide) upd_same rfl rfl rfl (kp _ _ _ _ _)
  · refine ite_f (by decide) (is_rdV rfl kf.v ⟨true, rfl, ite_f rfl ?_⟩)
    exact fin (j := 8) rfl (by decide) upd_same rfl rfl rfl (kp _ _ _ _ _)
  · refine ite_f (by decide) (is_rdV rfl kf.v ⟨true, rfl, ite_f rfl ?_⟩)
    exact fin (j := 9) rfl (by decide) upd_same rfl rfl rfl (kp _ _ _ _ _)
  · refine ite_f (by decide) (is_rdV rfl kf.v ⟨true, rfl, ite_f rfl ?_⟩)
    exact fin (j := 10) rfl (by decide) upd_same rfl rfl rfl (kp _ _ _ _ _)
  · refine ite_f (by decide) (is_rdV rfl kf.v ⟨true, rfl, ite_f rfl ?_⟩)
    exact fin (j := 11) rfl (by decide) upd_same rfl rfl rfl (kp _ _ _ _ _)
theorem ok_is_whole {f : Addr} {fd : FuncData} (D : Df K mg "is_whole" s_is_whole ["thing"] f fd) (m_bool : mg "bool" = none) (m_int : mg "int" = none) (m_isinstance : mg "isinstance" = none) : Cal P w K mg base 1 "is_whole" ["thing"] (spF K (fun d : Int => [.dt (.int d)]) (fun _ => True) fun _ => .bool true) f fd := by
  refine D.cal (ok_G D.F sc_is_whole (fun _ => rfl) (by decide) fun cdv A outer s H E hr => ⟨_, (pss_one (ps_ret (pe_and (pe_callB call_isi (by rfl) m_isinstance (by decide +kernel) (pa_cons (pv 0) (pa_cons (pe_bltn (v := .ty "int") (by rfl) m_int (by decide +kernel) rfl) pa_nil))) (pe_one (pe_not (pe_callB call_isi (by rfl) m_isinstance (by decide +kernel) (pa_cons (pv 0) (pa_cons (pe_bltn (v := .ty "bool") (by rfl) m_bool (by decide +kernel) rfl) pa_nil)))))))), fun x hp => ?_⟩)
  walk_at "s"
  walk_at "w"
  rfl
theorem ok_is_wholeO {f : Addr} {fd : FuncData} (D : Df K mg "is_whole" s_is_whole ["thing"] f fd) (m_bool : mg "bool" = none) (m_int : mg "int" = none) (m_isinstance : mg "isinstance" = none) : Cal P w K mg base 1 "is_whole" ["thing"] (spF K (fun d : Dat => [.dt d]) (fun d => isK d = true) fun d => .bool (isI d)) f fd := by
  refine D.cal (ok_G D.F sc_is_whole (fun _ => rfl) (by decide) fun cdv A outer s H E hr => ⟨_, (pss_one (ps_ret (pe_and (pe_callB call_isi (by rfl) m_isinstance (by decide +kernel) (pa_cons (pv 0) (pa_cons (pe_bltn (v := .ty "int") (by rfl) m_int (by decide +kernel) rfl) pa_nil))) (pe_one (pe_not (pe_callB call_isi (by rfl) m_isinstance (by decide +kernel) (pa_cons (pv 0) (pa_cons (pe_bltn (v := .ty "bool") (by rfl) m_bool (by decide +kernel) rfl) pa_nil)))))))), fun x hp => ?_⟩)
  cases x with
  | dict => cases hp
  | none =>
    walk_at "s"
    walk_at "w"
    rfl
  | bool b =>
    walk_at "s"
    walk_at "w"
    rfl
  | int b =>
    walk_at "s"
    walk_at "w"
    rfl
  | str b =>
    walk_at "s"
    walk_at "w"
    rfl
  | list b =>
    walk_at "s"
    walk_at "w"
    rfl
  | tuple b =>
    walk_at "s"
    walk_at "w"
    rfl
theorem ok_is_whole_within {f : Addr} {fd : FuncData} (D : Df K mg "is_whole_within" s_is_whole_within ["thing", "least", "most"] f fd) {f_is_whole : Addr} {d_is_whole : FuncData} (C_is_whole : Cal P w K mg base 1 "is_whole" ["thing"] (spF K (fun d : Int => [.dt (.int d)]) (fun _ => True) fun _ => .bool true) f_is_whole d_is_whole) : Cal P w K mg base 2 "is_whole_within" ["thing", "least", "most"] (spF K (fun p : Int × Int × Int => [.dt (.int p.1), .dt (.int p.2.1), .dt (.int p.2.2)]) (fun _ => True) fun p => .bool (decide (p.2.1 ≤ p.1) && decide (p.1 ≤ p.2.2))) f fd := by
  refine D.cal (ok_G D.F sc_is_whole_within (fun _ => rfl) (by decide) fun cdv A outer s H E hr => ⟨_, (pss_one (ps_ret (pe_and (pe_call C_is_whole.G (hr.mono (by decide)) (by rfl) C_is_whole.g C_is_whole.kp C_is_whole.b .nil pass0 (pa_cons (pv 0) pa_nil)) (pe_one (pe_chain op_le op_le (pv 1) (pv 0) (pv 2)))))), fun x hp => ?_⟩)
  walk_at "s"
  walk_at "w"
  refine ⟨_, rfl, trivial, ?_⟩
  walk_at "w"
  · rename_i h
    rw [h]
    rfl
  · rename_i h
    rw [h]
    rfl
theorem ok_is_whole_withinO {f : Addr} {fd : FuncData} (D : Df K mg "is_whole_within" s_is_whole_within ["thing", "least", "most"] f fd) {f_is_wholeO : Addr} {d_is_wholeO : FuncData} (C_is_wholeO : Cal P w K mg base 1 "is_whole" ["thing"] (spF K (fun d : Dat => [.dt d]) (fun d => isK d = true) fun d => .bool (isI d)) f_is_wholeO d_is_wholeO) : Cal P w K mg base 2 "is_whole_within" ["thing", "least", "most"] (spF K (fun p : Dat × Int × Int => [.dt p.1, .dt (.int p.2.1), .dt (.int p.2.2)]) (fun p => isK p.1 = true) fun p => .bool (isWithinD p.1 p.2.1 p.2.2)) f fd := by
  refine D.cal (ok_G D.F sc_is_whole_within (fun _ => rfl) (by decide) fun cdv A outer s H E hr => ⟨_, (pss_one (ps_ret (pe_and (pe_call C_is_wholeO.G (hr.mono (by decide)) (by rfl) C_is_wholeO.g C_is_wholeO.kp C_is_wholeO.b .nil pass0 (pa_cons (pv 0) pa_nil)) (pe_one (pe_chain op_le op_le (pv 1) (pv 0) (pv 2)))))), fun x hp => ?_⟩)
  obtain ⟨d, lo, hi⟩ := x
  dsimp only at hp ⊢
  walk_at "s"
  walk_at "w"
  refine ⟨d, rfl, hp, ?_⟩
  cases d with
  | dict => cases hp
  | int n =>
    walk_at "w"
    · rename_i h
      show PyData.bool _ = PyData.bool _
      rw [isWithinD, h]
      rfl
    · rename_i h
      show PyData.bool _ = PyData.bool _
      rw [isWithinD, h]
      rfl
  | none =>
    walk_at "w"
    rfl
  | bool b =>
    walk_at "w"
    rfl
  | str b =>
    walk_at "w"
    rfl
  | list b =>
    walk_at "w"
    rfl
  | tuple b =>
    walk_at "w"
    rfl
theorem ok__numbers_of {f : Addr} {fd : FuncData} (D : Df K mg "_numbers_of" s__numbers_of ["things"] f fd) : Cal P w K mg base 1 "_numbers_of" ["things"] (spF K (fun r : List (Option Int) => [.dt (.tuple (oL r))]) (fun r => r.length ≤ 100) fun r => .list (iL (nums r))) f fd := by
  refine D.cal (ok_G D.F sc__numbers_of (fun _ => rfl) (by decide) fun cdv A outer s H E hr => ⟨_, (pss_one (ps_ret (pe_lc (own := [("thing", 1)]) rfl sc__numbers_of.nd (pi_tup (pv 0)) (blkOk_by (own := [("thing", 1)]) (N := ["things", "thing"]) (sc := (defScope s__numbers_of)) (by decide +kernel)) (fun _ _ _ _ _ => (pg_name (i := 1) sc__numbers_of.nd rfl (by first | exact Or.inl rfl | exact Or.inr rfl))) (fun _ _ _ _ _ => (pts_one (pt_cmpR oi_notN (pv 1) pe_non (nomark _)))) (fun _ _ _ _ _ => (pv 1))))), fun x hp => ?_⟩)
  walk_at "s"
  walk_at "w"
  apply ve_lcT (vs := [1]) oD x _ _ (by walk_at "n")
  walk_at "w"
  refine ⟨rfl, by simp, gl_lt (by omega), fun a ha => ⟨_, tg_name (by decide), fun acc srcs => ?_⟩, ?_⟩
  · walk_at "s"
    walk_at "w"
    refine ⟨rfl, fun _ => ?_, fun _ => rfl⟩
    walk_at "w"
    exact ⟨rfl, rfl⟩
  · walk_at "w"
    show PyData.list _ = _
    rw [nums_eq]
theorem ok_numbersO {f : Addr} {fd : FuncData} (D : Df K mg "_numbers_of" s__numbers_of ["things"] f fd) : Cal P w K mg base 1 "_numbers_of" ["things"] (spF K (fun r : List Dat => [.dt (.tuple r)]) (fun r => r.length ≤ 100) fun r => .list (r.filter fun d => !isNo d)) f fd := by
  refine D.cal (ok_G D.F sc__numbers_of (fun _ => rfl) (by decide) fun cdv A outer s H E hr => ⟨_, (pss_one (ps_ret (pe_lc (own := [("thing", 1)]) rfl sc__numbers_of.nd (pi_tup (pv 0)) (blkOk_by (own := [("thing", 1)]) (N := ["things", "thing"]) (sc := (defScope s__numbers_of)) (by decide +kernel)) (fun _ _ _ _ _ => (pg_name (i := 1) sc__numbers_of.nd rfl (by first | exact Or.inl rfl | exact Or.inr rfl))) (fun _ _ _ _ _ => (pts_one (pt_cmpR oi_notN (pv 1) pe_non (nomark _)))) (fun _ _ _ _ _ => (pv 1))))), fun x hp => ?_⟩)
  walk_at "s"
  walk_at "w"
  apply ve_lcT (vs := [1]) id x _ _ (by walk_at "n")
  walk_at "w"
  refine ⟨(List.map_id _).symm, by simp, gl_lt (by omega), fun a ha => ⟨_, tg_name (by decide), fun acc srcs => ?_⟩, ?_⟩
  · walk_at "s"
    walk_at "w"
    refine ⟨rfl, fun _ => ?_, fun _ => rfl⟩
    walk_at "w"
    exact ⟨rfl, rfl⟩
  · walk_at "w"
    rw [List.map_id]
    rfl
theorem ok_is_row {f : Addr} {fd : FuncData} (D : Df K mg "is_row" s_is_row ["thing"] f fd) {f__numbers_of : Addr} {d__numbers_of : FuncData} (C__numbers_of : Cal P w K mg base 1 "_numbers_of" ["things"] (spF K (fun r : List (Option Int) => [.dt (.tuple (oL r))]) (fun r => r.length ≤ 100) fun r => .list (iL (nums r))) f__numbers_of d__numbers_of) {f_is_whole : Addr} {d_is_whole : FuncData} (C_is_whole : Cal P w K mg base 1 "is_whole" ["thing"] (spF K (fun d : Int => [.dt (.int d)]) (fun _ => True) fun _ => .bool true) f_is_whole d_is_whole) (m_all : mg "all" = none) (m_isinstance : mg "isinstance" = none) (m_len : mg "len" = none) (m_set : mg "set" = none) (m_tuple : mg "tuple" = none) (c_MOST_THINGS : GlobI K mg "MOST_THINGS" 24) : Cal P w K mg base 2 "is_row" ["thing"] (spF K (fun r : List (Option Int) => [.dt (.tuple (oL r))]) RowOk fun _ => .bool true) f fd := by
  refine D.cal (ok_G D.F sc_is_row (fun _ => rfl) (by decide) fun cdv A outer s H E hr => ⟨_, (pss_cons (ps_if (PW.pt (pw_or (pt_not (pt_val (pe_callB call_isi (by rfl) m_isinstance (by decide +kernel) (pa_cons (pv 0) (pa_cons (pe_bltn (v := .ty "tuple") (by rfl) m_tuple (by decide +kernel) rfl) pa_nil))))) (pw_or1 (pt_cmpR op_gt (pe_callB cl_len (by rfl) m_len PySem.boot_len (pa_cons (pv 0) pa_nil)) (pe_glob (v := .int (24)) (by rfl) c_MOST_THINGS.u.choose_spec ⟨_, rfl⟩) (nomark _))))) (pss_one (ps_ret pe_bl)) pss_nil)
      (pss_cons (ps_set (i := 1) sc_is_row.nd rfl (Or.inl rfl) (pe_call C__numbers_of.G (hr.mono (by decide)) (by rfl) C__numbers_of.g C__numbers_of.kp C__numbers_of.b .nil pass0 (pa_cons (pv 0) pa_nil)))
      (pss_cons (ps_if (pt_not (pt_val (pe_callB (cr_all rfl) (by rfl) m_all (by decide +kernel) (pa_cons (pe_lc (own := [("number", 2)]) rfl sc_is_row.nd (pi_list (pv 1)) (blkOk_by (own := [("number", 2)]) (N := ["thing", "numbers", "number"]) (sc := (defScope s_is_row)) (by decide +kernel)) (fun _ _ _ _ _ => (pg_name (i := 2) sc_is_row.nd rfl (by first | exact Or.inl rfl | exact Or.inr rfl))) (fun _ _ _ _ _ => pts_nil) (fun _ _ _ _ _ => (pe_call C_is_whole.G (hr.mono (by decide)) (by rfl) C_is_whole.g C_is_whole.kp C_is_whole.b .nil pass0 (pa_cons (pv 2) pa_nil)))) pa_nil)))) (pss_one (ps_ret pe_bl)) pss_nil)
      (pss_one (ps_ret (pe_cmpR (op_eqD hr.units) (RZ.pe_lenSetI (by rfl) m_len (by rfl) m_set (pv 1)) (pe_callB cl_len (by rfl) m_len PySem.boot_len (pa_cons (pv 1) pa_nil)) (nomark _))))))), fun x hp => ?_⟩)
  have l1 := nums_len x
  have l2 := hp.1
  walk_at "s"
  walk_at "w"
  · exact absurd (by assumption) (by simp; omega)
  refine ⟨_, rfl, by omega, ?_⟩
  walk_at "w"
  apply ve_lcT (vs := [2]) PyData.int (nums x) _ _ (by walk_at "n")
  walk_at "w"
  refine ⟨rfl, by simp, gl_lt (by omega), fun a ha => ⟨_, tg_name (by decide), fun acc srcs => ?_⟩, ?_⟩
  · walk_at "s"
    walk_at "w"
    refine ⟨rfl, fun _ => ?_, fun _ => rfl⟩
    walk_at "w"
    refine ⟨_, rfl, trivial, ?_⟩
    walk_at "w"
    exact ⟨rfl, rfl⟩
  walk_at "w"
  refine c1_allF ((nums x).map fun _ => true) (by rw [fil_true, List.map_map] <;> rfl) ?_
  rw [show ((nums x).map fun _ => true).all id = true by simp]
  walk_at "w"
  refine ⟨hp.2, by omega, ?_⟩
  walk_at "w"
  show PyData.bool _ = _
  rw [List.length_map]
  simp [PyData.eqv]
theorem ok_is_rowO {f : Addr} {fd : FuncData} (D : Df K mg "is_row" s_is_row ["thing"] f fd) {f_is_wholeO : Addr} {d_is_wholeO : FuncData} (C_is_wholeO : Cal P w K mg base 1 "is_whole" ["thing"] (spF K (fun d : Dat => [.dt d]) (fun d => isK d = true) fun d => .bool (isI d)) f_is_wholeO d_is_wholeO) {f_numbersO : Addr} {d_numbersO : FuncData} (C_numbersO : Cal P w K mg base 1 "_numbers_of" ["things"] (spF K (fun r : List Dat => [.dt (.tuple r)]) (fun r => r.length ≤ 100) fun r => .list (r.filter fun d => !isNo d)) f_numbersO d_numbersO) (m_all : mg "all" = none) (m_isinstance : mg "isinstance" = none) (m_len : mg "len" = none) (m_set : mg "set" = none) (m_tuple : mg "tuple" = none) (c_MOST_THINGS : GlobI K mg "MOST_THINGS" 24) : Cal P w K mg base 2 "is_row" ["thing"] (spF K (fun d : Dat => [.dt d]) (fun d => okD d = true) fun d => .bool (isRowD d)) f fd := by
  refine D.cal (ok_G D.F sc_is_row (fun _ => rfl) (by decide) fun cdv A outer s H E hr => ⟨_, (pss_cons (ps_if (PW.pt (pw_or (pt_not (pt_val (pe_callB call_isi (by rfl) m_isinstance (by decide +kernel) (pa_cons (pv 0) (pa_cons (pe_bltn (v := .ty "tuple") (by rfl) m_tuple (by decide +kernel) rfl) pa_nil))))) (pw_or1 (pt_cmpR op_gt (pe_callB cl_len (by rfl) m_len PySem.boot_len (pa_cons (pv 0) pa_nil)) (pe_glob (v := .int (24)) (by rfl) c_MOST_THINGS.u.choose_spec ⟨_, rfl⟩) (nomark _))))) (pss_one (ps_ret pe_bl)) pss_nil)
      (pss_cons (ps_set (i := 1) sc_is_row.nd rfl (Or.inl rfl) (pe_call C_numbersO.G (hr.mono (by decide)) (by rfl) C_numbersO.g C_numbersO.kp C_numbersO.b .nil pass0 (pa_cons (pv 0) pa_nil)))
      (pss_cons (ps_if (pt_not (pt_val (pe_callB (cr_all rfl) (by rfl) m_all (by decide +kernel) (pa_cons (pe_lc (own := [("number", 2)]) rfl sc_is_row.nd (pi_list (pv 1)) (blkOk_by (own := [("number", 2)]) (N := ["thing", "numbers", "number"]) (sc := (defScope s_is_row)) (by decide +kernel)) (fun _ _ _ _ _ => (pg_name (i := 2) sc_is_row.nd rfl (by first | exact Or.inl rfl | exact Or.inr rfl))) (fun _ _ _ _ _ => pts_nil) (fun _ _ _ _ _ => (pe_call C_is_wholeO.G (hr.mono (by decide)) (by rfl) C_is_wholeO.g C_is_wholeO.kp C_is_wholeO.b .nil pass0 (pa_cons (pv 2) pa_nil)))) pa_nil)))) (pss_one (ps_ret pe_bl)) pss_nil)
      (pss_one (ps_ret (pe_cmpR (op_eqD hr.units) (RZ.pe_lenSetG (by rfl) m_len (by rfl) m_set (pv 1)) (pe_callB cl_len (by rfl) m_len PySem.boot_len (pa_cons (pv 1) pa_nil)) (nomark _))))))), fun x hp => ?_⟩)
  cases x with
  | dict => cases hp
  | none =>
    walk_at "s"
    walk_at "w"
    rfl
  | bool b =>
    walk_at "s"
    walk_at "w"
    rfl
  | int b =>
    walk_at "s"
    walk_at "w"
    rfl
  | str b =>
    walk_at "s"
    walk_at "w"
    rfl
  | list b =>
    walk_at "s"
    walk_at "w"
    rfl
  | tuple r =>
    obtain ⟨h1, h2⟩ := okD_t hp
    walk_at "s"
    walk_at "w"
    · have h : decide ((24 : Int) < (r.length : Int)) = true := by assumption
      show PyData.bool false = PyData.bool (!_ && _)
      rw [h]
      rfl
    · have h : decide ((24 : Int) < (r.length : Int)) = false := by assumption
      refine ⟨r, rfl, h1, ?_⟩
      have hl : (noNo r).length ≤ 100 := Nat.le_trans (List.length_filter_le _ _) h1
      show VSs K [.dt (.tuple r), .dt (.list (noNo r)), .no] _ _
      walk_at "w"
      apply ve_lcT (vs := [2]) id (noNo r) (fun _ => true) (fun d => PyData.bool (isI d)) (by walk_at "n")
      walk_at "w"
      refine ⟨(List.map_id _).symm, by simp, gl_lt (by omega), fun a ha => ⟨_, tg_name (by decide), fun acc srcs => ?_⟩, ?_⟩
      · have hk : isK a = true := h2 a (List.mem_filter.mp ha).1
        walk_at "s"
        walk_at "w"
        refine ⟨rfl, fun _ => ?_, fun _ => rfl⟩
        walk_at "w"
        refine ⟨a, rfl, hk, ?_⟩
        walk_at "w"
        exact ⟨rfl, rfl⟩
      walk_at "w"
      refine c1_allF ((noNo r).map isI) (by rw [fil_true, List.map_map] <;> rfl) ?_
      rw [show ((noNo r).map isI).all id = (noNo r).all isI by rw [List.all_map]; rfl]
      cases hall : (noNo r).all isI with
      | false =>
        walk_at "w"
        show PyData.bool false = PyData.bool (!_ && (_ && _))
        rw [hall, Bool.false_and, Bool.and_false]
      | true =>
        walk_at "w"
        refine ve_lenSetG ?_
        walk_at "w"
        refine ⟨(noNo r).map intOf, (by rw [← ints_eq hall]; exact rd_dt), by rw [List.length_map]; omega, ?_⟩
        walk_at "w"
        show PyData.bool _ = PyData.bool (!_ && (_ && _))
        rw [h, hall, unl, List.length_map]
        rfl
theorem ok_is_wordO {f : Addr} {fd : FuncData} (D : Df K mg "_is_word" s__is_word ["thing"] f fd) (m_isinstance : mg "isinstance" = none) (m_str : mg "str" = none) (c_HEAVY : GlobS K mg "HEAVY" "heavy") (c_LIGHT : GlobS K mg "LIGHT" "light") : Cal P w K mg base 1 "_is_word" ["thing"] (spF K (fun d : Dat => [.dt d]) (fun d => isK d = true) fun d => .bool (isWordD d)) f fd := by
  refine D.cal (ok_G D.F sc__is_word (fun _ => rfl) (by decide) fun cdv A outer s H E hr => ⟨_, (pss_one (ps_ret (pe_and (pe_callB call_isi (by rfl) m_isinstance (by decide +kernel) (pa_cons (pv 0) (pa_cons (pe_bltn (v := .ty "str") (by rfl) m_str (by decide +kernel) rfl) pa_nil))) (pe_one (pe_cmpR op_in_seq (pv 0) (pe_tupF (pa_cons (pe_glob (v := .str "light") (by rfl) c_LIGHT.u.choose_spec ⟨_, rfl⟩) (pa_cons (pe_glob (v := .str "heavy") (by rfl) c_HEAVY.u.choose_spec ⟨_, rfl⟩) pa_nil))) (by rfl)))))), fun x hp => ?_⟩)
  cases x with
  | dict => cases hp
  | none =>
    walk_at "s"
    walk_at "w"
    rfl
  | bool b =>
    walk_at "s"
    walk_at "w"
    rfl
  | int b =>
    walk_at "s"
    walk_at "w"
    rfl
  | list b =>
    walk_at "s"
    walk_at "w"
    rfl
  | tuple b =>
    walk_at "s"
    walk_at "w"
    rfl
  | str s =>
    walk_at "s"
    walk_at "w"
    refine r2_in rd_dt sq_t rfl rfl ?_
    walk_at "w"
    rfl
theorem ok__is_word {f : Addr} {fd : FuncData} (D : Df K mg "_is_word" s__is_word ["thing"] f fd) (m_isinstance : mg "isinstance" = none) (m_str : mg "str" = none) (c_HEAVY : GlobS K mg "HEAVY" "heavy") (c_LIGHT : GlobS K mg "LIGHT" "light") : Cal P w K mg base 1 "_is_word" ["thing"] (spF K (fun l : Bool => [.dt (.str (wd l))]) (fun _ => True) fun _ => .bool true) f fd := by
  refine D.cal (ok_G D.F sc__is_word (fun _ => rfl) (by decide) fun cdv A outer s H E hr => ⟨_, (pss_one (ps_ret (pe_and (pe_callB call_isi (by rfl) m_isinstance (by decide +kernel) (pa_cons (pv 0) (pa_cons (pe_bltn (v := .ty "str") (by rfl) m_str (by decide +kernel) rfl) pa_nil))) (pe_one (pe_cmpR op_in_seq (pv 0) (pe_tupF (pa_cons (pe_glob (v := .str "light") (by rfl) c_LIGHT.u.choose_spec ⟨_, rfl⟩) (pa_cons (pe_glob (v := .str "heavy") (by rfl) c_HEAVY.u.choose_spec ⟨_, rfl⟩) pa_nil))) (by rfl)))))), fun x hp => ?_⟩)
  walk_at "s"
  walk_at "w"
  refine r2_in rd_dt sq_t rfl rfl ?_
  walk_at "w"
  show PyData.bool _ = _
  congr 1
  cases x <;> decide +kernel
theorem ok_is_placesO {f : Addr} {fd : FuncData} (D : Df K mg "_is_places" s__is_places ["thing"] f fd) {f_is_whole_withinO : Addr} {d_is_whole_withinO : FuncData} (C_is_whole_withinO : Cal P w K mg base 2 "is_whole_within" ["thing", "least", "most"] (spF K (fun p : Dat × Int × Int => [.dt p.1, .dt (.int p.2.1), .dt (.int p.2.2)]) (fun p => isK p.1 = true) fun p => .bool (isWithinD p.1 p.2.1 p.2.2)) f_is_whole_withinO d_is_whole_withinO) (c_MOST_PLACES : GlobI K mg "MOST_PLACES" 9) : Cal P w K mg base 3 "_is_places" ["thing"] (spF K (fun d : Dat => [.dt d]) (fun d => isK d = true) fun d => .bool (isPlD d)) f fd := by
  refine D.cal (ok_G D.F sc__is_places (fun _ => rfl) (by decide) fun cdv A outer s H E hr => ⟨_, (pss_one (ps_ret (pe_call C_is_whole_withinO.G (hr.mono (by decide)) (by rfl) C_is_whole_withinO.g C_is_whole_withinO.kp C_is_whole_withinO.b .nil pass0 (pa_cons (pv 0) (pa_cons pe_int (pa_cons (pe_glob (v := .int (9)) (by rfl) c_MOST_PLACES.u.choose_spec ⟨_, rfl⟩) pa_nil)))))), fun x hp => ?_⟩)
  walk_at "s"
  walk_at "w"
  refine ⟨(x, 0, 9), rfl, hp, ?_⟩
  walk_at "w"
  rfl
theorem ok__is_places {f : Addr} {fd : FuncData} (D : Df K mg "_is_places" s__is_places ["thing"] f fd) {f_is_whole_within : Addr} {d_is_whole_within : FuncData} (C_is_whole_within : Cal P w K mg base 2 "is_whole_within" ["thing", "least", "most"] (spF K (fun p : Int × Int × Int => [.dt (.int p.1), .dt (.int p.2.1), .dt (.int p.2.2)]) (fun _ => True) fun p => .bool (decide (p.2.1 ≤ p.1) && decide (p.1 ≤ p.2.2))) f_is_whole_within d_is_whole_within) (c_MOST_PLACES : GlobI K mg "MOST_PLACES" 9) : Cal P w K mg base 3 "_is_places" ["thing"] (spF K (fun n : Nat => [.dt (.int n)]) (fun n => n ≤ 9) fun _ => .bool true) f fd := by
  refine D.cal (ok_G D.F sc__is_places (fun _ => rfl) (by decide) fun cdv A outer s H E hr => ⟨_, (pss_one (ps_ret (pe_call C_is_whole_within.G (hr.mono (by decide)) (by rfl) C_is_whole_within.g C_is_whole_within.kp C_is_whole_within.b .nil pass0 (pa_cons (pv 0) (pa_cons pe_int (pa_cons (pe_glob (v := .int (9)) (by rfl) c_MOST_PLACES.u.choose_spec ⟨_, rfl⟩) pa_nil)))))), fun x hp => ?_⟩)
  walk_at "s"
  walk_at "w"
  refine ⟨(_, _, _), rfl, trivial, ?_⟩
  walk_at "w"
  show PyData.bool _ = _
  have h1 : (0 : Int) ≤ (x : Int) := by omega
  have h2 : (x : Int) ≤ 9 := by omega
  simp [h2]
theorem ok_is_shelfO {f : Addr} {fd : FuncData} (D : Df K mg "is_shelf" s_is_shelf ["thing"] f fd) {f_is_placesO : Addr} {d_is_placesO : FuncData} (C_is_placesO : Cal P w K mg base 3 "_is_places" ["thing"] (spF K (fun d : Dat => [.dt d]) (fun d => isK d = true) fun d => .bool (isPlD d)) f_is_placesO d_is_placesO) {f_is_wordO : Addr} {d_is_wordO : FuncData} (C_is_wordO : Cal P w K mg base 1 "_is_word" ["thing"] (spF K (fun d : Dat => [.dt d]) (fun d => isK d = true) fun d => .bool (isWordD d)) f_is_wordO d_is_wordO) (m_isinstance : mg "isinstance" = none) (m_len : mg "len" = none) (m_tuple : mg "tuple" = none) : Cal P w K mg base 4 "is_shelf" ["thing"] (spF K (fun d : Dat => [.dt d]) (fun d => okD d = true) fun d => .bool (isShelfD d)) f fd := by
  refine D.cal (ok_G D.F sc_is_shelf (fun _ => rfl) (by decide) fun cdv A outer s H E hr => ⟨_, (pss_cons (ps_if (PW.pt (pw_or (pt_not (pt_val (pe_callB call_isi (by rfl) m_isinstance (by decide +kernel) (pa_cons (pv 0) (pa_cons (pe_bltn (v := .ty "tuple") (by rfl) m_tuple (by decide +kernel) rfl) pa_nil))))) (pw_or1 (pt_cmpR (op_neD hr.units) (pe_callB cl_len (by rfl) m_len PySem.boot_len (pa_cons (pv 0) pa_nil)) pe_int (nomark _))))) (pss_one (ps_ret pe_bl)) pss_nil)
      (pss_one (ps_ret (pe_and (pe_call C_is_wordO.G (hr.mono (by decide)) (by rfl) C_is_wordO.g C_is_wordO.kp C_is_wordO.b .nil pass0 (pa_cons (pe_ix ix_tup (pv 0) pe_int (fun _ _ => rfl)) pa_nil)) (pe_one (pe_call C_is_placesO.G (hr.mono (by decide)) (by rfl) C_is_placesO.g C_is_placesO.kp C_is_placesO.b .nil pass0 (pa_cons (pe_ix ix_tup (pv 0) pe_int (fun _ _ => rfl)) pa_nil))))))), fun x hp => ?_⟩)
  cases x with
  | dict => cases hp
  | none =>
    walk_at "s"
    walk_at "w"
    rfl
  | bool b =>
    walk_at "s"
    walk_at "w"
    rfl
  | int b =>
    walk_at "s"
    walk_at "w"
    rfl
  | str b =>
    walk_at "s"
    walk_at "w"
    rfl
  | list b =>
    walk_at "s"
    walk_at "w"
    rfl
  | tuple r =>
    obtain ⟨h1, h2⟩ := okD_t hp
    rcases r with _ | ⟨a, _ | ⟨b, _ | ⟨c, t⟩⟩⟩
    · walk_at "s"
      walk_at "w"
      rfl
    · walk_at "s"
      walk_at "w"
      rfl
    · walk_at "s"
      walk_at "w"
      refine r2_ixT (d := a) rfl ?_
      walk_at "w"
      refine ⟨a, rfl, h2 a (by simp), ?_⟩
      cases hw : isWordD a with
      | false =>
        walk_at "w"
        show PyData.bool _ = PyData.bool (isWordD a && _)
        rw [hw]
        rfl
      | true =>
        walk_at "w"
        refine r2_ixT (d := b) rfl ?_
        walk_at "w"
        refine ⟨b, rfl, h2 b (by simp), ?_⟩
        walk_at "w"
        show PyData.bool _ = PyData.bool (isWordD a && _)
        rw [hw]
        rfl
    · walk_at "s"
      walk_at "w"
      all_goals first | rfl | exact absurd (by assumption) (by simp; omega)
theorem ok_is_shelf {f : Addr} {fd : FuncData} (D : Df K mg "is_shelf" s_is_shelf ["thing"] f fd) {f__is_places : Addr} {d__is_places : FuncData} (C__is_places : Cal P w K mg base 3 "_is_places" ["thing"] (spF K (fun n : Nat => [.dt (.int n)]) (fun n => n ≤ 9) fun _ => .bool true) f__is_places d__is_places) {f__is_word : Addr} {d__is_word : FuncData} (C__is_word : Cal P w K mg base 1 "_is_word" ["thing"] (spF K (fun l : Bool => [.dt (.str (wd l))]) (fun _ => True) fun _ => .bool true) f__is_word d__is_word) (m_isinstance : mg "isinstance" = none) (m_len : mg "len" = none) (m_tuple : mg "tuple" = none) : Cal P w K mg base 4 "is_shelf" ["thing"] (spF K (fun p : Bool × Nat => [.dt (.tuple [.str (wd p.1), .int p.2])]) (fun p => p.2 ≤ 9) fun _ => .bool true) f fd := by
  refine D.cal (ok_G D.F sc_is_shelf (fun _ => rfl) (by decide) fun cdv A outer s H E hr => ⟨_, (pss_cons (ps_if (PW.pt (pw_or (pt_not (pt_val (pe_callB call_isi (by rfl) m_isinstance (by decide +kernel) (pa_cons (pv 0) (pa_cons (pe_bltn (v := .ty "tuple") (by rfl) m_tuple (by decide +kernel) rfl) pa_nil))))) (pw_or1 (pt_cmpR (op_neD hr.units) (pe_callB cl_len (by rfl) m_len PySem.boot_len (pa_cons (pv 0) pa_nil)) pe_int (nomark _))))) (pss_one (ps_ret pe_bl)) pss_nil)
      (pss_one (ps_ret (pe_and (pe_call C__is_word.G (hr.mono (by decide)) (by rfl) C__is_word.g C__is_word.kp C__is_word.b .nil pass0 (pa_cons (pe_ix ix_tup (pv 0) pe_int (fun _ _ => rfl)) pa_nil)) (pe_one (pe_call C__is_places.G (hr.mono (by decide)) (by rfl) C__is_places.g C__is_places.kp C__is_places.b .nil pass0 (pa_cons (pe_ix ix_tup (pv 0) pe_int (fun _ _ => rfl)) pa_nil))))))), fun x hp => ?_⟩)
  walk_at "s"
  walk_at "w"
  refine r2_ixT (d := .str (wd x.1)) rfl ?_
  walk_at "w"
  refine ⟨x.1, rfl, trivial, ?_⟩
  walk_at "w"
  refine r2_ixT (d := .int x.2) rfl ?_
  walk_at "w"
  refine ⟨x.2, rfl, hp, ?_⟩
  walk_at "w"
theorem ok_is_lineO {f : Addr} {fd : FuncData} (D : Df K mg "is_line" s_is_line ["thing"] f fd) {f_is_shelfO : Addr} {d_is_shelfO : FuncData} (C_is_shelfO : Cal P w K mg base 4 "is_shelf" ["thing"] (spF K (fun d : Dat => [.dt d]) (fun d => okD d = true) fun d => .bool (isShelfD d)) f_is_shelfO d_is_shelfO) (m_all : mg "all" = none) (m_isinstance : mg "isinstance" = none) (m_len : mg "len" = none) (m_tuple : mg "tuple" = none) (c_MOST_SHELVES : GlobI K mg "MOST_SHELVES" 8) : Cal P w K mg base 5 "is_line" ["thing"] (spF K (fun d : Dat => [.dt d]) (fun d => okDD d = true) fun d => .bool (isLineD d)) f fd := by
  refine D.cal (ok_G D.F sc_is_line (fun _ => rfl) (by decide) fun cdv A outer s H E hr => ⟨_, (pss_cons (ps_if (PW.pt (pw_or (pt_not (pt_val (pe_callB call_isi (by rfl) m_isinstance (by decide +kernel) (pa_cons (pv 0) (pa_cons (pe_bltn (v := .ty "tuple") (by rfl) m_tuple (by decide +kernel) rfl) pa_nil))))) (pw_or1 (pt_cmpR op_gt (pe_callB cl_len (by rfl) m_len PySem.boot_len (pa_cons (pv 0) pa_nil)) (pe_glob (v := .int (8)) (by rfl) c_MOST_SHELVES.u.choose_spec ⟨_, rfl⟩) (nomark _))))) (pss_one (ps_ret pe_bl)) pss_nil)
      (pss_one (ps_ret (pe_callB (cr_all rfl) (by rfl) m_all (by decide +kernel) (pa_cons (pe_lc (own := [("shelf", 1)]) rfl sc_is_line.nd (pi_tup (pv 0)) (blkOk_by (own := [("shelf", 1)]) (N := ["thing", "shelf"]) (sc := (defScope s_is_line)) (by decide +kernel)) (fun _ _ _ _ _ => (pg_name (i := 1) sc_is_line.nd rfl (by first | exact Or.inl rfl | exact Or.inr rfl))) (fun _ _ _ _ _ => pts_nil) (fun _ _ _ _ _ => (pe_call C_is_shelfO.G (hr.mono (by decide)) (by rfl) C_is_shelfO.g C_is_shelfO.kp C_is_shelfO.b .nil pass0 (pa_cons (pv 1) pa_nil)))) pa_nil))))), fun x hp => ?_⟩)
  cases x with
  | dict => cases hp
  | none =>
    walk_at "s"
    walk_at "w"
    rfl
  | bool b =>
    walk_at "s"
    walk_at "w"
    rfl
  | int b =>
    walk_at "s"
    walk_at "w"
    rfl
  | str b =>
    walk_at "s"
    walk_at "w"
    rfl
  | list b =>
    walk_at "s"
    walk_at "w"
    rfl
  | tuple r =>
    obtain ⟨h1, h2⟩ := okDD_t hp
    walk_at "s"
    walk_at "w"
    · have h : decide ((8 : Int) < (r.length : Int)) = true := by assumption
      show PyData.bool false = PyData.bool (!_ && _)
      rw [h]
      rfl
    · have h : decide ((8 : Int) < (r.length : Int)) = false := by assumption
      apply ve_lcT (vs := [1]) id r (fun _ => true) (fun d => PyData.bool (isShelfD d)) (by walk_at "n")
      walk_at "w"
      refine ⟨(List.map_id _).symm, by simp, gl_lt (by omega), fun a ha => ⟨_, tg_name (by decide), fun acc srcs => ?_⟩, ?_⟩
      · walk_at "s"
        walk_at "w"
        refine ⟨rfl, fun _ => ?_, fun _ => rfl⟩
        walk_at "w"
        refine ⟨a, rfl, h2 a ha, ?_⟩
        walk_at "w"
        exact ⟨rfl, rfl⟩
      walk_at "w"
      refine c1_allF (r.map isShelfD) (by rw [fil_true, List.map_map] <;> rfl) ?_
      rw [show (r.map isShelfD).all id = r.all isShelfD by rw [List.all_map]; rfl]
      walk_at "w"
      show PyData.bool _ = PyData.bool (!_ && _)
      rw [h]
      rfl
theorem ok_is_line {f : Addr} {fd : FuncData} (D : Df K mg "is_line" s_is_line ["thing"] f fd) {f_is_shelf : Addr} {d_is_shelf : FuncData} (C_is_shelf : Cal P w K mg base 4 "is_shelf" ["thing"] (spF K (fun p : Bool × Nat => [.dt (.tuple [.str (wd p.1), .int p.2])]) (fun p => p.2 ≤ 9) fun _ => .bool true) f_is_shelf d_is_shelf) (m_all : mg "all" = none) (m_isinstance : mg "isinstance" = none) (m_len : mg "len" = none) (m_tuple : mg "tuple" = none) (c_MOST_SHELVES : GlobI K mg "MOST_SHELVES" 8) : Cal P w K mg base 5 "is_line" ["thing"] (spF K (fun ln : Ln => [.dt (.tuple (ln.map sD))]) (fun ln => ln.length ≤ 8 ∧ ∀ p ∈ ln, p.2 ≤ 9) fun _ => .bool true) f fd := by
  refine D.cal (ok_G D.F sc_is_line (fun _ => rfl) (by decide) fun cdv A outer s H E hr => ⟨_, (pss_cons (ps_if (PW.pt (pw_or (pt_not (pt_val (pe_callB call_isi (by rfl) m_isinstance (by decide +kernel) (pa_cons (pv 0) (pa_cons (pe_bltn (v := .ty "tuple") (by rfl) m_tuple (by decide +kernel) rfl) pa_nil))))) (pw_or1 (pt_cmpR op_gt (pe_callB cl_len (by rfl) m_len PySem.boot_len (pa_cons (pv 0) pa_nil)) (pe_glob (v := .int (8)) (by rfl) c_MOST_SHELVES.u.choose_spec ⟨_, rfl⟩) (nomark _))))) (pss_one (ps_ret pe_bl)) pss_nil)
      (pss_one (ps_ret (pe_callB (cr_all rfl) (by rfl) m_all (by decide +kernel) (pa_cons (pe_lc (own := [("shelf", 1)]) rfl sc_is_line.nd (pi_tup (pv 0)) (blkOk_by (own := [("shelf", 1)]) (N := ["thing", "shelf"]) (sc := (defScope s_is_line)) (by decide +kernel)) (fun _ _ _ _ _ => (pg_name (i := 1) sc_is_line.nd rfl (by first | exact Or.inl rfl | exact Or.inr rfl))) (fun _ _ _ _ _ => pts_nil) (fun _ _ _ _ _ => (pe_call C_is_shelf.G (hr.mono (by decide)) (by rfl) C_is_shelf.g C_is_shelf.kp C_is_shelf.b .nil pass0 (pa_cons (pv 1) pa_nil)))) pa_nil))))), fun x hp => ?_⟩)
  have l1 := hp.1
  walk_at "s"
  walk_at "w"
  · exact absurd (by assumption) (by simp; omega)
  apply ve_lcT (vs := [1]) sD x (fun _ => true) (fun _ => PyData.bool true) (by walk_at "n")
  walk_at "w"
  refine ⟨rfl, by simp, gl_lt (by omega), fun a ha => ⟨_, tg_name (by decide), fun acc srcs => ?_⟩, ?_⟩
  · walk_at "s"
    walk_at "w"
    refine ⟨rfl, fun _ => ?_, fun _ => rfl⟩
    walk_at "w"
    refine ⟨a, rfl, hp.2 a ha, ?_⟩
    walk_at "w"
    exact ⟨rfl, rfl⟩
  walk_at "w"
  refine c1_allF (x.map fun _ => true) (by rw [fil_true, List.map_map] <;> rfl) ?_
  rw [show (x.map fun _ => true).all id = true by simp]
  walk_at "w"
theorem ok_check_row {f : Addr} {fd : FuncData} (D : Df K mg "check_row" s_check_row ["row"] f fd) {f_is_row : Addr} {d_is_row : FuncData} (C_is_row : Cal P w K mg base 2 "is_row" ["thing"] (spF K (fun r : List (Option Int) => [.dt (.tuple (oL r))]) RowOk fun _ => .bool true) f_is_row d_is_row) : Cal P w K mg base 3 "check_row" ["row"] (spF K (fun r : List (Option Int) => [.dt (.tuple (oL r))]) RowOk fun _ => .none) f fd := by
  refine D.cal (ok_G D.F sc_check_row (fun _ => rfl) (by decide) fun cdv A outer s H E hr => ⟨_, (pss_one (ps_if (pt_not (pt_val (pe_call C_is_row.G (hr.mono (by decide)) (by rfl) C_is_row.g C_is_row.kp C_is_row.b .nil pass0 (pa_cons (pv 0) pa_nil)))) (pss_one ps_never) pss_nil)), fun x hp => ?_⟩)
  walk_at "s"
  walk_at "w"
  refine ⟨_, rfl, hp, ?_⟩
  walk_at "w"
theorem ok_check_line {f : Addr} {fd : FuncData} (D : Df K mg "check_line" s_check_line ["line"] f fd) {f_is_line : Addr} {d_is_line : FuncData} (C_is_line : Cal P w K mg base 5 "is_line" ["thing"] (spF K (fun ln : Ln => [.dt (.tuple (ln.map sD))]) (fun ln => ln.length ≤ 8 ∧ ∀ p ∈ ln, p.2 ≤ 9) fun _ => .bool true) f_is_line d_is_line) : Cal P w K mg base 6 "check_line" ["line"] (spF K (fun ln : Ln => [.dt (.tuple (ln.map sD))]) (fun ln => ln.length ≤ 8 ∧ ∀ p ∈ ln, p.2 ≤ 9) fun _ => .none) f fd := by
  refine D.cal (ok_G D.F sc_check_line (fun _ => rfl) (by decide) fun cdv A outer s H E hr => ⟨_, (pss_one (ps_if (pt_not (pt_val (pe_call C_is_line.G (hr.mono (by decide)) (by rfl) C_is_line.g C_is_line.kp C_is_line.b .nil pass0 (pa_cons (pv 0) pa_nil)))) (pss_one ps_never) pss_nil)), fun x hp => ?_⟩)
  walk_at "s"
  walk_at "w"
  refine ⟨x, rfl, hp, ?_⟩
  walk_at "w"
theorem ok_number_textP {f : Addr} {fd : FuncData} (D : Df K mg "_number_text" s__number_text ["number"] f fd) (m_str : mg "str" = none) : Cal P w K mg base 1 "_number_text" ["number"] (spF K (fun n : Int => [.dt (.int n)]) (fun n => 0 ≤ n ∧ n.natAbs < 200) fun n => .str (numT n)) f fd := by
  refine D.cal (ok_G D.F sc__number_text (fun _ => rfl) (by decide) fun cdv A outer s H E hr => ⟨_, (pss_cons (ps_if (pt_cmpR op_lt (pv 0) pe_int (nomark _)) (pss_one ps_never) pss_nil)
      (pss_cons (ps_set (i := 1) sc__number_text.nd rfl (Or.inl rfl) (pe_lst pa_nil))
      (pss_cons (ps_while PassesOwn.never (pt_cmpR op_ge (pv 0) (pe_op op_pow pe_int pe_int) (nomark _)) (pss_cons ps_never (pss_one ps_never)))
      (pss_one (ps_ret (pe_op op_addS (pe_callTy cl_strI (by rfl) m_str (by decide +kernel) (pa_cons (pv 0) pa_nil)) (pe_m1 PySem.F.slot_str_join PySem.F.type_str_join cm_join pe_str (pe_revL (pv 1))))))))), fun x hp => ?_⟩)
  obtain ⟨h0, h1⟩ := hp
  walk_at "s"
  walk_at "w"
  · exact absurd (of_decide_eq_true ‹decide (x < 0) = true›) (by omega)
  walk_at "s"
  walk_at "w"
  walk_at "s"
  refine ss_while (fun m Γ => Γ = [.dt (.int x), .ow [], .no]) 0 rfl fun m Γ1 eΓ ss => ?_
  subst eΓ
  walk_at "w"
  · exfalso
    have h2 := of_decide_eq_true ‹decide _ = true›
    have h3 : (10 : Int) ^ ((50 : Int).toNat) = 100000000000000000000000000000000000000000000000000 := by decide
    omega
  walk_at "w"
  refine ⟨_, rfl, ?_⟩
  walk_at "w"
  refine ⟨[], .inl rfl, by decide, ?_⟩
  rw [join_nil]
  have hl := numT_len h1
  refine r2_addS (x := numT x) (y := Str.empty) (gl_le (by show (numT x).length + 0 ≤ _; omega)) ?_
  walk_at "w"
  exact congrArg PyData.str (Str.append_empty _)
theorem ok__number_text {f : Addr} {fd : FuncData} (D : Df K mg "_number_text" s__number_text ["number"] f fd) {f_number_textP : Addr} {d_number_textP : FuncData} (C_number_textP : Cal P w K mg base 1 "_number_text" ["number"] (spF K (fun n : Int => [.dt (.int n)]) (fun n => 0 ≤ n ∧ n.natAbs < 200) fun n => .str (numT n)) f_number_textP d_number_textP) (m_str : mg "str" = none) : Cal P w K mg base 2 "_number_text" ["number"] (spF K (fun n : Int => [.dt (.int n)]) (fun n => n.natAbs < 200) fun n => .str (numT n)) f fd := by
  refine D.cal (ok_G D.F sc__number_text (fun _ => rfl) (by decide) fun cdv A outer s H E hr => ⟨_, (pss_cons (ps_if (pt_cmpR op_lt (pv 0) pe_int (nomark _)) (pss_one (ps_ret (pe_op op_addS pe_str (pe_call C_number_textP.G (hr.mono (by decide)) (by rfl) C_number_textP.g C_number_textP.kp C_number_textP.b .nil pass0 (pa_cons (pe_un un_neg (pv 0)) pa_nil))))) pss_nil)
      (pss_cons (ps_set (i := 1) sc__number_text.nd rfl (Or.inl rfl) (pe_lst pa_nil))
      (pss_cons (ps_while PassesOwn.never (pt_cmpR op_ge (pv 0) (pe_op op_pow pe_int pe_int) (nomark _)) (pss_cons ps_never (pss_one ps_never)))
      (pss_one (ps_ret (pe_op op_addS (pe_callTy cl_strI (by rfl) m_str (by decide +kernel) (pa_cons (pv 0) pa_nil)) (pe_m1 PySem.F.slot_str_join PySem.F.type_str_join cm_join pe_str (pe_revL (pv 1))))))))), fun x hp => ?_⟩)
  have hp : x.natAbs < 200 := hp
  walk_at "s"
  walk_at "w"
  · have h0 := of_decide_eq_true ‹decide (x < 0) = true›
    refine ⟨-x, rfl, ⟨by omega, by omega⟩, ?_⟩
    have hl := numT_len (n := -x) (by omega)
    refine r2_addS (gl_le (by show 1 + (numT (-x)).length ≤ _; omega)) ?_
    walk_at "w"
    exact congrArg PyData.str (numT_neg hp h0)
  have h0 := of_decide_eq_false ‹decide (x < 0) = false›
  walk_at "s"
  walk_at "w"
  walk_at "s"
  refine ss_while (fun m Γ => Γ = [.dt (.int x), .ow [], .no]) 0 rfl fun m Γ1 eΓ ss => ?_
  subst eΓ
  walk_at "w"
  · exfalso
    have h2 := of_decide_eq_true ‹decide _ = true›
    have h3 : (10 : Int) ^ ((50 : Int).toNat) = 100000000000000000000000000000000000000000000000000 := by decide
    omega
  walk_at "w"
  refine ⟨_, rfl, ?_⟩
  walk_at "w"
  refine ⟨[], .inl rfl, by decide, ?_⟩
  rw [join_nil]
  have hl := numT_len hp
  refine r2_addS (x := numT x) (y := Str.empty) (gl_le (by show (numT x).length + 0 ≤ _; omega)) ?_
  walk_at "w"
  exact congrArg PyData.str (Str.append_empty _)
theorem ok_text_of {f : Addr} {fd : FuncData} (D : Df K mg "text_of" s_text_of ["parts"] f fd) {f__number_text : Addr} {d__number_text : FuncData} (C__number_text : Cal P w K mg base 2 "_number_text" ["number"] (spF K (fun n : Int => [.dt (.int n)]) (fun n => n.natAbs < 200) fun n => .str (numT n)) f__number_text d__number_text) (m_len : mg "len" = none) (c_EMPTY_ROW : GlobS K mg "EMPTY_ROW" "none") (c_MARK : GlobS K mg "MARK" "|") : Cal P w K mg base 3 "text_of" ["parts"] (spF K (fun xs : List (Option Int) => [.dt (.list (oL xs))]) (fun xs => xs.length ≤ 1000 ∧ ∀ n, some n ∈ xs → n.natAbs < 200) fun xs => .str (rowT xs)) f fd := by
  refine D.cal (ok_G D.F sc_text_of (fun _ => rfl) (by decide) fun cdv A outer s H E hr => ⟨_, (pss_cons (ps_if (pt_cmpR (op_eqD hr.units) (pe_callB cl_len (by rfl) m_len PySem.boot_len (pa_cons (pv 0) pa_nil)) pe_int (nomark _)) (pss_one (ps_ret (pe_glob (v := .str "none") (by rfl) c_EMPTY_ROW.u.choose_spec ⟨_, rfl⟩))) pss_nil)
      (pss_one (ps_ret (pe_m1 PySem.F.slot_str_join PySem.F.type_str_join cm_join pe_str (pe_lc (own := [("part", 1)]) rfl sc_text_of.nd (pi_list (pv 0)) (blkOk_by (own := [("part", 1)]) (N := ["parts", "part"]) (sc := (defScope s_text_of)) (by decide +kernel)) (fun _ _ _ _ _ => (pg_name (i := 1) sc_text_of.nd rfl (by first | exact Or.inl rfl | exact Or.inr rfl))) (fun _ _ _ _ _ => pts_nil) (fun _ _ _ _ _ => (pe_ifExp (pt_cmpR oi_isN (pv 1) pe_non (nomark _)) (pe_glob (v := .str "|") (by rfl) c_MARK.u.choose_spec ⟨_, rfl⟩) (pe_call C__number_text.G (hr.mono (by decide)) (by rfl) C__number_text.g C__number_text.kp C__number_text.b .nil pass0 (pa_cons (pv 1) pa_nil))))))))), fun x hp => ?_⟩)
  obtain ⟨hl, hn⟩ := hp
  walk_at "s"
  walk_at "w"
  · cases x with
    | nil => rfl
    | cons a x =>
      have h0 := of_decide_eq_true ‹decide _ = true›
      simp only [List.map_cons, List.length_cons] at h0
      omega
  · have hx : x ≠ [] := fun e => by
      subst e
      exact absurd ‹decide _ = false› (by decide)
    refine ⟨_, rfl, ?_⟩
    apply ve_lcT (vs := [1]) oD x (fun _ => true) (fun a => .str (wordT a)) (by walk_at "n")
    walk_at "w"
    refine ⟨rfl, by simp, gl_lt (by omega), fun a ha => ⟨_, tg_name (by decide), fun acc srcs => ?_⟩, ?_⟩
    · walk_at "s"
      walk_at "w"
      refine ⟨rfl, fun _ => ?_, fun _ => rfl⟩
      cases a with
      | none =>
        walk_at "w"
        exact ⟨rfl, rfl⟩
      | some n =>
        walk_at "w"
        refine ⟨n, rfl, hn n ha, ?_⟩
        walk_at "w"
        exact ⟨rfl, rfl⟩
    · have hs := words_sum hn
      refine ⟨x.map wordT, .inl ?_, ?_, ?_⟩
      · rw [fil_true, List.map_map]
        rfl
      · rw [List.length_map]
        show _ + x.length * 1 ≤ _
        omega
      walk_at "w"
      exact congrArg PyData.str (if_neg hx).symm
theorem ok_text_ofT {f : Addr} {fd : FuncData} (D : Df K mg "text_of" s_text_of ["parts"] f fd) {f__number_text : Addr} {d__number_text : FuncData} (C__number_text : Cal P w K mg base 2 "_number_text" ["number"] (spF K (fun n : Int => [.dt (.int n)]) (fun n => n.natAbs < 200) fun n => .str (numT n)) f__number_text d__number_text) (m_len : mg "len" = none) (c_EMPTY_ROW : GlobS K mg "EMPTY_ROW" "none") (c_MARK : GlobS K mg "MARK" "|") : Cal P w K mg base 3 "text_of" ["parts"] (spF K (fun xs : List (Option Int) => [.dt (.tuple (oL xs))]) (fun xs => xs.length ≤ 1000 ∧ ∀ n, some n ∈ xs → n.natAbs < 200) fun xs => .str (rowT xs)) f fd := by
  refine D.cal (ok_G D.F sc_text_of (fun _ => rfl) (by decide) fun cdv A outer s H E hr => ⟨_, (pss_cons (ps_if (pt_cmpR (op_eqD hr.units) (pe_callB cl_len (by rfl) m_len PySem.boot_len (pa_cons (pv 0) pa_nil)) pe_int (nomark _)) (pss_one (ps_ret (pe_glob (v := .str "none") (by rfl) c_EMPTY_ROW.u.choose_spec ⟨_, rfl⟩))) pss_nil)
      (pss_one (ps_ret (pe_m1 PySem.F.slot_str_join PySem.F.type_str_join cm_join pe_str (pe_lc (own := [("part", 1)]) rfl sc_text_of.nd (pi_tup (pv 0)) (blkOk_by (own := [("part", 1)]) (N := ["parts", "part"]) (sc := (defScope s_text_of)) (by decide +kernel)) (fun _ _ _ _ _ => (pg_name (i := 1) sc_text_of.nd rfl (by first | exact Or.inl rfl | exact Or.inr rfl))) (fun _ _ _ _ _ => pts_nil) (fun _ _ _ _ _ => (pe_ifExp (pt_cmpR oi_isN (pv 1) pe_non (nomark _)) (pe_glob (v := .str "|") (by rfl) c_MARK.u.choose_spec ⟨_, rfl⟩) (pe_call C__number_text.G (hr.mono (by decide)) (by rfl) C__number_text.g C__number_text.kp C__number_text.b .nil pass0 (pa_cons (pv 1) pa_nil))))))))), fun x hp => ?_⟩)
  obtain ⟨hl, hn⟩ := hp
  walk_at "s"
  walk_at "w"
  · cases x with
    | nil => rfl
    | cons a x =>
      have h0 := of_decide_eq_true ‹decide _ = true›
      simp only [List.map_cons, List.length_cons] at h0
      omega
  · have hx : x ≠ [] := fun e => by
      subst e
      exact absurd ‹decide _ = false› (by decide)
    refine ⟨_, rfl, ?_⟩
    apply ve_lcT (vs := [1]) oD x (fun _ => true) (fun a => .str (wordT a)) (by walk_at "n")
    walk_at "w"
    refine ⟨rfl, by simp, gl_lt (by omega), fun a ha => ⟨_, tg_name (by decide), fun acc srcs => ?_⟩, ?_⟩
    · walk_at "s"
      walk_at "w"
      refine ⟨rfl, fun _ => ?_, fun _ => rfl⟩
      cases a with
      | none =>
        walk_at "w"
        exact ⟨rfl, rfl⟩
      | some n =>
        walk_at "w"
        refine ⟨n, rfl, hn n ha, ?_⟩
        walk_at "w"
        exact ⟨rfl, rfl⟩
    · have hs := words_sum hn
      refine ⟨x.map wordT, .inl ?_, ?_, ?_⟩
      · rw [fil_true, List.map_map]
        rfl
      · rw [List.length_map]
        show _ + x.length * 1 ≤ _
        omega
      walk_at "w"
      exact congrArg PyData.str (if_neg hx).symm
theorem ok_row_text {f : Addr} {fd : FuncData} (D : Df K mg "row_text" s_row_text ["row"] f fd) {f_check_row : Addr} {d_check_row : FuncData} (C_check_row : Cal P w K mg base 3 "check_row" ["row"] (spF K (fun r : List (Option Int) => [.dt (.tuple (oL r))]) RowOk fun _ => .none) f_check_row d_check_row) {f_text_ofT : Addr} {d_text_ofT : FuncData} (C_text_ofT : Cal P w K mg base 3 "text_of" ["parts"] (spF K (fun xs : List (Option Int) => [.dt (.tuple (oL xs))]) (fun xs => xs.length ≤ 1000 ∧ ∀ n, some n ∈ xs → n.natAbs < 200) fun xs => .str (rowT xs)) f_text_ofT d_text_ofT) : Cal P w K mg base 4 "row_text" ["row"] (spF K (fun r : List (Option Int) => [.dt (.tuple (oL r))]) (fun r => RowOk r ∧ ∀ n, some n ∈ r → n.natAbs < 200) fun r => .str (rowT r)) f fd := by
  refine D.cal (ok_G D.F sc_row_text (fun _ => rfl) (by decide) fun cdv A outer s H E hr => ⟨_, (pss_cons (ps_expr (pe_call C_check_row.G (hr.mono (by decide)) (by rfl) C_check_row.g C_check_row.kp C_check_row.b .nil pass0 (pa_cons (pv 0) pa_nil)))
      (pss_one (ps_ret (pe_call C_text_ofT.G (hr.mono (by decide)) (by rfl) C_text_ofT.g C_text_ofT.kp C_text_ofT.b .nil pass0 (pa_cons (pv 0) pa_nil))))), fun x hp => ?_⟩)
  obtain ⟨h1, h2⟩ := hp
  have hl := h1.1
  walk_at "s"
  walk_at "w"
  refine ⟨x, rfl, h1, ?_⟩
  walk_at "w"
  refine ⟨x, rfl, ⟨by omega, h2⟩, ?_⟩
  walk_at "w"
theorem ok_line_text {f : Addr} {fd : FuncData} (D : Df K mg "line_text" s_line_text ["line"] f fd) {f_check_line : Addr} {d_check_line : FuncData} (C_check_line : Cal P w K mg base 6 "check_line" ["line"] (spF K (fun ln : Ln => [.dt (.tuple (ln.map sD))]) (fun ln => ln.length ≤ 8 ∧ ∀ p ∈ ln, p.2 ≤ 9) fun _ => .none) f_check_line d_check_line) (m_len : mg "len" = none) (c_NO_SHELVES : GlobS K mg "NO_SHELVES" "straight") : Cal P w K mg base 7 "line_text" ["line"] (spF K (fun ln : Ln => [.dt (.tuple (ln.map sD))]) (fun ln => ln.length ≤ 8 ∧ ∀ p ∈ ln, p.2 ≤ 9) fun ln => .str (lineT ln)) f fd := by
  refine D.cal (ok_G D.F sc_line_text (fun _ => rfl) (by decide) fun cdv A outer s H E hr => ⟨_, (pss_cons (ps_expr (pe_call C_check_line.G (hr.mono (by decide)) (by rfl) C_check_line.g C_check_line.kp C_check_line.b .nil pass0 (pa_cons (pv 0) pa_nil)))
      (pss_cons (ps_if (pt_cmpR (op_eqD hr.units) (pe_callB cl_len (by rfl) m_len PySem.boot_len (pa_cons (pv 0) pa_nil)) pe_int (nomark _)) (pss_one (ps_ret (pe_glob (v := .str "straight") (by rfl) c_NO_SHELVES.u.choose_spec ⟨_, rfl⟩))) pss_nil)
      (pss_one (ps_ret (pe_m1 PySem.F.slot_str_join PySem.F.type_str_join cm_join pe_str (pe_lc (own := [("word", 1), ("places", 2)]) rfl sc_line_text.nd (pi_tup (pv 0)) (blkOk_by (own := [("word", 1), ("places", 2)]) (N := ["line", "word", "places"]) (sc := (defScope s_line_text)) (by decide +kernel)) (fun _ _ _ _ _ => (pg_tupK (K := K) (n := 2) rfl rfl (pgs_cons (pg_name (i := 1) sc_line_text.nd rfl (by first | exact Or.inl rfl | exact Or.inr rfl)) (pgs_cons (pg_name (i := 2) sc_line_text.nd rfl (by first | exact Or.inl rfl | exact Or.inr rfl)) pgs_nil)))) (fun _ _ _ _ _ => pts_nil) (fun _ _ _ _ _ => (pe_joined (PJ.cons (pe_fmt (pv 1)) (PJ.cons pe_str (PJ.cons (pe_fmt (pv 2)) PJ.nil))))))))))), fun x hp => ?_⟩)
  obtain ⟨hl, hn⟩ := hp
  walk_at "s"
  walk_at "w"
  refine ⟨x, rfl, ⟨hl, hn⟩, ?_⟩
  walk_at "w"
  · cases x with
    | nil => rfl
    | cons a x =>
      have h0 := of_decide_eq_true ‹decide _ = true›
      simp only [List.map_cons, List.length_cons] at h0
      omega
  · have hx : x ≠ [] := fun e => by
      subst e
      exact absurd ‹decide _ = false› (by decide)
    refine ⟨_, rfl, ?_⟩
    apply ve_lcT (vs := [1, 2]) sD x (fun _ => true) (fun a => .str (shT a)) (by walk_at "n")
    walk_at "w"
    refine ⟨rfl, by simp, gl_lt (by omega), fun a ha => ⟨_, tg_pair (by decide) (by decide), fun acc srcs => ?_⟩, ?_⟩
    · walk_at "s"
      walk_at "w"
      refine ⟨rfl, fun _ => ?_, fun _ => rfl⟩
      refine vd_of (ve_join3 (by decide +kernel) ?_)
      walk_at "w"
      refine ⟨_, rfl, by cases a.1 <;> decide +kernel, ?_⟩
      walk_at "w"
      refine ⟨by have := hn a ha; omega, ?_⟩
      walk_at "w"
      exact ⟨rfl, rfl⟩
    · have hs : ((x.map shT).map (·.length)).sum ≤ 7 * x.length := shT_sum hn
      refine ⟨x.map shT, .inl ?_, ?_, ?_⟩
      · rw [fil_true, List.map_map]
        rfl
      · rw [List.length_map]
        show _ + x.length * 1 ≤ _
        omega
      walk_at "w"
      exact congrArg PyData.str (if_neg hx).symm
theorem ok__check_text {f : Addr} {fd : FuncData} (D : Df K mg "_check_text" s__check_text ["thing"] f fd) (m_isinstance : mg "isinstance" = none) (m_str : mg "str" = none) : Cal P w K mg base 1 "_check_text" ["thing"] (spF K (fun x : Str => [.dt (.str x)]) (fun _ => True) fun _ => .none) f fd := by
  refine D.cal (ok_G D.F sc__check_text (fun _ => rfl) (by decide) fun cdv A outer s H E hr => ⟨_, (pss_one (ps_if (pt_not (pt_val (pe_callB call_isi (by rfl) m_isinstance (by decide +kernel) (pa_cons (pv 0) (pa_cons (pe_bltn (v := .ty "str") (by rfl) m_str (by decide +kernel) rfl) pa_nil))))) (pss_one ps_never) pss_nil)), fun x hp => ?_⟩)
  walk_at "s"
  walk_at "w"
theorem ok__check_textR {f : Addr} {fd : FuncData} (D : Df K mg "_check_text" s__check_text ["thing"] f fd) (m_isinstance : mg "isinstance" = none) (m_str : mg "str" = none) {C_NoText : Addr} (x_NoText : ExcF K mg "NoText" C_NoText) : CalR P w K mg base 1 "_check_text" ["thing"] (spR K (fun d : Dat => [.dt d]) NoTxt fun _ => C_NoText) f fd := by
  refine D.calR (ok_R D.F sc__check_text (fun _ => rfl) (by decide) fun cdv A outer s H E hr => ⟨_, (pss_one (ps_if (pt_not (pt_val (pe_callB call_isi (by rfl) m_isinstance (by decide +kernel) (pa_cons (pv 0) (pa_cons (pe_bltn (v := .ty "str") (by rfl) m_str (by decide +kernel) rfl) pa_nil))))) (pss_one (L2N.ps_raise rfl (L2N.takes_of rfl rfl rfl rfl) (Xa.pmk_n1 PySem.F.excBase_ValueError x_NoText.x x_NoText.g x_NoText.k (raises_own x_NoText.b x_NoText.t) rfl pe_str))) pss_nil)), fun x S0 hp hE => ?_⟩)
  obtain ⟨h1, h2⟩ := hp
  walk_at "s"
  try dsimp only [BxN, cxOf]
  refine sr_if fun ss => ?_
  cases x with
  | dict => cases h1
  | str => cases h2
  | none =>
    walk_at "w"
    try walk_at "s"
    try walk_at "w"
    refine sr_raise (ta := tC _) hE fun ss σ τ S E Q h => h _
  | bool b =>
    walk_at "w"
    try walk_at "s"
    try walk_at "w"
    refine sr_raise (ta := tC _) hE fun ss σ τ S E Q h => h _
  | int b =>
    walk_at "w"
    try walk_at "s"
    try walk_at "w"
    refine sr_raise (ta := tC _) hE fun ss σ τ S E Q h => h _
  | list b =>
    walk_at "w"
    try walk_at "s"
    try walk_at "w"
    refine sr_raise (ta := tC _) hE fun ss σ τ S E Q h => h _
  | tuple b =>
    walk_at "w"
    try walk_at "s"
    try walk_at "w"
    refine sr_raise (ta := tC _) hE fun ss σ τ S E Q h => h _
theorem ok__are_digits {f : Addr} {fd : FuncData} (D : Df K mg "_are_digits" s__are_digits ["text"] f fd) (m_all : mg "all" = none) (c_DIGITS : GlobS K mg "DIGITS" "0123456789") : Cal P w K mg base 1 "_are_digits" ["text"] (spF K (fun x : Str => [.dt (.str x)]) (fun x => x.length ≤ 1000 ∧ PyData.strOk x = true) fun x => .bool (digB x)) f fd := by
  refine D.cal (ok_G D.F sc__are_digits (fun _ => rfl) (by decide) fun cdv A outer s H E hr => ⟨_, (pss_one (ps_ret (pe_and (pe_cmpR (op_neD hr.units) (pv 0) pe_str (nomark _)) (pe_one (pe_callB (cr_all rfl) (by rfl) m_all (by decide +kernel) (pa_cons (pe_lc (own := [("sign", 1)]) rfl sc__are_digits.nd (pi_str (pv 0)) (blkOk_by (own := [("sign", 1)]) (N := ["text", "sign"]) (sc := (defScope s__are_digits)) (by decide +kernel)) (fun _ _ _ _ _ => (pg_name (i := 1) sc__are_digits.nd rfl (by first | exact Or.inl rfl | exact Or.inr rfl))) (fun _ _ _ _ _ => pts_nil) (fun _ _ _ _ _ => (pe_cmpR op_inS (pv 1) (pe_glob (v := .str "0123456789") (by rfl) c_DIGITS.u.choose_spec ⟨_, rfl⟩) (by rfl)))) pa_nil)))))), fun x hp => ?_⟩)
  obtain ⟨hl, ho⟩ := hp
  walk_at "s"
  walk_at "w"
  refine r2_neD rd_dt rd_dt (shp_ok (shp_str ho) (by decide)) (by decide +kernel) ?_
  rw [eqv_ss]
  walk_at "w"
  · have h0 : (!decide (x = "")) = true := by assumption
    apply ve_lcT (vs := [1]) (fun c : Nat => PyData.str (sgn c)) (TL.tl x) (fun _ => true) (fun c => .bool (digC c)) (by walk_at "n")
    walk_at "w"
    refine ⟨_, rfl, rfl, by simp, gl_lt (by rw [← TL.len_tl]; omega), fun a ha => ⟨_, tg_name (by decide), fun acc srcs => ?_⟩, ?_⟩
    · walk_at "s"
      walk_at "w"
      refine ⟨rfl, fun _ => ?_, fun _ => rfl⟩
      walk_at "w"
      exact ⟨rfl, rfl⟩
    · rw [fil_true]
      refine c1_allF ((TL.tl x).map digC) (by rw [List.map_map]; rfl) ?_
      walk_at "w"
      unfold digB
      rw [h0, Bool.true_and, List.all_map]
      rfl
  · have h0 : (!decide (x = "")) = false := by assumption
    unfold digB
    rw [h0]; rfl
theorem ok__read_number {f : Addr} {fd : FuncData} (D : Df K mg "_read_number" s__read_number ["word"] f fd) {f__are_digits : Addr} {d__are_digits : FuncData} (C__are_digits : Cal P w K mg base 1 "_are_digits" ["text"] (spF K (fun x : Str => [.dt (.str x)]) (fun x => x.length ≤ 1000 ∧ PyData.strOk x = true) fun x => .bool (digB x)) f__are_digits d__are_digits) (m_int : mg "int" = none) : Cal P w K mg base 2 "_read_number" ["word"] (spF K (fun w : Str => [.dt (.str w)]) (fun w => w.length ≤ 1000 ∧ PyData.strOk w = true ∧ numB w = true) fun w => .int (numV w)) f fd := by
  refine D.cal (ok_G D.F sc__read_number (fun _ => rfl) (by decide) fun cdv A outer s H E hr => ⟨_, (pss_cons (ps_set (i := 1) sc__read_number.nd rfl (Or.inl rfl) (pe_m1 PySem.F.slot_str_removeprefix PySem.F.type_str_removeprefix cm_rmp (pv 0) pe_str))
      (pss_cons (ps_if (pt_stop (PW.pt (pw_or (pt_not (pt_val (pe_call C__are_digits.G (hr.mono (by decide)) (by rfl) C__are_digits.g C__are_digits.kp C__are_digits.b .nil pass0 (pa_cons (pv 1) pa_nil)))) (pw_or1 (pt_stop (PW.pt (pw_and (pt_cmpR (op_eqD hr.units) (pe_ix ix_str (pv 1) pe_int (fun _ _ => rfl)) pe_str (nomark _)) (pw_and1 (pt_cmpR (op_neD hr.units) (pv 0) pe_str (nomark _)))))))))) (pss_one ps_never) pss_nil)
      (pss_cons (ps_set (i := 2) sc__read_number.nd rfl (Or.inl rfl) pe_int)
      (pss_cons (ps_for PassesOwn.never rfl (pi_str (pv 1)) (pg_name (i := 3) sc__read_number.nd rfl (by first | exact Or.inl rfl | exact Or.inr rfl)) (pss_one (ps_set (i := 2) sc__read_number.nd rfl (Or.inl rfl) (pe_op op_add (pe_op op_mul pe_int (pv 2)) (pe_callTy cl_intS (by rfl) m_int (by decide +kernel) (pa_cons (pv 3) pa_nil))))))
      (pss_one (ps_ret (pe_ifExp (pt_cmpR (op_eqD hr.units) (pv 0) (pv 1) (nomark _)) (pv 2) (pe_un un_neg (pv 2))))))))), fun x hp => ?_⟩)
  obtain ⟨hl, ho, hb⟩ := hp
  obtain ⟨hd, hdl⟩ := rmp_ok ho
  unfold numB at hb
  rw [Bool.and_eq_true] at hb
  obtain ⟨hb1, hb2⟩ := hb
  obtain ⟨c, r, hcr⟩ := digB_cons hb1
  have hb5 := digB_all hb1
  walk_at "s"
  walk_at "w"
  refine ⟨_, rfl, ?_⟩
  walk_at "w"
  refine ⟨_, rfl, gl_le (by omega), ?_⟩
  rw [show Txt.removeprefix x "-" = dgs x from rfl]
  walk_at "w"
  walk_at "s"
  walk_at "w"
  refine vt_cut false ?_ ?_
  · walk_at "w"
    refine ⟨dgs x, rfl, ⟨by omega, hd⟩, ?_⟩
    rw [hb1]
    walk_at "w"
    refine vt_stop ?_
    walk_at "w"
    refine r2_ixStr (z := dgs x) (c := c) (gl_le (by omega)) (by rw [hcr]; exact (show atI _ ((0 : Nat) : Int) = _ from atI_nat rfl)) ?_
    walk_at "w"
    refine r2_eqD rd_dt rd_dt (shp_ok (shp_str (sgn_ok hd hcr)) (by decide)) (show SeqAt.shaped (.str "0") = true by decide +kernel) ?_
    rw [eqv_ss, sgn_0]
    by_cases h48 : c = 48
    · have hx0 : x = "0" := by
        unfold zeroB at hb2
        rw [hcr, h48] at hb2
        simpa using hb2
      rw [decide_eq_true h48]
      walk_at "w"
      refine r2_neD rd_dt rd_dt (shp_ok (shp_str ho) (by decide)) (show SeqAt.shaped (.str "0") = true by decide +kernel) ?_
      rw [eqv_ss, decide_eq_true hx0]
      walk_at "w"
      exact ⟨rfl, rfl⟩
    · rw [decide_eq_false h48]
      walk_at "w"
      exact ⟨rfl, rfl⟩
  walk_at "w"
  walk_at "s"
  refine ss_for (fun i Γ => ∃ q : Cell, Γ = [.dt (.str x), .dt (.str (dgs x)), .dt (.int (digV ((TL.tl (dgs x)).take i))), q]) fun ss => ?_
  walk_at "w"
  refine ⟨_, rfl, ⟨_, rfl⟩, fun i d Γ2 hd ⟨q, ec⟩ => ?_, fun Γ2 ⟨q, ec⟩ => ?_⟩
  · subst ec
    rw [List.getElem?_map] at hd
    obtain ⟨c, hc, rfl⟩ := Option.map_eq_some_iff.mp hd
    have hdc : digC c = true := List.all_eq_true.mp hb5 c (List.mem_of_getElem? hc)
    rw [take_snoc hc, digV_snoc]
    walk_at "w"
    walk_at "s"
    walk_at "w"
    refine c1_intS (int_dig hdc) (show 1 ≤ 640 by decide) ?_
    walk_at "w"
    walk_at "s"
    exact ⟨_, rfl⟩
  · subst ec
    rw [List.length_map, List.take_length]
    walk_at "w"
    refine r2_eqD rd_dt rd_dt (shp_ok (shp_str ho) (by decide)) (shp_ok (shp_str hd) (by decide)) ?_
    rw [eqv_ss]
    unfold numV
    by_cases h : x = dgs x
    · rw [decide_eq_true h, if_pos h]
      walk_at "w"
    · rw [decide_eq_false h, if_neg h]
      walk_at "w"
      try rfl
theorem ok__read_numberR {f : Addr} {fd : FuncData} (D : Df K mg "_read_number" s__read_number ["word"] f fd) {f__are_digits : Addr} {d__are_digits : FuncData} (C__are_digits : Cal P w K mg base 1 "_are_digits" ["text"] (spF K (fun x : Str => [.dt (.str x)]) (fun x => x.length ≤ 1000 ∧ PyData.strOk x = true) fun x => .bool (digB x)) f__are_digits d__are_digits) {C_NoText : Addr} (x_NoText : ExcF K mg "NoText" C_NoText) : CalR P w K mg base 2 "_read_number" ["word"] (spR K (fun w : Str => [.dt (.str w)]) BadNum fun _ => C_NoText) f fd := by
  refine D.calR (ok_R D.F sc__read_number (fun _ => rfl) (by decide) fun cdv A outer s H E hr => ⟨_, (pss_cons (ps_set (i := 1) sc__read_number.nd rfl (Or.inl rfl) (pe_m1 PySem.F.slot_str_removeprefix PySem.F.type_str_removeprefix cm_rmp (pv 0) pe_str))
      (pss_cons (ps_if (pt_stop (PW.pt (pw_or (pt_not (pt_val (pe_call C__are_digits.G (hr.mono (by decide)) (by rfl) C__are_digits.g C__are_digits.kp C__are_digits.b .nil pass0 (pa_cons (pv 1) pa_nil)))) (pw_or1 (pt_stop (PW.pt (pw_and (pt_cmpR (op_eqD hr.units) (pe_ix ix_str (pv 1) pe_int (fun _ _ => rfl)) pe_str (nomark _)) (pw_and1 (pt_cmpR (op_neD hr.units) (pv 0) pe_str (nomark _)))))))))) (pss_one (L2N.ps_raise rfl (L2N.takes_of rfl rfl rfl rfl) (Xa.pmk_n1 PySem.F.excBase_ValueError x_NoText.x x_NoText.g x_NoText.k (raises_own x_NoText.b x_NoText.t) rfl pe_str))) pss_nil)
      (pss_cons ps_never
      (pss_cons ps_never
      (pss_one ps_never))))), fun x S0 hp hE => ?_⟩)
  obtain ⟨⟨hl, ho⟩, hb⟩ := hp
  obtain ⟨hd, hdl⟩ := rmp_ok ho
  unfold numB at hb
  walk_at "s"
  try dsimp only [BxN, cxOf]
  refine sr_seq ?_
  walk_at "w"
  refine ⟨_, rfl, ?_⟩
  walk_at "w"
  refine ⟨_, rfl, gl_le (by omega), ?_⟩
  rw [show Txt.removeprefix x "-" = dgs x from rfl]
  walk_at "w"
  walk_at "s"
  refine sr_first (sr_if fun ss => ?_)
  refine vt_cut true ?_ ?_
  · walk_at "w"
    refine ⟨dgs x, rfl, ⟨by omega, hd⟩, ?_⟩
    cases hb1 : digB (dgs x) with
    | false =>
      walk_at "w"
      exact ⟨rfl, rfl⟩
    | true =>
      rw [hb1, Bool.true_and] at hb
      obtain ⟨c, r, hcr⟩ := digB_cons hb1
      walk_at "w"
      refine vt_stop ?_
      walk_at "w"
      refine r2_ixStr (z := dgs x) (c := c) (gl_le (by omega)) (by rw [hcr]; exact (show atI _ ((0 : Nat) : Int) = _ from atI_nat rfl)) ?_
      walk_at "w"
      refine r2_eqD rd_dt rd_dt (shp_ok (shp_str (sgn_ok hd hcr)) (by decide)) (show SeqAt.shaped (.str "0") = true by decide +kernel) ?_
      rw [eqv_ss, sgn_0]
      unfold zeroB at hb
      rw [hcr] at hb
      simp at hb
      rw [decide_eq_true hb.1]
      walk_at "w"
      refine r2_neD rd_dt rd_dt (shp_ok (shp_str ho) (by decide)) (show SeqAt.shaped (.str "0") = true by decide +kernel) ?_
      rw [eqv_ss, decide_eq_false hb.2]
      walk_at "w"
      exact ⟨rfl, rfl⟩
  · refine ⟨fun _ => ?_, fun e => (by cases e)⟩
    refine sr_raise (ta := tC _) hE fun ss σ τ S E Q h => h _
theorem ok__read_part {f : Addr} {fd : FuncData} (D : Df K mg "_read_part" s__read_part ["word"] f fd) {f__read_number : Addr} {d__read_number : FuncData} (C__read_number : Cal P w K mg base 2 "_read_number" ["word"] (spF K (fun w : Str => [.dt (.str w)]) (fun w => w.length ≤ 1000 ∧ PyData.strOk w = true ∧ numB w = true) fun w => .int (numV w)) f__read_number d__read_number) (c_MARK : GlobS K mg "MARK" "|") : Cal P w K mg base 3 "_read_part" ["word"] (spF K (fun w : Str => [.dt (.str w)]) (fun w => w.length ≤ 1000 ∧ PyData.strOk w = true ∧ wordB w = true) fun w => oD (wordV w)) f fd := by
  refine D.cal (ok_G D.F sc__read_part (fun _ => rfl) (by decide) fun cdv A outer s H E hr => ⟨_, (pss_cons (ps_if (pt_cmpR (op_eqD hr.units) (pv 0) (pe_glob (v := .str "|") (by rfl) c_MARK.u.choose_spec ⟨_, rfl⟩) (nomark _)) (pss_one (ps_ret pe_non)) pss_nil)
      (pss_one (ps_ret (pe_call C__read_number.G (hr.mono (by decide)) (by rfl) C__read_number.g C__read_number.kp C__read_number.b .nil pass0 (pa_cons (pv 0) pa_nil))))), fun x hp => ?_⟩)
  obtain ⟨hl, ho, hb⟩ := hp
  walk_at "s"
  walk_at "w"
  refine r2_eqD rd_dt rd_dt (shp_ok (shp_str ho) (by decide)) (show SeqAt.shaped (.str "|") = true by decide +kernel) ?_
  rw [eqv_ss]
  unfold wordB at hb
  unfold wordV
  by_cases h : x = "|"
  · rw [decide_eq_true h, if_pos h]
    walk_at "w"
    rfl
  · rw [decide_eq_false h, if_neg h]
    rw [decide_eq_false h, Bool.false_or] at hb
    walk_at "w"
    refine ⟨x, rfl, ⟨hl, ho, hb⟩, ?_⟩
    walk_at "w"
    try rfl
theorem ok__read_partR {f : Addr} {fd : FuncData} (D : Df K mg "_read_part" s__read_part ["word"] f fd) {C_NoText : Addr} {f__read_numberR : Addr} {d__read_numberR : FuncData} (C__read_numberR : CalR P w K mg base 2 "_read_number" ["word"] (spR K (fun w : Str => [.dt (.str w)]) BadNum fun _ => C_NoText) f__read_numberR d__read_numberR) (c_MARK : GlobS K mg "MARK" "|") : CalR P w K mg base 3 "_read_part" ["word"] (spR K (fun w : Str => [.dt (.str w)]) BadWd fun _ => C_NoText) f fd := by
  refine D.calR (ok_R D.F sc__read_part (fun _ => rfl) (by decide) fun cdv A outer s H E hr => ⟨_, (pss_cons (ps_if (pt_cmpR (op_eqD hr.units) (pv 0) (pe_glob (v := .str "|") (by rfl) c_MARK.u.choose_spec ⟨_, rfl⟩) (nomark _)) (pss_one (ps_ret pe_non)) pss_nil)
      (pss_one (ps_ret (pe_callS C__read_numberR.G (hr.mono (by decide)) (by rfl) C__read_numberR.g C__read_numberR.kp C__read_numberR.b (fun σ => L2N.passAt (L2N.takes_of rfl rfl rfl rfl) σ) (pa_cons (pv 0) pa_nil))))), fun x S0 hp hE => ?_⟩)
  obtain ⟨⟨hl, ho⟩, hb⟩ := hp
  unfold wordB at hb
  rw [Bool.or_eq_false_iff] at hb
  walk_at "s"
  try dsimp only [BxN, cxOf]
  refine sr_seq ?_
  walk_at "w"
  refine r2_eqD rd_dt rd_dt (shp_ok (shp_str ho) (by decide)) (show SeqAt.shaped (.str "|") = true by decide +kernel) ?_
  rw [eqv_ss, hb.1]
  walk_at "w"
  refine sr_ret fun ss => er_call ?_
  walk_at "w"
  exact ⟨x, rfl, ⟨⟨hl, ho⟩, hb.2⟩, hE⟩
theorem ok__read_partO {f : Addr} {fd : FuncData} {C_NoText : Addr} (C__read_part : Cal P w K mg base 3 "_read_part" ["word"] (spF K (fun w : Str => [.dt (.str w)]) (fun w => w.length ≤ 1000 ∧ PyData.strOk w = true ∧ wordB w = true) fun w => oD (wordV w)) f fd) (C__read_partR : CalR P w K mg base 3 "_read_part" ["word"] (spR K (fun w : Str => [.dt (.str w)]) BadWd fun _ => C_NoText) f fd) : CalR P w K mg base 3 "_read_part" ["word"] (spO K (fun w : Str => [.dt (.str w)]) (fun w => w.length ≤ 1000 ∧ PyData.strOk w = true ∧ wordB w = true) (fun w => oD (wordV w)) (fun w : Str => [.dt (.str w)]) BadWd fun _ => C_NoText) f fd := ⟨FnOk.imp (FnOk_or ((Xa.fn_any C__read_part.G).mono (by decide)) (C__read_partR.G.mono (by decide))) fun _ _ _ _ => id, C__read_part.g, C__read_part.kp, C__read_part.b⟩
theorem ok__read_shelf {f : Addr} {fd : FuncData} (D : Df K mg "_read_shelf" s__read_shelf ["row"] f fd) {f__read_number : Addr} {d__read_number : FuncData} (C__read_number : Cal P w K mg base 2 "_read_number" ["word"] (spF K (fun w : Str => [.dt (.str w)]) (fun w => w.length ≤ 1000 ∧ PyData.strOk w = true ∧ numB w = true) fun w => .int (numV w)) f__read_number d__read_number) (m_len : mg "len" = none) : Cal P w K mg base 3 "_read_shelf" ["row"] (spF K (fun w : Str => [.dt (.str w)]) (fun w => w.length ≤ 1000 ∧ PyData.strOk w = true ∧ shB w = true) fun w => shV w) f fd := by
  refine D.cal (ok_G D.F sc__read_shelf (fun _ => rfl) (by decide) fun cdv A outer s H E hr => ⟨_, (pss_cons (ps_set (i := 1) sc__read_shelf.nd rfl (Or.inl rfl) (pe_m1 PySem.F.slot_str_split PySem.F.type_str_split cm_split (pv 0) pe_str))
      (pss_cons (ps_if (pt_cmpR (op_neD hr.units) (pe_callB cl_len (by rfl) m_len PySem.boot_len (pa_cons (pv 1) pa_nil)) pe_int (nomark _)) (pss_one ps_never) pss_nil)
      (pss_one (ps_ret (pe_tupF (pa_cons (pe_ix ix_list (pv 1) pe_int (fun _ _ => rfl)) (pa_cons (pe_call C__read_number.G (hr.mono (by decide)) (by rfl) C__read_number.g C__read_number.kp C__read_number.b .nil pass0 (pa_cons (pe_ix ix_list (pv 1) pe_int (fun _ _ => rfl)) pa_nil)) pa_nil))))))), fun x hp => ?_⟩)
  obtain ⟨hl, ho, hb⟩ := hp
  unfold shB at hb
  rw [Bool.and_eq_true, decide_eq_true_iff] at hb
  obtain ⟨h2, hn⟩ := hb
  obtain ⟨a, b, e⟩ : ∃ a b, rowW x = [a, b] := by
    match h : rowW x, h2 with
    | [a, b], _ => exact ⟨a, b, rfl⟩
  have hbo := blank_ok ho (show b ∈ rowW x by rw [e]; simp)
  rw [e] at hn
  walk_at "s"
  walk_at "w"
  refine ⟨_, rfl, ?_⟩
  walk_at "w"
  refine ⟨_, rfl, by decide +kernel, gl_le (by omega), ?_⟩
  rw [show Txt.split x " " = [a, b] from e]
  walk_at "w"
  walk_at "s"
  walk_at "w"
  refine r2_ixL (ds := [.str a, .str b]) (d := .str a) ⟨[], .inr (.inl ⟨1, rfl, .inl rfl⟩)⟩ (show atI _ ((0 : Nat) : Int) = _ from atI_nat rfl) ?_
  walk_at "w"
  refine r2_ixL (ds := [.str a, .str b]) (d := .str b) ⟨[], .inr (.inl ⟨1, rfl, .inl rfl⟩)⟩ (show atI _ ((1 : Nat) : Int) = _ from atI_nat rfl) ?_
  walk_at "w"
  refine ⟨b, rfl, ⟨by omega, hbo.1, hn⟩, ?_⟩
  walk_at "w"
  show PyData.tuple [.str a, .int (numV b)] = shV x
  unfold shV
  rw [e]
  rfl
theorem ok__read_shelfR1 {f : Addr} {fd : FuncData} (D : Df K mg "_read_shelf" s__read_shelf ["row"] f fd) (m_len : mg "len" = none) {C_NoText : Addr} (x_NoText : ExcF K mg "NoText" C_NoText) : CalR P w K mg base 1 "_read_shelf" ["row"] (spR K (fun w : Str => [.dt (.str w)]) BadSh1 fun _ => C_NoText) f fd := by
  refine D.calR (ok_R D.F sc__read_shelf (fun _ => rfl) (by decide) fun cdv A outer s H E hr => ⟨_, (pss_cons (ps_set (i := 1) sc__read_shelf.nd rfl (Or.inl rfl) (pe_m1 PySem.F.slot_str_split PySem.F.type_str_split cm_split (pv 0) pe_str))
      (pss_cons (ps_if (pt_cmpR (op_neD hr.units) (pe_callB cl_len (by rfl) m_len PySem.boot_len (pa_cons (pv 1) pa_nil)) pe_int (nomark _)) (pss_one (L2N.ps_raise rfl (L2N.takes_of rfl rfl rfl rfl) (Xa.pmk_n1 PySem.F.excBase_ValueError x_NoText.x x_NoText.g x_NoText.k (raises_own x_NoText.b x_NoText.t) rfl pe_str))) pss_nil)
      (pss_one ps_never))), fun x S0 hp hE => ?_⟩)
  obtain ⟨⟨hl, ho⟩, hb⟩ := hp
  walk_at "s"
  try dsimp only [BxN, cxOf]
  have hw : (rowW x).length ≤ 92 := Nat.le_trans (PyProof.Rows.split_le x " ") (by omega)
  refine sr_seq ?_
  walk_at "w"
  refine ⟨_, rfl, ?_⟩
  walk_at "w"
  refine ⟨_, rfl, by decide +kernel, gl_le (by omega), ?_⟩
  walk_at "w"
  walk_at "s"
  refine sr_first (sr_if fun ss => ?_)
  walk_at "w"
  · refine sr_raise (ta := tC _) hE fun ss σ τ S E Q h => h _
  · exact absurd ‹(!decide _) = false› (by simp; exact fun z => hb (by exact_mod_cast z))
theorem ok__read_shelfR2 {f : Addr} {fd : FuncData} (D : Df K mg "_read_shelf" s__read_shelf ["row"] f fd) {C_NoText : Addr} {f__read_numberR : Addr} {d__read_numberR : FuncData} (C__read_numberR : CalR P w K mg base 2 "_read_number" ["word"] (spR K (fun w : Str => [.dt (.str w)]) BadNum fun _ => C_NoText) f__read_numberR d__read_numberR) (m_len : mg "len" = none) : CalR P w K mg base 3 "_read_shelf" ["row"] (spR K (fun w : Str => [.dt (.str w)]) BadSh2 fun _ => C_NoText) f fd := by
  refine D.calR (ok_R D.F sc__read_shelf (fun _ => rfl) (by decide) fun cdv A outer s H E hr => ⟨_, (pss_cons (ps_set (i := 1) sc__read_shelf.nd rfl (Or.inl rfl) (pe_m1 PySem.F.slot_str_split PySem.F.type_str_split cm_split (pv 0) pe_str))
      (pss_cons (ps_if (pt_cmpR (op_neD hr.units) (pe_callB cl_len (by rfl) m_len PySem.boot_len (pa_cons (pv 1) pa_nil)) pe_int (nomark _)) (pss_one ps_never) pss_nil)
      (pss_one (ps_ret (pe_tupF (pa_cons (pe_ix ix_list (pv 1) pe_int (fun _ _ => rfl)) (pa_cons (pe_callS C__read_numberR.G (hr.mono (by decide)) (by rfl) C__read_numberR.g C__read_numberR.kp C__read_numberR.b (fun σ => L2N.passAt (L2N.takes_of rfl rfl rfl rfl) σ) (pa_cons (pe_ix ix_list (pv 1) pe_int (fun _ _ => rfl)) pa_nil)) pa_nil))))))), fun x S0 hp hE => ?_⟩)
  obtain ⟨⟨hl, ho⟩, h2, hn⟩ := hp
  obtain ⟨a, b, e⟩ : ∃ a b, rowW x = [a, b] := by
    match h : rowW x, h2 with
    | [a, b], _ => exact ⟨a, b, rfl⟩
  have hbo := blank_ok ho (show b ∈ rowW x by rw [e]; simp)
  rw [e] at hn
  walk_at "s"
  try dsimp only [BxN, cxOf]
  refine sr_seq ?_
  walk_at "w"
  refine ⟨_, rfl, ?_⟩
  walk_at "w"
  refine ⟨_, rfl, by decide +kernel, gl_le (by omega), ?_⟩
  rw [show Txt.split x " " = [a, b] from e]
  walk_at "w"
  walk_at "s"
  refine sr_seq ?_
  walk_at "w"
  refine sr_ret fun ss => er_tup (ar_snd ?_)
  walk_at "w"
  refine r2_ixL (ds := [.str a, .str b]) (d := .str a) ⟨[], .inr (.inl ⟨1, rfl, .inl rfl⟩)⟩ (show atI _ ((0 : Nat) : Int) = _ from atI_nat rfl) ?_
  walk_at "w"
  refine ar_one (er_call ?_)
  walk_at "w"
  refine r2_ixL (ds := [.str a, .str b]) (d := .str b) ⟨[], .inr (.inl ⟨1, rfl, .inl rfl⟩)⟩ (show atI _ ((1 : Nat) : Int) = _ from atI_nat rfl) ?_
  walk_at "w"
  exact ⟨b, rfl, ⟨⟨by omega, hbo.1⟩, hn⟩, hE⟩
theorem ok__read_shelfO {f : Addr} {fd : FuncData} {C_NoText : Addr} (C__read_shelf : Cal P w K mg base 3 "_read_shelf" ["row"] (spF K (fun w : Str => [.dt (.str w)]) (fun w => w.length ≤ 1000 ∧ PyData.strOk w = true ∧ shB w = true) fun w => shV w) f fd) (C__read_shelfR1 : CalR P w K mg base 1 "_read_shelf" ["row"] (spR K (fun w : Str => [.dt (.str w)]) BadSh1 fun _ => C_NoText) f fd) (C__read_shelfR2 : CalR P w K mg base 3 "_read_shelf" ["row"] (spR K (fun w : Str => [.dt (.str w)]) BadSh2 fun _ => C_NoText) f fd) : CalR P w K mg base 3 "_read_shelf" ["row"] (spO K (fun w : Str => [.dt (.str w)]) (fun w => w.length ≤ 1000 ∧ PyData.strOk w = true ∧ shB w = true) shV (fun w : Str => [.dt (.str w)]) BadSh fun _ => C_NoText) f fd := ⟨FnOk.imp (FnOk_or ((Xa.fn_any C__read_shelf.G).mono (by decide)) (FnOk_or (C__read_shelfR1.G.mono (by decide)) (C__read_shelfR2.G.mono (by decide)))) fun _ _ _ _ => or_bad, C__read_shelf.g, C__read_shelf.kp, C__read_shelf.b⟩
theorem ok_read_row {f : Addr} {fd : FuncData} (D : Df K mg "read_row" s_read_row ["text"] f fd) {f__check_text : Addr} {d__check_text : FuncData} (C__check_text : Cal P w K mg base 1 "_check_text" ["thing"] (spF K (fun x : Str => [.dt (.str x)]) (fun _ => True) fun _ => .none) f__check_text d__check_text) {f__read_part : Addr} {d__read_part : FuncData} (C__read_part : Cal P w K mg base 3 "_read_part" ["word"] (spF K (fun w : Str => [.dt (.str w)]) (fun w => w.length ≤ 1000 ∧ PyData.strOk w = true ∧ wordB w = true) fun w => oD (wordV w)) f__read_part d__read_part) {f_is_rowO : Addr} {d_is_rowO : FuncData} (C_is_rowO : Cal P w K mg base 2 "is_row" ["thing"] (spF K (fun d : Dat => [.dt d]) (fun d => okD d = true) fun d => .bool (isRowD d)) f_is_rowO d_is_rowO) (m_tuple : mg "tuple" = none) (c_EMPTY_ROW : GlobS K mg "EMPTY_ROW" "none") : Cal P w K mg base 4 "read_row" ["text"] (spF K (fun x : Str => [.dt (.str x)]) (fun x => TxOk x ∧ rowB x = true ∧ isRowD (rowD x) = true) rowD) f fd := by
  refine D.cal (ok_G D.F sc_read_row (fun _ => rfl) (by decide) fun cdv A outer s H E hr => ⟨_, (pss_cons (ps_expr (pe_call C__check_text.G (hr.mono (by decide)) (by rfl) C__check_text.g C__check_text.kp C__check_text.b .nil pass0 (pa_cons (pv 0) pa_nil)))
      (pss_cons (ps_if (pt_cmpR (op_eqD hr.units) (pv 0) (pe_glob (v := .str "none") (by rfl) c_EMPTY_ROW.u.choose_spec ⟨_, rfl⟩) (nomark _)) (pss_one (ps_ret (pe_tupF pa_nil))) pss_nil)
      (pss_cons (ps_set (i := 1) sc_read_row.nd rfl (Or.inl rfl) (pe_callTy cl_tupleF (by rfl) m_tuple (by decide +kernel) (pa_cons (pe_lc (own := [("word", 2)]) rfl sc_read_row.nd (pi_list (pe_m1 PySem.F.slot_str_split PySem.F.type_str_split cm_split (pv 0) pe_str)) (blkOk_by (own := [("word", 2)]) (N := ["text", "row", "word"]) (sc := (defScope s_read_row)) (by decide +kernel)) (fun _ _ _ _ _ => (pg_name (i := 2) sc_read_row.nd rfl (by first | exact Or.inl rfl | exact Or.inr rfl))) (fun _ _ _ _ _ => pts_nil) (fun _ _ _ _ _ => (pe_call C__read_part.G (hr.mono (by decide)) (by rfl) C__read_part.g C__read_part.kp C__read_part.b .nil pass0 (pa_cons (pv 2) pa_nil)))) pa_nil)))
      (pss_cons (ps_if (pt_not (pt_val (pe_call C_is_rowO.G (hr.mono (by decide)) (by rfl) C_is_rowO.g C_is_rowO.kp C_is_rowO.b .nil pass0 (pa_cons (pv 1) pa_nil)))) (pss_one ps_never) pss_nil)
      (pss_one (ps_ret (pv 1))))))), fun x hp => ?_⟩)
  obtain ⟨⟨hl, ho⟩, hb, hr⟩ := hp
  walk_at "s"
  walk_at "w"
  refine ⟨x, rfl, trivial, ?_⟩
  walk_at "w"
  walk_at "s"
  walk_at "w"
  refine r2_eqD rd_dt rd_dt (shp_ok (shp_str ho) (by decide)) (show SeqAt.shaped (.str "none") = true by decide +kernel) ?_
  rw [eqv_ss]
  unfold rowB at hb
  unfold rowD rowV at hr ⊢
  by_cases h : x = "none"
  · rw [decide_eq_true h, if_pos h]
    walk_at "w"
    try rfl
  · rw [if_neg h] at hr
    rw [decide_eq_false h, if_neg h]
    rw [decide_eq_false h, Bool.false_or] at hb
    have hw : (rowW x).length ≤ 92 := Nat.le_trans (PyProof.Rows.split_le x " ") (by omega)
    walk_at "w"
    apply ve_lcT (vs := [2]) (fun w : Str => PyData.str w) (rowW x) (fun _ => true) (fun w => oD (wordV w)) (by walk_at "n")
    walk_at "w"
    refine ⟨_, rfl, ?_⟩
    walk_at "w"
    refine ⟨_, rfl, by decide +kernel, gl_le (by omega), ?_⟩
    walk_at "w"
    refine ⟨rfl, by simp, gl_lt (by omega), fun a ha => ⟨_, tg_name (by decide), fun acc srcs => ?_⟩, ?_⟩
    · have ha2 := blank_ok ho ha
      walk_at "s"
      walk_at "w"
      refine ⟨rfl, fun _ => ?_, fun _ => rfl⟩
      walk_at "w"
      refine ⟨a, rfl, ⟨by omega, ha2.1, List.all_eq_true.mp hb a ha⟩, ?_⟩
      walk_at "w"
      exact ⟨rfl, rfl⟩
    rw [fil_true, show (rowW x).map (fun w => oD (wordV w)) = oL ((rowW x).map wordV) by show _ = List.map oD (List.map wordV (rowW x)); rw [List.map_map]; rfl]
    walk_at "w"
    walk_at "s"
    walk_at "w"
    refine ⟨.tuple (oL ((rowW x).map wordV)), rfl, okD_row (by rw [List.length_map]; omega), ?_⟩
    rw [hr]
    walk_at "w"
    walk_at "s"
    walk_at "w"
theorem ok_read_rowA {f : Addr} {fd : FuncData} (D : Df K mg "read_row" s_read_row ["text"] f fd) {C_NoText : Addr} {f__check_textR : Addr} {d__check_textR : FuncData} (C__check_textR : CalR P w K mg base 1 "_check_text" ["thing"] (spR K (fun d : Dat => [.dt d]) NoTxt fun _ => C_NoText) f__check_textR d__check_textR) : CalR P w K mg base 2 "read_row" ["text"] (spR K (fun d : Dat => [.dt d]) NoTxt fun _ => C_NoText) f fd := by
  refine D.calR (ok_R D.F sc_read_row (fun _ => rfl) (by decide) fun cdv A outer s H E hr => ⟨_, (pss_cons (ps_expr (pe_callS C__check_textR.G (hr.mono (by decide)) (by rfl) C__check_textR.g C__check_textR.kp C__check_textR.b (fun σ => L2N.passAt (L2N.takes_of rfl rfl rfl rfl) σ) (pa_cons (pv 0) pa_nil)))
      (pss_cons ps_never
      (pss_cons ps_never
      (pss_cons ps_never
      (pss_one ps_never))))), fun x S0 hp hE => ?_⟩)
  walk_at "s"
  refine sr_first (sr_drop fun ss => er_call ?_)
  walk_at "w"
  exact ⟨x, rfl, hp, hE⟩
theorem ok_read_rowB {f : Addr} {fd : FuncData} (D : Df K mg "read_row" s_read_row ["text"] f fd) {C_NoText : Addr} {f__check_text : Addr} {d__check_text : FuncData} (C__check_text : Cal P w K mg base 1 "_check_text" ["thing"] (spF K (fun x : Str => [.dt (.str x)]) (fun _ => True) fun _ => .none) f__check_text d__check_text) {f__read_partO : Addr} {d__read_partO : FuncData} (C__read_partO : CalR P w K mg base 3 "_read_part" ["word"] (spO K (fun w : Str => [.dt (.str w)]) (fun w => w.length ≤ 1000 ∧ PyData.strOk w = true ∧ wordB w = true) (fun w => oD (wordV w)) (fun w : Str => [.dt (.str w)]) BadWd fun _ => C_NoText) f__read_partO d__read_partO) (m_tuple : mg "tuple" = none) (c_EMPTY_ROW : GlobS K mg "EMPTY_ROW" "none") : CalR P w K mg base 4 "read_row" ["text"] (spR K (fun x : Str => [.dt (.str x)]) BadRowB fun _ => C_NoText) f fd := by
  refine D.calR (ok_R D.F sc_read_row (fun _ => rfl) (by decide) fun cdv A outer s H E hr => ⟨_, (pss_cons (ps_expr (pe_call C__check_text.G (hr.mono (by decide)) (by rfl) C__check_text.g C__check_text.kp C__check_text.b .nil pass0 (pa_cons (pv 0) pa_nil)))
      (pss_cons (ps_if (pt_cmpR (op_eqD hr.units) (pv 0) (pe_glob (v := .str "none") (by rfl) c_EMPTY_ROW.u.choose_spec ⟨_, rfl⟩) (nomark _)) (pss_one (ps_ret (pe_tupF pa_nil))) pss_nil)
      (pss_cons (ps_set (i := 1) sc_read_row.nd rfl (Or.inl rfl) (pe_callTy cl_tupleF (by rfl) m_tuple (by decide +kernel) (pa_cons (Xa.pe_lcX (E0 := E) (own := [("word", 2)]) rfl rfl rfl sc_read_row.nd (L2N.takes_of rfl rfl rfl rfl) (pi_list (pe_m1 PySem.F.slot_str_split PySem.F.type_str_split cm_split (pv 0) pe_str)) (blkOk_by (own := [("word", 2)]) (N := ["text", "row", "word"]) (sc := (defScope s_read_row)) (by decide +kernel)) (fun _ _ _ _ _ => (pg_name (i := 2) sc_read_row.nd rfl (by first | exact Or.inl rfl | exact Or.inr rfl))) (fun _ _ _ _ _ => pts_nil) (fun _ _ _ _ _ _ px => (pe_callS C__read_partO.G (hr.mono (by decide)) (by rfl) C__read_partO.g C__read_partO.kp C__read_partO.b px (pa_cons (pv 2) pa_nil)))) pa_nil)))
      (pss_cons ps_never
      (pss_one ps_never))))), fun x S0 hp hE => ?_⟩)
  obtain ⟨⟨hl, ho⟩, hb⟩ := hp
  unfold rowB at hb
  rw [Bool.or_eq_false_iff] at hb
  have h : ¬ x = "none" := of_decide_eq_false hb.1
  obtain ⟨j, b0, hj, hb0, hlt⟩ := first_bad hb.2
  have hw : (rowW x).length ≤ 92 := Nat.le_trans (PyProof.Rows.split_le x " ") (by omega)
  walk_at "s"
  try dsimp only [BxN, cxOf]
  refine sr_seq ?_
  walk_at "w"
  refine ⟨x, rfl, trivial, ?_⟩
  walk_at "w"
  refine sr_seq ?_
  walk_at "w"
  refine r2_eqD rd_dt rd_dt (shp_ok (shp_str ho) (by decide)) (show SeqAt.shaped (.str "none") = true by decide +kernel) ?_
  rw [eqv_ss, decide_eq_false h]
  walk_at "w"
  
  refine sr_first (sr_asg fun ss => er_cb (ar_one ?_))
  apply er_lcT (vs := [2]) (fun w : Str => PyData.str w) (rowW x) (fun w => oD (wordV w)) j b0 (by walk_at "n") hj
  walk_at "w"
  refine ⟨_, rfl, ?_⟩
  walk_at "w"
  refine ⟨_, rfl, by decide +kernel, gl_le (by omega), ?_⟩
  walk_at "w"
  refine ⟨rfl, by simp, gl_lt (by omega), fun i a hi ha => ⟨_, tg_name (by decide), fun acc srcs => ?_⟩, _, tg_name (by decide), fun acc srcs => ?_⟩
  · have ha2 := blank_ok ho (List.mem_of_getElem? ha)
    walk_at "s"
    refine vd_of (ve_callO ?_)
    walk_at "w"
    refine ⟨a, rfl, ⟨by omega, ha2.1, hlt i a hi ha⟩, ?_⟩
    walk_at "w"
    exact ⟨rfl, rfl⟩
  · have ha2 := blank_ok ho (List.mem_of_getElem? hj)
    walk_at "s"
    refine er_callO ?_
    walk_at "w"
    exact ⟨b0, rfl, ⟨⟨by omega, ha2.1⟩, hb0⟩, hE⟩
theorem ok_read_rowC {f : Addr} {fd : FuncData} (D : Df K mg "read_row" s_read_row ["text"] f fd) {f__check_text : Addr} {d__check_text : FuncData} (C__check_text : Cal P w K mg base 1 "_check_text" ["thing"] (spF K (fun x : Str => [.dt (.str x)]) (fun _ => True) fun _ => .none) f__check_text d__check_text) {f__read_part : Addr} {d__read_part : FuncData} (C__read_part : Cal P w K mg base 3 "_read_part" ["word"] (spF K (fun w : Str => [.dt (.str w)]) (fun w => w.length ≤ 1000 ∧ PyData.strOk w = true ∧ wordB w = true) fun w => oD (wordV w)) f__read_part d__read_part) {f_is_rowO : Addr} {d_is_rowO : FuncData} (C_is_rowO : Cal P w K mg base 2 "is_row" ["thing"] (spF K (fun d : Dat => [.dt d]) (fun d => okD d = true) fun d => .bool (isRowD d)) f_is_rowO d_is_rowO) (m_tuple : mg "tuple" = none) (c_EMPTY_ROW : GlobS K mg "EMPTY_ROW" "none") {C_NoText : Addr} (x_NoText : ExcF K mg "NoText" C_NoText) : CalR P w K mg base 4 "read_row" ["text"] (spR K (fun x : Str => [.dt (.str x)]) BadRowC fun _ => C_NoText) f fd := by
  refine D.calR (ok_R D.F sc_read_row (fun _ => rfl) (by decide) fun cdv A outer s H E hr => ⟨_, (pss_cons (ps_expr (pe_call C__check_text.G (hr.mono (by decide)) (by rfl) C__check_text.g C__check_text.kp C__check_text.b .nil pass0 (pa_cons (pv 0) pa_nil)))
      (pss_cons (ps_if (pt_cmpR (op_eqD hr.units) (pv 0) (pe_glob (v := .str "none") (by rfl) c_EMPTY_ROW.u.choose_spec ⟨_, rfl⟩) (nomark _)) (pss_one (ps_ret (pe_tupF pa_nil))) pss_nil)
      (pss_cons (ps_set (i := 1) sc_read_row.nd rfl (Or.inl rfl) (pe_callTy cl_tupleF (by rfl) m_tuple (by decide +kernel) (pa_cons (pe_lc (own := [("word", 2)]) rfl sc_read_row.nd (pi_list (pe_m1 PySem.F.slot_str_split PySem.F.type_str_split cm_split (pv 0) pe_str)) (blkOk_by (own := [("word", 2)]) (N := ["text", "row", "word"]) (sc := (defScope s_read_row)) (by decide +kernel)) (fun _ _ _ _ _ => (pg_name (i := 2) sc_read_row.nd rfl (by first | exact Or.inl rfl | exact Or.inr rfl))) (fun _ _ _ _ _ => pts_nil) (fun _ _ _ _ _ => (pe_call C__read_part.G (hr.mono (by decide)) (by rfl) C__read_part.g C__read_part.kp C__read_part.b .nil pass0 (pa_cons (pv 2) pa_nil)))) pa_nil)))
      (pss_cons (ps_if (pt_not (pt_val (pe_call C_is_rowO.G (hr.mono (by decide)) (by rfl) C_is_rowO.g C_is_rowO.kp C_is_rowO.b .nil pass0 (pa_cons (pv 1) pa_nil)))) (pss_one (L2N.ps_raise rfl (L2N.takes_of rfl rfl rfl rfl) (Xa.pmk_n1 PySem.F.excBase_ValueError x_NoText.x x_NoText.g x_NoText.k (raises_own x_NoText.b x_NoText.t) rfl pe_str))) pss_nil)
      (pss_one ps_never))))), fun x S0 hp hE => ?_⟩)
  obtain ⟨⟨hl, ho⟩, hb, hr⟩ := hp
  unfold rowB at hb
  unfold rowD rowV at hr
  have h : ¬ x = "none" := fun z => by
    rw [if_pos z] at hr
    exact absurd hr (by decide +kernel)
  rw [if_neg h] at hr
  rw [decide_eq_false h, Bool.false_or] at hb
  have hw : (rowW x).length ≤ 92 := Nat.le_trans (PyProof.Rows.split_le x " ") (by omega)
  walk_at "s"
  try dsimp only [BxN, cxOf]
  refine sr_seq ?_
  walk_at "w"
  refine ⟨x, rfl, trivial, ?_⟩
  walk_at "w"
  refine sr_seq ?_
  walk_at "w"
  refine r2_eqD rd_dt rd_dt (shp_ok (shp_str ho) (by decide)) (show SeqAt.shaped (.str "none") = true by decide +kernel) ?_
  rw [eqv_ss, decide_eq_false h]
  walk_at "w"
  
  refine sr_seq ?_
  walk_at "w"
  apply ve_lcT (vs := [2]) (fun w : Str => PyData.str w) (rowW x) (fun _ => true) (fun w => oD (wordV w)) (by walk_at "n")
  walk_at "w"
  refine ⟨_, rfl, ?_⟩
  walk_at "w"
  refine ⟨_, rfl, by decide +kernel, gl_le (by omega), ?_⟩
  walk_at "w"
  refine ⟨rfl, by simp, gl_lt (by omega), fun a ha => ⟨_, tg_name (by decide), fun acc srcs => ?_⟩, ?_⟩
  · have ha2 := blank_ok ho ha
    walk_at "s"
    walk_at "w"
    refine ⟨rfl, fun _ => ?_, fun _ => rfl⟩
    walk_at "w"
    refine ⟨a, rfl, ⟨by omega, ha2.1, List.all_eq_true.mp hb a ha⟩, ?_⟩
    walk_at "w"
    exact ⟨rfl, rfl⟩
  rw [fil_true, show (rowW x).map (fun w => oD (wordV w)) = oL ((rowW x).map wordV) by show _ = List.map oD (List.map wordV (rowW x)); rw [List.map_map]; rfl]
  walk_at "w"
  walk_at "s"
  refine sr_first (sr_if fun ss => ?_)
  walk_at "w"
  refine ⟨.tuple (oL ((rowW x).map wordV)), rfl, okD_row (by rw [List.length_map]; omega), ?_⟩
  rw [hr]
  walk_at "w"
  refine sr_raise (ta := tC _) hE fun ss σ τ S E Q h => h _
theorem ok_read_line {f : Addr} {fd : FuncData} (D : Df K mg "read_line" s_read_line ["text"] f fd) {f__check_text : Addr} {d__check_text : FuncData} (C__check_text : Cal P w K mg base 1 "_check_text" ["thing"] (spF K (fun x : Str => [.dt (.str x)]) (fun _ => True) fun _ => .none) f__check_text d__check_text) {f__read_shelf : Addr} {d__read_shelf : FuncData} (C__read_shelf : Cal P w K mg base 3 "_read_shelf" ["row"] (spF K (fun w : Str => [.dt (.str w)]) (fun w => w.length ≤ 1000 ∧ PyData.strOk w = true ∧ shB w = true) fun w => shV w) f__read_shelf d__read_shelf) {f_is_lineO : Addr} {d_is_lineO : FuncData} (C_is_lineO : Cal P w K mg base 5 "is_line" ["thing"] (spF K (fun d : Dat => [.dt d]) (fun d => okDD d = true) fun d => .bool (isLineD d)) f_is_lineO d_is_lineO) (m_tuple : mg "tuple" = none) (c_NO_SHELVES : GlobS K mg "NO_SHELVES" "straight") : Cal P w K mg base 6 "read_line" ["text"] (spF K (fun x : Str => [.dt (.str x)]) (fun x => TxOk x ∧ lineB x = true ∧ isLineD (lineD x) = true) lineD) f fd := by
  refine D.cal (ok_G D.F sc_read_line (fun _ => rfl) (by decide) fun cdv A outer s H E hr => ⟨_, (pss_cons (ps_expr (pe_call C__check_text.G (hr.mono (by decide)) (by rfl) C__check_text.g C__check_text.kp C__check_text.b .nil pass0 (pa_cons (pv 0) pa_nil)))
      (pss_cons (ps_if (pt_cmpR (op_eqD hr.units) (pv 0) (pe_glob (v := .str "straight") (by rfl) c_NO_SHELVES.u.choose_spec ⟨_, rfl⟩) (nomark _)) (pss_one (ps_ret (pe_tupF pa_nil))) pss_nil)
      (pss_cons (ps_set (i := 1) sc_read_line.nd rfl (Or.inl rfl) (pe_callTy cl_tupleF (by rfl) m_tuple (by decide +kernel) (pa_cons (pe_lc (own := [("row", 2)]) rfl sc_read_line.nd (pi_list (pe_m1 PySem.F.slot_str_split PySem.F.type_str_split cm_split (pv 0) pe_str)) (blkOk_by (own := [("row", 2)]) (N := ["text", "line", "row"]) (sc := (defScope s_read_line)) (by decide +kernel)) (fun _ _ _ _ _ => (pg_name (i := 2) sc_read_line.nd rfl (by first | exact Or.inl rfl | exact Or.inr rfl))) (fun _ _ _ _ _ => pts_nil) (fun _ _ _ _ _ => (pe_call C__read_shelf.G (hr.mono (by decide)) (by rfl) C__read_shelf.g C__read_shelf.kp C__read_shelf.b .nil pass0 (pa_cons (pv 2) pa_nil)))) pa_nil)))
      (pss_cons (ps_if (pt_not (pt_val (pe_call C_is_lineO.G (hr.mono (by decide)) (by rfl) C_is_lineO.g C_is_lineO.kp C_is_lineO.b .nil pass0 (pa_cons (pv 1) pa_nil)))) (pss_one ps_never) pss_nil)
      (pss_one (ps_ret (pv 1))))))), fun x hp => ?_⟩)
  obtain ⟨⟨hl, ho⟩, hb, hr⟩ := hp
  walk_at "s"
  walk_at "w"
  refine ⟨x, rfl, trivial, ?_⟩
  walk_at "w"
  walk_at "s"
  walk_at "w"
  refine r2_eqD rd_dt rd_dt (shp_ok (shp_str ho) (by decide)) (show SeqAt.shaped (.str "straight") = true by decide +kernel) ?_
  rw [eqv_ss]
  unfold lineB at hb
  unfold lineD at hr ⊢
  by_cases h : x = "straight"
  · rw [decide_eq_true h, if_pos h]
    walk_at "w"
    try rfl
  · rw [if_neg h] at hr
    rw [decide_eq_false h, if_neg h]
    rw [decide_eq_false h, Bool.false_or] at hb
    have hw : (lineW x).length ≤ 92 := Nat.le_trans (PyProof.Rows.split_le x "\n") (by omega)
    walk_at "w"
    apply ve_lcT (vs := [2]) (fun w : Str => PyData.str w) (lineW x) (fun _ => true) shV (by walk_at "n")
    walk_at "w"
    refine ⟨_, rfl, ?_⟩
    walk_at "w"
    refine ⟨_, rfl, by decide +kernel, gl_le (by omega), ?_⟩
    walk_at "w"
    refine ⟨rfl, by simp, gl_lt (by omega), fun a ha => ⟨_, tg_name (by decide), fun acc srcs => ?_⟩, ?_⟩
    · have ha2 := feed_ok ho ha
      walk_at "s"
      walk_at "w"
      refine ⟨rfl, fun _ => ?_, fun _ => rfl⟩
      walk_at "w"
      refine ⟨a, rfl, ⟨by omega, ha2.1, List.all_eq_true.mp hb a ha⟩, ?_⟩
      walk_at "w"
      exact ⟨rfl, rfl⟩
    rw [fil_true]
    walk_at "w"
    walk_at "s"
    walk_at "w"
    refine ⟨.tuple ((lineW x).map shV), rfl, okDD_line (by omega), ?_⟩
    rw [hr]
    walk_at "w"
    walk_at "s"
    walk_at "w"
theorem ok_read_lineA {f : Addr} {fd : FuncData} (D : Df K mg "read_line" s_read_line ["text"] f fd) {C_NoText : Addr} {f__check_textR : Addr} {d__check_textR : FuncData} (C__check_textR : CalR P w K mg base 1 "_check_text" ["thing"] (spR K (fun d : Dat => [.dt d]) NoTxt fun _ => C_NoText) f__check_textR d__check_textR) : CalR P w K mg base 2 "read_line" ["text"] (spR K (fun d : Dat => [.dt d]) NoTxt fun _ => C_NoText) f fd := by
  refine D.calR (ok_R D.F sc_read_line (fun _ => rfl) (by decide) fun cdv A outer s H E hr => ⟨_, (pss_cons (ps_expr (pe_callS C__check_textR.G (hr.mono (by decide)) (by rfl) C__check_textR.g C__check_textR.kp C__check_textR.b (fun σ => L2N.passAt (L2N.takes_of rfl rfl rfl rfl) σ) (pa_cons (pv 0) pa_nil)))
      (pss_cons ps_never
      (pss_cons ps_never
      (pss_cons ps_never
      (pss_one ps_never))))), fun x S0 hp hE => ?_⟩)
  walk_at "s"
  refine sr_first (sr_drop fun ss => er_call ?_)
  walk_at "w"
  exact ⟨x, rfl, hp, hE⟩
theorem ok_read_lineB {f : Addr} {fd : FuncData} (D : Df K mg "read_line" s_read_line ["text"] f fd) {C_NoText : Addr} {f__check_text : Addr} {d__check_text : FuncData} (C__check_text : Cal P w K mg base 1 "_check_text" ["thing"] (spF K (fun x : Str => [.dt (.str x)]) (fun _ => True) fun _ => .none) f__check_text d__check_text) {f__read_shelfO : Addr} {d__read_shelfO : FuncData} (C__read_shelfO : CalR P w K mg base 3 "_read_shelf" ["row"] (spO K (fun w : Str => [.dt (.str w)]) (fun w => w.length ≤ 1000 ∧ PyData.strOk w = true ∧ shB w = true) shV (fun w : Str => [.dt (.str w)]) BadSh fun _ => C_NoText) f__read_shelfO d__read_shelfO) (m_tuple : mg "tuple" = none) (c_NO_SHELVES : GlobS K mg "NO_SHELVES" "straight") : CalR P w K mg base 4 "read_line" ["text"] (spR K (fun x : Str => [.dt (.str x)]) BadLineB fun _ => C_NoText) f fd := by
  refine D.calR (ok_R D.F sc_read_line (fun _ => rfl) (by decide) fun cdv A outer s H E hr => ⟨_, (pss_cons (ps_expr (pe_call C__check_text.G (hr.mono (by decide)) (by rfl) C__check_text.g C__check_text.kp C__check_text.b .nil pass0 (pa_cons (pv 0) pa_nil)))
      (pss_cons (ps_if (pt_cmpR (op_eqD hr.units) (pv 0) (pe_glob (v := .str "straight") (by rfl) c_NO_SHELVES.u.choose_spec ⟨_, rfl⟩) (nomark _)) (pss_one (ps_ret (pe_tupF pa_nil))) pss_nil)
      (pss_cons (ps_set (i := 1) sc_read_line.nd rfl (Or.inl rfl) (pe_callTy cl_tupleF (by rfl) m_tuple (by decide +kernel) (pa_cons (Xa.pe_lcX (E0 := E) (own := [("row", 2)]) rfl rfl rfl sc_read_line.nd (L2N.takes_of rfl rfl rfl rfl) (pi_list (pe_m1 PySem.F.slot_str_split PySem.F.type_str_split cm_split (pv 0) pe_str)) (blkOk_by (own := [("row", 2)]) (N := ["text", "line", "row"]) (sc := (defScope s_read_line)) (by decide +kernel)) (fun _ _ _ _ _ => (pg_name (i := 2) sc_read_line.nd rfl (by first | exact Or.inl rfl | exact Or.inr rfl))) (fun _ _ _ _ _ => pts_nil) (fun _ _ _ _ _ _ px => (pe_callS C__read_shelfO.G (hr.mono (by decide)) (by rfl) C__read_shelfO.g C__read_shelfO.kp C__read_shelfO.b px (pa_cons (pv 2) pa_nil)))) pa_nil)))
      (pss_cons ps_never
      (pss_one ps_never))))), fun x S0 hp hE => ?_⟩)
  obtain ⟨⟨hl, ho⟩, hb⟩ := hp
  unfold lineB at hb
  rw [Bool.or_eq_false_iff] at hb
  have h : ¬ x = "straight" := of_decide_eq_false hb.1
  obtain ⟨j, b0, hj, hb0, hlt⟩ := first_bad hb.2
  have hw : (lineW x).length ≤ 92 := Nat.le_trans (PyProof.Rows.split_le x "\n") (by omega)
  walk_at "s"
  try dsimp only [BxN, cxOf]
  refine sr_seq ?_
  walk_at "w"
  refine ⟨x, rfl, trivial, ?_⟩
  walk_at "w"
  refine sr_seq ?_
  walk_at "w"
  refine r2_eqD rd_dt rd_dt (shp_ok (shp_str ho) (by decide)) (show SeqAt.shaped (.str "straight") = true by decide +kernel) ?_
  rw [eqv_ss, decide_eq_false h]
  walk_at "w"
  
  refine sr_first (sr_asg fun ss => er_cb (ar_one ?_))
  apply er_lcT (vs := [2]) (fun w : Str => PyData.str w) (lineW x) (shV) j b0 (by walk_at "n") hj
  walk_at "w"
  refine ⟨_, rfl, ?_⟩
  walk_at "w"
  refine ⟨_, rfl, by decide +kernel, gl_le (by omega), ?_⟩
  walk_at "w"
  refine ⟨rfl, by simp, gl_lt (by omega), fun i a hi ha => ⟨_, tg_name (by decide), fun acc srcs => ?_⟩, _, tg_name (by decide), fun acc srcs => ?_⟩
  · have ha2 := feed_ok ho (List.mem_of_getElem? ha)
    walk_at "s"
    refine vd_of (ve_callO ?_)
    walk_at "w"
    refine ⟨a, rfl, ⟨by omega, ha2.1, hlt i a hi ha⟩, ?_⟩
    walk_at "w"
    exact ⟨rfl, rfl⟩
  · have ha2 := feed_ok ho (List.mem_of_getElem? hj)
    walk_at "s"
    refine er_callO ?_
    walk_at "w"
    exact ⟨b0, rfl, ⟨⟨by omega, ha2.1⟩, hb0⟩, hE⟩
theorem ok_read_lineC {f : Addr} {fd : FuncData} (D : Df K mg "read_line" s_read_line ["text"] f fd) {f__check_text : Addr} {d__check_text : FuncData} (C__check_text : Cal P w K mg base 1 "_check_text" ["thing"] (spF K (fun x : Str => [.dt (.str x)]) (fun _ => True) fun _ => .none) f__check_text d__check_text) {f__read_shelf : Addr} {d__read_shelf : FuncData} (C__read_shelf : Cal P w K mg base 3 "_read_shelf" ["row"] (spF K (fun w : Str => [.dt (.str w)]) (fun w => w.length ≤ 1000 ∧ PyData.strOk w = true ∧ shB w = true) fun w => shV w) f__read_shelf d__read_shelf) {f_is_lineO : Addr} {d_is_lineO : FuncData} (C_is_lineO : Cal P w K mg base 5 "is_line" ["thing"] (spF K (fun d : Dat => [.dt d]) (fun d => okDD d = true) fun d => .bool (isLineD d)) f_is_lineO d_is_lineO) (m_tuple : mg "tuple" = none) (c_NO_SHELVES : GlobS K mg "NO_SHELVES" "straight") {C_NoText : Addr} (x_NoText : ExcF K mg "NoText" C_NoText) : CalR P w K mg base 6 "read_line" ["text"] (spR K (fun x : Str => [.dt (.str x)]) BadLineC fun _ => C_NoText) f fd := by
  refine D.calR (ok_R D.F sc_read_line (fun _ => rfl) (by decide) fun cdv A outer s H E hr => ⟨_, (pss_cons (ps_expr (pe_call C__check_text.G (hr.mono (by decide)) (by rfl) C__check_text.g C__check_text.kp C__check_text.b .nil pass0 (pa_cons (pv 0) pa_nil)))
      (pss_cons (ps_if (pt_cmpR (op_eqD hr.units) (pv 0) (pe_glob (v := .str "straight") (by rfl) c_NO_SHELVES.u.choose_spec ⟨_, rfl⟩) (nomark _)) (pss_one (ps_ret (pe_tupF pa_nil))) pss_nil)
      (pss_cons (ps_set (i := 1) sc_read_line.nd rfl (Or.inl rfl) (pe_callTy cl_tupleF (by rfl) m_tuple (by decide +kernel) (pa_cons (pe_lc (own := [("row", 2)]) rfl sc_read_line.nd (pi_list (pe_m1 PySem.F.slot_str_split PySem.F.type_str_split cm_split (pv 0) pe_str)) (blkOk_by (own := [("row", 2)]) (N := ["text", "line", "row"]) (sc := (defScope s_read_line)) (by decide +kernel)) (fun _ _ _ _ _ => (pg_name (i := 2) sc_read_line.nd rfl (by first | exact Or.inl rfl | exact Or.inr rfl))) (fun _ _ _ _ _ => pts_nil) (fun _ _ _ _ _ => (pe_call C__read_shelf.G (hr.mono (by decide)) (by rfl) C__read_shelf.g C__read_shelf.kp C__read_shelf.b .nil pass0 (pa_cons (pv 2) pa_nil)))) pa_nil)))
      (pss_cons (ps_if (pt_not (pt_val (pe_call C_is_lineO.G (hr.mono (by decide)) (by rfl) C_is_lineO.g C_is_lineO.kp C_is_lineO.b .nil pass0 (pa_cons (pv 1) pa_nil)))) (pss_one (L2N.ps_raise rfl (L2N.takes_of rfl rfl rfl rfl) (Xa.pmk_n1 PySem.F.excBase_ValueError x_NoText.x x_NoText.g x_NoText.k (raises_own x_NoText.b x_NoText.t) rfl pe_str))) pss_nil)
      (pss_one ps_never))))), fun x S0 hp hE => ?_⟩)
  obtain ⟨⟨hl, ho⟩, hb, hr⟩ := hp
  unfold lineB at hb
  unfold lineD at hr
  have h : ¬ x = "straight" := fun z => by
    rw [if_pos z] at hr
    exact absurd hr (by decide +kernel)
  rw [if_neg h] at hr
  rw [decide_eq_false h, Bool.false_or] at hb
  have hw : (lineW x).length ≤ 92 := Nat.le_trans (PyProof.Rows.split_le x "\n") (by omega)
  walk_at "s"
  try dsimp only [BxN, cxOf]
  refine sr_seq ?_
  walk_at "w"
  refine ⟨x, rfl, trivial, ?_⟩
  walk_at "w"
  refine sr_seq ?_
  walk_at "w"
  refine r2_eqD rd_dt rd_dt (shp_ok (shp_str ho) (by decide)) (show SeqAt.shaped (.str "straight") = true by decide +kernel) ?_
  rw [eqv_ss, decide_eq_false h]
  walk_at "w"
  
  refine sr_seq ?_
  walk_at "w"
  apply ve_lcT (vs := [2]) (fun w : Str => PyData.str w) (lineW x) (fun _ => true) (shV) (by walk_at "n")
  walk_at "w"
  refine ⟨_, rfl, ?_⟩
  walk_at "w"
  refine ⟨_, rfl, by decide +kernel, gl_le (by omega), ?_⟩
  walk_at "w"
  refine ⟨rfl, by simp, gl_lt (by omega), fun a ha => ⟨_, tg_name (by decide), fun acc srcs => ?_⟩, ?_⟩
  · have ha2 := feed_ok ho ha
    walk_at "s"
    walk_at "w"
    refine ⟨rfl, fun _ => ?_, fun _ => rfl⟩
    walk_at "w"
    refine ⟨a, rfl, ⟨by omega, ha2.1, List.all_eq_true.mp hb a ha⟩, ?_⟩
    walk_at "w"
    exact ⟨rfl, rfl⟩
  rw [fil_true]
  walk_at "w"
  walk_at "s"
  refine sr_first (sr_if fun ss => ?_)
  walk_at "w"
  refine ⟨.tuple ((lineW x).map shV), rfl, okDD_line (by omega), ?_⟩
  rw [hr]
  walk_at "w"
  refine sr_raise (ta := tC _) hE fun ss σ τ S E Q h => h _
theorem ok__law_number {f : Addr} {fd : FuncData} (D : Df K mg "_law_number" s__law_number ["_law_word"] f fd) (m_int : mg "int" = none) (m_str : mg "str" = none) : Cal P w K mg base 1 "_law_number" ["_law_word"] (spF K (fun w : Str => [.dt (.str w)]) TxOk lawN) f fd := by
  refine D.cal (ok_G D.F sc__law_number (fun _ => rfl) (by decide) fun cdv A outer s H E hr => ⟨_, (pss_cons (ps_set (i := 1) sc__law_number.nd rfl (Or.inl rfl) (pe_ifExp (pt_cmpR (op_eqD hr.units) (pe_slice sl_str (pv 0) po_none (po_some pe_int)) pe_str (nomark _)) (pe_slice sl_str (pv 0) (po_some pe_int) po_none) (pv 0)))
      (pss_cons (ps_if (PW.pt (pw_or (pt_cmpR (op_eqD hr.units) (pv 1) pe_str (nomark _)) (pw_or (pt_cmpR (op_neD hr.units) (pe_lc (own := [("_law_sign", 2)]) rfl sc__law_number.nd (pi_str (pv 1)) (blkOk_by (own := [("_law_sign", 2)]) (N := ["_law_word", "_law_bare", "_law_sign"]) (sc := (defScope s__law_number)) (by decide +kernel)) (fun _ _ _ _ _ => (pg_name (i := 2) sc__law_number.nd rfl (by first | exact Or.inl rfl | exact Or.inr rfl))) (fun _ _ _ _ _ => (pts_one (pt_cmpR op_notInS (pv 2) pe_str (by rfl)))) (fun _ _ _ _ _ => (pv 2))) (pe_lst pa_nil) (nomark _)) (pw_or1 (pt_cmpR (op_neD hr.units) (pe_callTy cl_strI (by rfl) m_str (by decide +kernel) (pa_cons (pe_callTy cl_intS (by rfl) m_int (by decide +kernel) (pa_cons (pv 0) pa_nil)) pa_nil)) (pv 0) (nomark _)))))) (pss_one (ps_ret pe_str)) pss_nil)
      (pss_one (ps_ret (pe_callTy cl_intS (by rfl) m_int (by decide +kernel) (pa_cons (pv 0) pa_nil)))))), fun x hp => ?_⟩)
  obtain ⟨hl, ho⟩ := hp
  obtain ⟨hd, hdl⟩ := rmp_ok ho
  have hbd := bare_dgs x
  walk_at "s"
  refine ss_seqM (fun Γ => Γ = [.dt (.str x), .dt (.str (dgs x)), .no]) ?_ (fun Γ' e => ?_)
  · walk_at "w"
    refine ⟨_, rfl, gl_le (by omega), ?_⟩
    walk_at "w"
    refine r2_eqD rd_dt rd_dt (shp_ok (shp_str (cut_ok ho)) (by decide)) (show SeqAt.shaped (.str "-") = true by decide +kernel) ?_
    rw [eqv_ss]
    by_cases h : cutS x none (some 1) = "-"
    · rw [decide_eq_true h]
      rw [if_pos h] at hbd
      walk_at "w"
      refine ⟨_, rfl, gl_le (by omega), ?_⟩
      walk_at "w"
      rw [hbd]
      rfl
    · rw [decide_eq_false h]
      rw [if_neg h] at hbd
      walk_at "w"
      rw [← hbd]
      rfl
  subst e
  walk_at "w"
  refine r2_eqD rd_dt rd_dt (shp_ok (shp_str hd) (by decide)) (show SeqAt.shaped (.str "") = true by decide +kernel) ?_
  rw [eqv_ss]
  by_cases h0 : dgs x = ""
  · rw [decide_eq_true h0]
    walk_at "w"
    exact (lawN_no (numB_no1 h0)).symm
  rw [decide_eq_false h0]
  walk_at "w"
  apply ve_lcT (vs := [2]) (fun c : Nat => PyData.str (sgn c)) (TL.tl (dgs x)) (fun c => !digC c) (fun c => .str (sgn c)) (by walk_at "n")
  walk_at "w"
  refine ⟨_, rfl, rfl, by simp, gl_lt (by rw [← TL.len_tl]; omega), fun a ha => ⟨_, tg_name (by decide), fun acc srcs => ?_⟩, ?_⟩
  · walk_at "s"
    walk_at "w"
    refine ⟨rfl, fun _ => ?_, fun _ => rfl⟩
    walk_at "w"
    exact ⟨rfl, rfl⟩
  walk_at "w"
  refine r2_neNil (n := 1) rd_fr rd_fr (fun d hd2 => ?_) (by decide) ?_
  · obtain ⟨c, hc, rfl⟩ := List.mem_map.mp hd2
    exact shp_str (sgn_okM hd (List.mem_filter.mp hc).1)
  rw [no_sgn]
  cases hall : (TL.tl (dgs x)).all digC with
  | false =>
    walk_at "w"
    exact (lawN_no (numB_no2 hall)).symm
  | true =>
    have hdb := digB_of h0 hall
    walk_at "w"
    refine c1_intS (int_word hdb (by omega)) (by omega) ?_
    walk_at "w"
    refine c1_strI (numV_lt hdb hl ho) ?_
    walk_at "w"
    show R2V K (rNeD K) _ _ (.dt (.str (numT (numV x)))) (.dt (.str x)) _
    refine r2_neD rd_dt rd_dt (shp_ok (shp_str (numT_any _)) (by decide)) (shp_ok (shp_str ho) (by decide)) ?_
    rw [eqv_ss, back_word hdb, Bool.not_not]
    cases hz : zeroB x with
    | true =>
      walk_at "w"
      exact (lawN_no (by unfold numB; rw [hdb, hz]; rfl)).symm
    | false =>
      walk_at "w"
      refine c1_intS (int_word hdb (by omega)) (by omega) ?_
      walk_at "w"
      exact (lawN_yes (by unfold numB; rw [hdb, hz]; rfl)).symm
theorem ok__law_parse {f : Addr} {fd : FuncData} (D : Df K mg "_law_parse" s__law_parse ["_law_what", "_law_text"] f fd) {f__law_number : Addr} {d__law_number : FuncData} (C__law_number : Cal P w K mg base 1 "_law_number" ["_law_word"] (spF K (fun w : Str => [.dt (.str w)]) TxOk lawN) f__law_number d__law_number) (m_tuple : mg "tuple" = none) : Cal P w K mg base 2 "_law_parse" ["_law_what", "_law_text"] (spF K (fun p : Nat × Str => [.dt (.int p.1), .dt (.str p.2)]) (fun p => p.1 ≤ 1 ∧ TxOk p.2) fun p => if p.1 = 0 then parR p.2 else parL p.2) f fd := by
  refine D.cal (ok_G D.F sc__law_parse (fun _ => rfl) (by decide) fun cdv A outer s H E hr => ⟨_, (pss_cons (ps_if (pt_cmpR (op_eqD hr.units) (pv 0) pe_int (nomark _)) (pss_cons (ps_set (i := 2) sc__law_parse.nd rfl (Or.inl rfl) (pe_ifExp (pt_cmpR (op_neD hr.units) (pv 1) pe_str (nomark _)) (pe_m1 PySem.F.slot_str_split PySem.F.type_str_split cm_split (pv 1) pe_str) (pe_lst pa_nil)))
      (pss_one (ps_ret (pe_callTy cl_tupleF (by rfl) m_tuple (by decide +kernel) (pa_cons (pe_lc (own := [("_law_word", 5)]) rfl sc__law_parse.nd (pi_list (pv 2)) (blkOk_by (own := [("_law_word", 5)]) (N := ["_law_what", "_law_text", "_law_words", "_law_rows", "_law_row", "_law_word"]) (sc := (defScope s__law_parse)) (by decide +kernel)) (fun _ _ _ _ _ => (pg_name (i := 5) sc__law_parse.nd rfl (by first | exact Or.inl rfl | exact Or.inr rfl))) (fun _ _ _ _ _ => pts_nil) (fun _ _ _ _ _ => (pe_ifExp (pt_cmpR (op_eqDK (K := K) rfl hr.units) (pv 5) pe_str (nomark _)) pe_non (pe_call C__law_number.G (hr.mono (by decide)) (by rfl) C__law_number.g C__law_number.kp C__law_number.b .nil pass0 (pa_cons (pv 5) pa_nil))))) pa_nil))))) pss_nil)
      (pss_cons (ps_set (i := 3) sc__law_parse.nd rfl (Or.inl rfl) (pe_ifExp (pt_cmpR (op_neD hr.units) (pv 1) pe_str (nomark _)) (pe_lc (own := [("_law_row", 4)]) rfl sc__law_parse.nd (pi_list (pe_m1 PySem.F.slot_str_split PySem.F.type_str_split cm_split (pv 1) pe_str)) (blkOk_by (own := [("_law_row", 4)]) (N := ["_law_what", "_law_text", "_law_words", "_law_rows", "_law_row", "_law_word"]) (sc := (defScope s__law_parse)) (by decide +kernel)) (fun _ _ _ _ _ => (pg_name (i := 4) sc__law_parse.nd rfl (by first | exact Or.inl rfl | exact Or.inr rfl))) (fun _ _ _ _ _ => pts_nil) (fun _ _ _ _ _ => (pe_m1 PySem.F.slot_str_split PySem.F.type_str_split cm_split (pv 4) pe_str))) (pe_lst pa_nil)))
      (pss_one (ps_ret (pe_callTy cl_tupleF (by rfl) m_tuple (by decide +kernel) (pa_cons (pe_lc (own := [("_law_row", 4)]) rfl sc__law_parse.nd (pi_list (pv 3)) (blkOk_by (own := [("_law_row", 4)]) (N := ["_law_what", "_law_text", "_law_words", "_law_rows", "_law_row", "_law_word"]) (sc := (defScope s__law_parse)) (by decide +kernel)) (fun _ _ _ _ _ => (pg_name (i := 4) sc__law_parse.nd rfl (by first | exact Or.inl rfl | exact Or.inr rfl))) (fun _ _ _ _ _ => pts_nil) (fun _ _ _ _ _ => (pe_callTy (cl_tupleFK (K := K) rfl) (by rfl) m_tuple (by decide +kernel) (pa_cons (pe_op op_cat (pe_slice (sl_listK (K := K) rfl) (pv 4) po_none (po_some pe_int)) (pe_lc (own := [("_law_word", 5)]) rfl sc__law_parse.nd (pi_listK (K := K) rfl (pe_slice (sl_listK (K := K) rfl) (pv 4) (po_some pe_int) po_none)) (blkOk_by (own := [("_law_word", 5)]) (N := ["_law_what", "_law_text", "_law_words", "_law_rows", "_law_row", "_law_word"]) (sc := ⟨.function, [(".0", .local), ("_law_row", .local), ("tuple", .globalImplicit)], false, false, []⟩) (by decide +kernel)) (fun _ _ _ _ _ => (pg_name (i := 5) sc__law_parse.nd rfl (by first | exact Or.inl rfl | exact Or.inr rfl))) (fun _ _ _ _ _ => pts_nil) (fun _ _ _ _ _ => (pe_call C__law_number.G (hr.mono (by decide)) (by rfl) C__law_number.g C__law_number.kp C__law_number.b .nil pass0 (pa_cons (pv 5) pa_nil))))) pa_nil)))) pa_nil)))))), fun x hp => ?_⟩)
  obtain ⟨k, x⟩ := x
  obtain ⟨hk, hl, ho⟩ := hp
  dsimp only at hk hl ho ⊢
  have hw : (rowW x).length ≤ 92 := Nat.le_trans (PyProof.Rows.split_le x " ") (by omega)
  have hw2 : (lineW x).length ≤ 92 := Nat.le_trans (PyProof.Rows.split_le x "\n") (by omega)
  obtain rfl | rfl : k = 0 ∨ k = 1 := by omega
  · rw [if_pos rfl]
    walk_at "s"
    walk_at "w"
    refine r2_neD rd_dt rd_dt (shp_ok (shp_str ho) (by decide)) (show SeqAt.shaped (.str "none") = true by decide +kernel) ?_
    rw [eqv_ss]
    unfold parR
    by_cases h : x = "none"
    · rw [decide_eq_true h, if_pos h]
      walk_at "w"
      walk_at "s"
      walk_at "w"
      apply ve_lcT (vs := [5]) (fun w : Str => PyData.str w) ([] : List Str) (fun _ => true) parW (by walk_at "n")
      walk_at "w"
      refine ⟨rfl, by simp, gl_lt (by decide), fun a ha => ⟨_, tg_name (by decide), fun acc srcs => ?_⟩, ?_⟩
      · cases ha
      walk_at "w"
      rw [fil_true]
      rfl
    · rw [decide_eq_false h, if_neg h]
      walk_at "w"
      refine ⟨_, rfl, ?_⟩
      walk_at "w"
      refine ⟨_, rfl, by decide +kernel, gl_le (by omega), ?_⟩
      walk_at "w"
      walk_at "s"
      walk_at "w"
      apply ve_lcT (vs := [5]) (fun w : Str => PyData.str w) (rowW x) (fun _ => true) parW (by walk_at "n")
      walk_at "w"
      refine ⟨rfl, by simp, gl_lt (by omega), fun a ha => ⟨_, tg_name (by decide), fun acc srcs => ?_⟩, ?_⟩
      · have ha2 := blank_ok ho ha
        walk_at "s"
        walk_at "w"
        refine ⟨rfl, fun _ => ?_, fun _ => rfl⟩
        walk_at "w"
        refine r2_eqD rd_dt rd_dt (shp_ok (shp_str ha2.1) (by decide)) (show SeqAt.shaped (.str "|") = true by decide +kernel) ?_
        rw [eqv_ss]
        by_cases h7 : a = "|"
        · rw [decide_eq_true h7]
          walk_at "w"
          exact ⟨(if_pos h7).symm, rfl⟩
        · rw [decide_eq_false h7]
          walk_at "w"
          refine ⟨a, rfl, ⟨by omega, ha2.1⟩, ?_⟩
          walk_at "w"
          exact ⟨(if_neg h7).symm, rfl⟩
      walk_at "w"
      rw [fil_true]
      try rfl
  · rw [if_neg (by decide)]
    walk_at "s"
    walk_at "w"
    refine r2_neD rd_dt rd_dt (shp_ok (shp_str ho) (by decide)) (show SeqAt.shaped (.str "straight") = true by decide +kernel) ?_
    rw [eqv_ss]
    unfold parL
    by_cases h : x = "straight"
    · rw [decide_eq_true h, if_pos h]
      walk_at "w"
      walk_at "s"
      walk_at "w"
      apply ve_lcT (vs := [4]) (fun w : Str => PyData.str w) ([] : List Str) (fun _ => true) parS (by walk_at "n")
      walk_at "w"
      refine ⟨rfl, by simp, gl_lt (by decide), fun a ha => ⟨_, tg_name (by decide), fun acc srcs => ?_⟩, ?_⟩
      · cases ha
      walk_at "w"
      rfl
    · rw [decide_eq_false h, if_neg h]
      walk_at "w"
      apply ve_lcT (vs := [4]) (fun w : Str => PyData.str w) (lineW x) (fun _ => true) (fun t => PyData.list ((rowW t).map .str)) (by walk_at "n")
      walk_at "w"
      refine ⟨_, rfl, ?_⟩
      walk_at "w"
      refine ⟨_, rfl, by decide +kernel, gl_le (by omega), ?_⟩
      walk_at "w"
      refine ⟨rfl, by simp, gl_lt (by omega), fun a ha => ⟨_, tg_name (by decide), fun acc srcs => ?_⟩, ?_⟩
      · have ha2 := feed_ok ho ha
        walk_at "s"
        walk_at "w"
        refine ⟨rfl, fun _ => ?_, fun _ => rfl⟩
        walk_at "w"
        refine ⟨_, rfl, ?_⟩
        walk_at "w"
        refine ⟨_, rfl, by decide +kernel, gl_le (by omega), ?_⟩
        walk_at "w"
        exact ⟨rfl, rfl⟩
      rw [fil_true]
      walk_at "w"
      walk_at "s"
      walk_at "w"
      apply ve_lcT (vs := [4]) (fun t : Str => PyData.list ((rowW t).map .str)) (lineW x) (fun _ => true) parS (by walk_at "n")
      walk_at "w"
      refine ⟨rfl, by simp, gl_lt (by omega), fun t ht => ⟨_, tg_name (by decide), fun acc srcs => ?_⟩, ?_⟩
      · have ht2 := feed_ok ho ht
        have hw3 : (rowW t).length ≤ 92 := Nat.le_trans (PyProof.Rows.split_le t " ") (by omega)
        walk_at "s"
        walk_at "w"
        refine ⟨rfl, fun _ => ?_, fun _ => rfl⟩
        have c1 : Ld.cutD ((rowW t).map PyData.str) none (some 1) = ((rowW t).take 1).map PyData.str := by rw [show (some 1 : Option Int) = some ((1 : Nat) : Int) from rfl, cut_to, List.map_take]
        have c2 : Ld.cutD ((rowW t).map PyData.str) (some 1) none = ((rowW t).drop 1).map PyData.str := by rw [show (some 1 : Option Int) = some ((1 : Nat) : Int) from rfl, cut_from, List.map_drop]
        walk_at "w"
        rw [c1]
        apply ve_lcT (vs := [5]) (fun w : Str => PyData.str w) ((rowW t).drop 1) (fun _ => true) lawN (by walk_at "n")
        walk_at "w"
        rw [c2]
        refine ⟨rfl, by simp, gl_lt (by rw [List.length_drop]; omega), fun a ha => ⟨_, tg_name (by decide), fun acc srcs => ?_⟩, ?_⟩
        · have ha3 := blank_ok ht2.1 (List.mem_of_mem_drop ha)
          walk_at "s"
          walk_at "w"
          refine ⟨rfl, fun _ => ?_, fun _ => rfl⟩
          walk_at "w"
          refine ⟨a, rfl, ⟨by omega, ha3.1⟩, ?_⟩
          walk_at "w"
          exact ⟨rfl, rfl⟩
        rw [fil_true]
        refine r2_cat (.inr rfl) (.inr rfl) (gl_le (by rw [List.length_map, List.length_map, List.length_take, List.length_drop]; omega)) ?_
        walk_at "w"
        exact ⟨rfl, rfl⟩
      rw [fil_true]
      walk_at "w"
      try rfl
theorem ok__law_ask {f : Addr} {fd : FuncData} (D : Df K mg "_law_ask" s__law_ask ["_law_what", "_law_text"] f fd) {C_NoText : Addr} {f_read_line : Addr} {d_read_line : FuncData} (C_read_line : Cal P w K mg base 6 "read_line" ["text"] (spF K (fun x : Str => [.dt (.str x)]) (fun x => TxOk x ∧ lineB x = true ∧ isLineD (lineD x) = true) lineD) f_read_line d_read_line) {f_read_lineA : Addr} {d_read_lineA : FuncData} (C_read_lineA : CalR P w K mg base 2 "read_line" ["text"] (spR K (fun d : Dat => [.dt d]) NoTxt fun _ => C_NoText) f_read_lineA d_read_lineA) {f_read_lineB : Addr} {d_read_lineB : FuncData} (C_read_lineB : CalR P w K mg base 4 "read_line" ["text"] (spR K (fun x : Str => [.dt (.str x)]) BadLineB fun _ => C_NoText) f_read_lineB d_read_lineB) {f_read_lineC : Addr} {d_read_lineC : FuncData} (C_read_lineC : CalR P w K mg base 6 "read_line" ["text"] (spR K (fun x : Str => [.dt (.str x)]) BadLineC fun _ => C_NoText) f_read_lineC d_read_lineC) {f_read_row : Addr} {d_read_row : FuncData} (C_read_row : Cal P w K mg base 4 "read_row" ["text"] (spF K (fun x : Str => [.dt (.str x)]) (fun x => TxOk x ∧ rowB x = true ∧ isRowD (rowD x) = true) rowD) f_read_row d_read_row) {f_read_rowA : Addr} {d_read_rowA : FuncData} (C_read_rowA : CalR P w K mg base 2 "read_row" ["text"] (spR K (fun d : Dat => [.dt d]) NoTxt fun _ => C_NoText) f_read_rowA d_read_rowA) {f_read_rowB : Addr} {d_read_rowB : FuncData} (C_read_rowB : CalR P w K mg base 4 "read_row" ["text"] (spR K (fun x : Str => [.dt (.str x)]) BadRowB fun _ => C_NoText) f_read_rowB d_read_rowB) {f_read_rowC : Addr} {d_read_rowC : FuncData} (C_read_rowC : CalR P w K mg base 4 "read_row" ["text"] (spR K (fun x : Str => [.dt (.str x)]) BadRowC fun _ => C_NoText) f_read_rowC d_read_rowC) {C_ShelfError : Addr} (g_ShelfError : mg "ShelfError" = some (.ref C_ShelfError)) {idx : Addr → Option Int} {f_w : Addr} {d_w : FuncData} (W_which : Xa.FnE P w K mg base 1 f_w d_w ["_law_e"] (spE idx)) (w_g : mg "_law_which" = some (.ref f_w)) (w_k : PySem.W.keepIn K (.ref f_w) = true) (w_b : Binds K d_w ["_law_e"] []) (w_eNoText : PySem.W.exmOne K (.ref C_NoText) (.ref C_ShelfError) = some true) (w_iNoText : idx C_NoText = some 9) : Cal P w K mg base 7 "_law_ask" ["_law_what", "_law_text"] (spF K (fun p : Nat × Dat × Dat => [.dt (.int p.1), .dt p.2.1]) (fun p => TxR p.1 p.2.1 p.2.2) fun p => p.2.2) f fd := by
  cases C_read_row.g.symm.trans C_read_rowA.g
  cases C_read_row.g.symm.trans C_read_rowB.g
  cases C_read_row.g.symm.trans C_read_rowC.g
  cases C_read_line.g.symm.trans C_read_lineA.g
  cases C_read_line.g.symm.trans C_read_lineB.g
  cases C_read_line.g.symm.trans C_read_lineC.g
  refine D.cal (ok_G D.F sc__law_ask (fun _ => rfl) (by decide) fun cdv A outer s H E hr => ⟨_, (pss_one (L2N.ps_try_as (i := 2) (ts := fun a cl d => tRet (tCall (spE idx a cl d) [] E0 (tCons (tVar 2) tNil))) rfl rfl sc__law_ask.nd rfl rfl ⟨rfl, by decide, .inl g_ShelfError⟩ Xa.takes0N (fun W pn xe tk _ => (pss_one (ps_ret (pe_ifExp (pt_cmpR (op_eqDK (K := K) rfl hr.units) (pv 0) pe_int (nomark _)) (Xa.pe_callAny (E := fun σ => WE W σ) (Xa.ccons (Xa.cal0 C_read_row.G (hr.mono (by decide)) C_read_row.kp C_read_row.b) (Xa.ccons (Xa.calW C_read_rowA.G (hr.mono (by decide)) C_read_rowA.kp C_read_rowA.b tk) (Xa.ccons (Xa.calW C_read_rowB.G (hr.mono (by decide)) C_read_rowB.kp C_read_rowB.b tk) (Xa.ccons (Xa.calW C_read_rowC.G (hr.mono (by decide)) C_read_rowC.kp C_read_rowC.b tk) Xa.cnil)))) (pe_glob (v := .ref f_read_row) (by rfl) C_read_row.g rfl) (pa_cons (pv 1) pa_nil)) (Xa.pe_callAny (E := fun σ => WE W σ) (Xa.ccons (Xa.cal0 C_read_line.G (hr.mono (by decide)) C_read_line.kp C_read_line.b) (Xa.ccons (Xa.calW C_read_lineA.G (hr.mono (by decide)) C_read_lineA.kp C_read_lineA.b tk) (Xa.ccons (Xa.calW C_read_lineB.G (hr.mono (by decide)) C_read_lineB.kp C_read_lineB.b tk) (Xa.ccons (Xa.calW C_read_lineC.G (hr.mono (by decide)) C_read_lineC.kp C_read_lineC.b tk) Xa.cnil)))) (pe_glob (v := .ref f_read_line) (by rfl) C_read_line.g rfl) (pa_cons (pv 1) pa_nil)))))) (fun a oe cls d pn hz hf => (pss_one (ps_ret (Xa.pe_callE (p := (a, oe)) (cls := cls) (d := d) W_which (L2H.RoomH.mono (Ld.roomX hr _) (by decide)) ⟨rfl, hf.choose, hf.choose_spec, hz.2.2 _ hf.choose_spec⟩ List.mem_cons_self hz (by rfl) w_g w_k w_b (pa_cons (pv 2) pa_nil))))))), fun x hp => ?_⟩)
  obtain ⟨k, d, v⟩ := x
  have hp : TxR k d v := hp
  show VSs K [.dt (.int k), .dt d, .no] _ _
  cases hp with
  | no hk hn =>
    obtain rfl | rfl : k = 0 ∨ k = 1 := by omega
    · refine ss_tryIfE true (fun ss => ?_) (fun e => ?_) (fun e => ?_)
      · walk_at "w"
        exact ⟨by decide, rfl⟩
      · refine ss_tryRef (by show 2 < 3; decide) (List.mem_cons_of_mem _ List.mem_cons_self) (fun ss => ?_)
        walk_at "w"
        exact ⟨d, 9, rfl, hn, w_eNoText, w_iNoText, rfl⟩
      · cases e
    · refine ss_tryIfE false (fun ss => ?_) (fun e => ?_) (fun e => ?_)
      · walk_at "w"
        exact ⟨by decide, rfl⟩
      · cases e
      · refine ss_tryRef (by show 2 < 3; decide) (List.mem_cons_of_mem _ List.mem_cons_self) (fun ss => ?_)
        walk_at "w"
        exact ⟨d, 9, rfl, hn, w_eNoText, w_iNoText, rfl⟩
  | rowB h =>
    rename_i x
    refine ss_tryIfE true (fun ss => ?_) (fun e => ?_) (fun e => ?_)
    · walk_at "w"
      exact ⟨by decide, rfl⟩
    · refine ss_tryRef (by show 2 < 3; decide) (List.mem_cons_of_mem _ (List.mem_cons_of_mem _ List.mem_cons_self)) (fun ss => ?_)
      walk_at "w"
      exact ⟨x, 9, rfl, h, w_eNoText, w_iNoText, rfl⟩
    · cases e
  | rowC h =>
    rename_i x
    refine ss_tryIfE true (fun ss => ?_) (fun e => ?_) (fun e => ?_)
    · walk_at "w"
      exact ⟨by decide, rfl⟩
    · refine ss_tryRef (by show 2 < 3; decide) (List.mem_cons_of_mem _ (List.mem_cons_of_mem _ (List.mem_cons_of_mem _ List.mem_cons_self))) (fun ss => ?_)
      walk_at "w"
      exact ⟨x, 9, rfl, h, w_eNoText, w_iNoText, rfl⟩
    · cases e
  | row h1 h2 h3 =>
    rename_i x
    refine ss_tryIfE true (fun ss => ?_) (fun e => ?_) (fun e => ?_)
    · walk_at "w"
      exact ⟨by decide, rfl⟩
    · refine ss_retD fun D ss => ?_
      refine vd_of (ve_callRef List.mem_cons_self ?_)
      walk_at "w"
      refine ⟨x, rfl, ⟨h1, h2, h3⟩, ?_⟩
      intro d ed
      subst ed
      walk_at "w"
    · cases e
  | lineB h =>
    rename_i x
    refine ss_tryIfE false (fun ss => ?_) (fun e => ?_) (fun e => ?_)
    · walk_at "w"
      exact ⟨by decide, rfl⟩
    · cases e
    · refine ss_tryRef (by show 2 < 3; decide) (List.mem_cons_of_mem _ (List.mem_cons_of_mem _ List.mem_cons_self)) (fun ss => ?_)
      walk_at "w"
      exact ⟨x, 9, rfl, h, w_eNoText, w_iNoText, rfl⟩
  | lineC h =>
    rename_i x
    refine ss_tryIfE false (fun ss => ?_) (fun e => ?_) (fun e => ?_)
    · walk_at "w"
      exact ⟨by decide, rfl⟩
    · cases e
    · refine ss_tryRef (by show 2 < 3; decide) (List.mem_cons_of_mem _ (List.mem_cons_of_mem _ (List.mem_cons_of_mem _ List.mem_cons_self))) (fun ss => ?_)
      walk_at "w"
      exact ⟨x, 9, rfl, h, w_eNoText, w_iNoText, rfl⟩
  | line h1 h2 h3 =>
    rename_i x
    refine ss_tryIfE false (fun ss => ?_) (fun e => ?_) (fun e => ?_)
    · walk_at "w"
      exact ⟨by decide, rfl⟩
    · cases e
    · refine ss_retD fun D ss => ?_
      refine vd_of (ve_callRef List.mem_cons_self ?_)
      walk_at "w"
      refine ⟨x, rfl, ⟨h1, h2, h3⟩, ?_⟩
      intro d ed
      subst ed
      walk_at "w"
theorem ok__law_cell_at {f : Addr} {fd : FuncData} (D : Df K mg "_law_cell_at" s__law_cell_at ["_law_script", "_law_k"] f fd) (m_len : mg "len" = none) (m_min : mg "min" = none) (m_range : mg "range" = none) : Cal P w K mg base 1 "_law_cell_at" ["_law_script", "_law_k"] (spG K (fun p : List Int × Nat => [.sc p.1, .dt (.int p.2)]) (fun p => p.1.length ≤ 63) fun _ d => ∃ i, d = .int i) f fd := by
  refine D.cal (ok_G D.F sc__law_cell_at (fun _ => rfl) (by decide) fun cdv A outer s H E hr => ⟨_, (pss_cons (ps_if (pt_cmpR op_lt (pv 1) (pe_callB cl_len (by rfl) m_len PySem.boot_len (pa_cons (pv 0) pa_nil)) (nomark _)) (pss_one (ps_ret (pe_ix ix_list (pv 0) (pv 1) (fun _ _ => rfl)))) pss_nil)
      (pss_cons (ps_if (pt_cmpR (op_eqD hr.units) (pv 0) (pe_lst pa_nil) (nomark _)) (pss_one (ps_ret pe_int)) pss_nil)
      (pss_cons (ps_set (i := 2) sc__law_cell_at.nd rfl (Or.inl rfl) (pe_ix ix_list (pv 0) (pe_op op_mod (pv 1) (pe_callB cl_len (by rfl) m_len PySem.boot_len (pa_cons (pv 0) pa_nil))) (fun _ _ => rfl)))
      (pss_cons (ps_for PassesOwn.never rfl (pi_range1 (by rfl) m_range (pa_cons (pe_callB (cl_min2 rfl) (by rfl) m_min (by decide +kernel) (pa_cons (pe_op op_fdiv (pv 1) (pe_callB cl_len (by rfl) m_len PySem.boot_len (pa_cons (pv 0) pa_nil))) (pa_cons pe_int pa_nil))) pa_nil)) (pg_name (i := 3) sc__law_cell_at.nd rfl (by first | exact Or.inl rfl | exact Or.inr rfl)) (pss_one (ps_set (i := 2) sc__law_cell_at.nd rfl (Or.inl rfl) (pe_op op_fdiv (pv 2) pe_int))))
      (pss_one (ps_ret (pe_op op_add (pe_op op_add (pe_op op_mul (pe_ix ix_list (pv 0) (pe_op op_mod (pv 1) (pe_callB cl_len (by rfl) m_len PySem.boot_len (pa_cons (pv 0) pa_nil))) (fun _ _ => rfl)) pe_int) (pv 1)) (pe_op op_mul (pv 2) pe_int)))))))), fun x hp => ?_⟩)
  obtain ⟨ns, k⟩ := x
  dsimp only at hp
  walk_at "s"
  walk_at "w"
  · have h := of_decide_eq_true ‹decide ((k : Int) < (ns.length : Int)) = true›
    obtain ⟨x, hx, _⟩ := atI_in (xs := ns) (i := (k : Int)) (by omega) h
    refine r2_ixS hx ?_
    walk_at "w"
    exact ⟨_, rfl⟩
  refine r2_eqSL (ys := []) rd_fr ?_
  walk_at "w"
  · exact ⟨_, rfl⟩
  have hl : 0 < ns.length := List.length_pos_iff.mpr (of_decide_eq_false ‹decide (ns = []) = false›)
  have hm : ∃ x, atI ns ((k : Int) % (ns.length : Int)) = some x ∧ x ∈ ns := atI_in (Int.emod_nonneg _ (by omega)) (Int.emod_lt_of_pos _ (by omega))
  obtain ⟨y, hy, _⟩ := hm
  walk_at "w"
  refine r2_ixS hy ?_
  walk_at "w"
  refine ss_for (fun i Γ => ∃ a c, Γ = [.sc ns, .dt (.int k), .dt (.int a), c]) fun ss => ?_
  walk_at "w"
  have hq : 0 ≤ (k : Int) / (ns.length : Int) := Int.ediv_nonneg (by omega) (by omega)
  refine ⟨by omega, by omega, ⟨_, _, rfl⟩, fun i d Γ2 hd ⟨a, c, ec⟩ => ?_, fun Γ2 ⟨a, c, ec⟩ => ?_⟩
  · subst ec
    have hi : i < (rngD 0 (min ((k : Int) / (ns.length : Int)) 60)).length := (List.getElem?_eq_some_iff.mp hd).1
    rw [rngD_len] at hi
    rw [rngD_at hi] at hd
    cases hd
    walk_at "w"
    walk_at "s"
    exact ⟨_, _, rfl⟩
  · subst ec
    walk_at "w"
    refine r2_ixS hy ?_
    walk_at "w"
    exact ⟨_, rfl⟩
theorem ok__law_mixed {f : Addr} {fd : FuncData} (D : Df K mg "_law_mixed" s__law_mixed ["_law_script", "_law_k", "_law_bound"] f fd) {f__law_cell_at : Addr} {d__law_cell_at : FuncData} (C__law_cell_at : Cal P w K mg base 1 "_law_cell_at" ["_law_script", "_law_k"] (spG K (fun p : List Int × Nat => [.sc p.1, .dt (.int p.2)]) (fun p => p.1.length ≤ 63) fun _ d => ∃ i, d = .int i) f__law_cell_at d__law_cell_at) : Cal P w K mg base 2 "_law_mixed" ["_law_script", "_law_k", "_law_bound"] (spG K (fun p : List Int × Nat × Nat => [.sc p.1, .dt (.int p.2.1), .dt (.int p.2.2)]) (fun p => p.1.length ≤ 63 ∧ 0 < p.2.2) fun p d => ∃ i : Nat, d = .int i ∧ i < p.2.2) f fd := by
  refine D.cal (ok_G D.F sc__law_mixed (fun _ => rfl) (by decide) fun cdv A outer s H E hr => ⟨_, (pss_cons (ps_set (i := 3) sc__law_mixed.nd rfl (Or.inl rfl) (pe_op op_mod (pe_op op_add (pe_op op_add (pe_op op_mul (pe_call C__law_cell_at.G (hr.mono (by decide)) (by rfl) C__law_cell_at.g C__law_cell_at.kp C__law_cell_at.b .nil pass0 (pa_cons (pv 0) (pa_cons (pv 1) pa_nil))) pe_int) (pe_op op_mul pe_int (pv 1))) pe_int) pe_int))
      (pss_one (ps_ret (pe_op op_mod (pe_op op_mod (pe_op op_mod (pe_op op_pow (pv 3) pe_int) pe_int) pe_int) (pv 2))))), fun x hp => ?_⟩)
  obtain ⟨ns, k, b⟩ := x
  dsimp only at hp
  have hb := hp.2
  walk_at "s"
  walk_at "w"
  refine ⟨(ns, k), rfl, hp.1, fun d ⟨i, e⟩ => ?_⟩
  subst e
  walk_at "w"
  
  have h1 := Int.emod_nonneg (((i * 1103515245 + 7919 * (k : Int) + 12345) % 2147483647) ^ (5 : Int).toNat % 2147483647 % 999983) (show (b : Int) ≠ 0 by omega)
  have h2 := Int.emod_lt_of_pos (((i * 1103515245 + 7919 * (k : Int) + 12345) % 2147483647) ^ (5 : Int).toNat % 2147483647 % 999983) (show (0 : Int) < b by omega)
  obtain ⟨n, hn⟩ := Int.eq_ofNat_of_zero_le h1
  exact ⟨n, by rw [← hn], by omega⟩
theorem ok__law_draw {f : Addr} {fd : FuncData} (D : Df K mg "_law_draw" s__law_draw ["_law_script", "_law_town", "_law_bound"] f fd) {f__law_mixed : Addr} {d__law_mixed : FuncData} (C__law_mixed : Cal P w K mg base 2 "_law_mixed" ["_law_script", "_law_k", "_law_bound"] (spG K (fun p : List Int × Nat × Nat => [.sc p.1, .dt (.int p.2.1), .dt (.int p.2.2)]) (fun p => p.1.length ≤ 63 ∧ 0 < p.2.2) fun p d => ∃ i : Nat, d = .int i ∧ i < p.2.2) f__law_mixed d__law_mixed) (m_len : mg "len" = none) : Cal P w K mg base 3 "_law_draw" ["_law_script", "_law_town", "_law_bound"] (spW K (fun p : List Int × Nat => (.sc p.1, [.dt (.int p.2)])) (fun p zs => p.1.length ≤ 63 ∧ 0 < p.2 ∧ zs.length ≤ 50000) fun p zs zs1 d => zs1.length = zs.length + 1 ∧ ∃ i : Nat, d = .int i ∧ i < p.2) f fd := by
  refine D.cal (ok_W D.F sc__law_draw (fun _ => rfl) (by decide) fun cdv A outer s H E hr => ⟨_, (pss_cons (ps_expr (pe_bm PySem.F.plainAttrs_list PySem.F.slot_list_append PySem.F.type_list_append mt_append (pv 1) (pa_cons pe_int pa_nil)))
      (pss_one (ps_ret (pe_call C__law_mixed.G (hr.mono (by decide)) (by rfl) C__law_mixed.g C__law_mixed.kp C__law_mixed.b .nil pass0 (pa_cons (pv 0) (pa_cons (pe_callB cl_len (by rfl) m_len PySem.boot_len (pa_cons (pv 1) pa_nil)) (pa_cons (pv 2) pa_nil))))))), fun x zs hp => ?_⟩)
  obtain ⟨ns, b⟩ := x
  dsimp only at hp
  walk_at "s"
  walk_at "w"
  refine ⟨_, _, rfl, isl_ln rfl, gl_lt (by omega), ?_⟩
  walk_at "s"
  walk_at "w"
  refine ⟨(ns, (zs ++ [PyData.int 0]).length, b), rfl, ⟨hp.1, hp.2.1⟩, fun d h => ?_⟩
  walk_at "w"
  exact ⟨_, rfl, by simp, h⟩
theorem ok__law_pick {f : Addr} {fd : FuncData} (D : Df K mg "_law_pick" s__law_pick ["_law_script", "_law_town", "_law_some"] f fd) {f__law_draw : Addr} {d__law_draw : FuncData} (C__law_draw : Cal P w K mg base 3 "_law_draw" ["_law_script", "_law_town", "_law_bound"] (spW K (fun p : List Int × Nat => (.sc p.1, [.dt (.int p.2)])) (fun p zs => p.1.length ≤ 63 ∧ 0 < p.2 ∧ zs.length ≤ 50000) fun p zs zs1 d => zs1.length = zs.length + 1 ∧ ∃ i : Nat, d = .int i ∧ i < p.2) f__law_draw d__law_draw) (m_len : mg "len" = none) : Cal P w K mg base 4 "_law_pick" ["_law_script", "_law_town", "_law_some"] (spW K (fun p : List Int × List Dat => (.sc p.1, [.dt (.list p.2)])) (fun p zs => p.1.length ≤ 63 ∧ 0 < p.2.length ∧ p.2.length ≤ 100 ∧ zs.length ≤ 50000) fun p zs zs1 d => zs1.length = zs.length + 1 ∧ d ∈ p.2) f fd := by
  refine D.cal (ok_W D.F sc__law_pick (fun _ => rfl) (by decide) fun cdv A outer s H E hr => ⟨_, (pss_one (ps_ret (pe_ix ix_list (pv 2) (pe_call C__law_draw.G (hr.mono (by decide)) (by rfl) C__law_draw.g C__law_draw.kp C__law_draw.b .nil pass0 (pa_cons (pv 0) (pa_cons (pv 1) (pa_cons (pe_callB cl_len (by rfl) m_len PySem.boot_len (pa_cons (pv 2) pa_nil)) pa_nil)))) (fun _ _ => rfl)))), fun x zs hp => ?_⟩)
  obtain ⟨ns, xs⟩ := x
  dsimp only at hp
  walk_at "s"
  walk_at "w"
  refine ⟨(ns, xs.length), zs, isl_ln rfl, by simp, ⟨hp.1, hp.2.1, hp.2.2.2⟩, fun zs1 d ⟨h1, n, h2, h3⟩ => ?_⟩
  subst h2
  walk_at "s"
  obtain ⟨x, hx, hm⟩ := atI_in (xs := xs) (i := (n : Int)) (by omega) (by dsimp only at h3; omega)
  refine r2_ixL ⟨_, .inl ⟨rfl, rfl⟩⟩ hx ?_
  walk_at "w"
  exact ⟨_, rfl, h1, hm⟩
theorem ok__law_some_plain {f : Addr} {fd : FuncData} (D : Df K mg "_law_some_plain" s__law_some_plain ["_law_script", "_law_town", "_law_most_there"] f fd) {f__law_draw : Addr} {d__law_draw : FuncData} (C__law_draw : Cal P w K mg base 3 "_law_draw" ["_law_script", "_law_town", "_law_bound"] (spW K (fun p : List Int × Nat => (.sc p.1, [.dt (.int p.2)])) (fun p zs => p.1.length ≤ 63 ∧ 0 < p.2 ∧ zs.length ≤ 50000) fun p zs zs1 d => zs1.length = zs.length + 1 ∧ ∃ i : Nat, d = .int i ∧ i < p.2) f__law_draw d__law_draw) {f__law_pick : Addr} {d__law_pick : FuncData} (C__law_pick : Cal P w K mg base 4 "_law_pick" ["_law_script", "_law_town", "_law_some"] (spW K (fun p : List Int × List Dat => (.sc p.1, [.dt (.list p.2)])) (fun p zs => p.1.length ≤ 63 ∧ 0 < p.2.length ∧ p.2.length ≤ 100 ∧ zs.length ≤ 50000) fun p zs zs1 d => zs1.length = zs.length + 1 ∧ d ∈ p.2) f__law_pick d__law_pick) (m_len : mg "len" = none) (m_min : mg "min" = none) (m_range : mg "range" = none) (m_tuple : mg "tuple" = none) : Cal P w K mg base 5 "_law_some_plain" ["_law_script", "_law_town", "_law_most_there"] (spW K (fun p : List Int × Nat => (.sc p.1, [.dt (.int p.2)])) (fun p zs => p.1.length ≤ 63 ∧ p.2 ≤ 40 ∧ zs.length ≤ 20000) fun p zs zs1 d => zs1.length ≤ zs.length + 200 ∧ ∃ ns : List Int, d = .tuple (iL ns) ∧ ns.Nodup ∧ ns.length ≤ p.2 ∧ ∀ y ∈ ns, y.natAbs < 200) f fd := by
  refine D.cal (ok_W D.F sc__law_some_plain (fun _ => rfl) (by decide) fun cdv A outer s H E hr => ⟨_, (pss_cons (ps_par3 (i := 3) (j := 4) (l := 5) rfl sc__law_some_plain.nd rfl rfl rfl (by decide) (by decide) (by decide) rfl rfl rfl (pa_cons (pe_call C__law_draw.G (hr.mono (by decide)) (by rfl) C__law_draw.g C__law_draw.kp C__law_draw.b .nil pass0 (pa_cons (pv 0) (pa_cons (pv 1) (pa_cons (pe_op op_add (pv 2) pe_int) pa_nil)))) (pa_cons (pe_lst pa_nil) (pa_cons (pe_op op_sub (pe_call C__law_draw.G (hr.mono (by decide)) (by rfl) C__law_draw.g C__law_draw.kp C__law_draw.b .nil pass0 (pa_cons (pv 0) (pa_cons (pv 1) (pa_cons pe_int pa_nil)))) pe_int) pa_nil))) (by rfl))
      (pss_cons (ps_for PassesOwn.never rfl (pi_range1 (by rfl) m_range (pa_cons (pv 3) pa_nil)) (pg_name (i := 6) sc__law_some_plain.nd rfl (by first | exact Or.inl rfl | exact Or.inr rfl)) (pss_cons (ps_set (i := 5) sc__law_some_plain.nd rfl (Or.inl rfl) (pe_op op_add (pe_op op_add (pv 5) pe_int) (pe_call C__law_draw.G (hr.mono (by decide)) (by rfl) C__law_draw.g C__law_draw.kp C__law_draw.b .nil pass0 (pa_cons (pv 0) (pa_cons (pv 1) (pa_cons pe_int pa_nil))))))
      (pss_cons (ps_set (i := 7) sc__law_some_plain.nd rfl (Or.inl rfl) (pe_call C__law_pick.G (hr.mono (by decide)) (by rfl) C__law_pick.g C__law_pick.kp C__law_pick.b .nil pass0 (pa_cons (pv 0) (pa_cons (pv 1) (pa_cons (pe_lst (pa_cons pe_int (pa_cons pe_int (pa_cons pe_int pa_nil)))) pa_nil)))))
      (pss_one (ps_expr (pe_bm PySem.F.plainAttrs_list PySem.F.slot_list_insert PySem.F.type_list_insert cm_insert (pv 4) (pa_cons (pe_op op_sub (pe_callB cl_len (by rfl) m_len PySem.boot_len (pa_cons (pv 4) pa_nil)) (pe_call C__law_draw.G (hr.mono (by decide)) (by rfl) C__law_draw.g C__law_draw.kp C__law_draw.b .nil pass0 (pa_cons (pv 0) (pa_cons (pv 1) (pa_cons (pe_callB (cl_min2 rfl) (by rfl) m_min (by decide +kernel) (pa_cons (pe_op op_add (pe_callB cl_len (by rfl) m_len PySem.boot_len (pa_cons (pv 4) pa_nil)) pe_int) (pa_cons (pv 7) pa_nil))) pa_nil))))) (pa_cons (pv 5) pa_nil))))))))
      (pss_one (ps_ret (pe_callTy cl_tupleF (by rfl) m_tuple (by decide +kernel) (pa_cons (pv 4) pa_nil)))))), fun x zs hp => ?_⟩)
  obtain ⟨ns, b⟩ := x
  dsimp only at hp
  walk_at "s"
  walk_at "w"
  refine ⟨(ns, b + 1), zs, isl_ln rfl, rfl, ⟨hp.1, by omega, by omega⟩, fun zs1 d ⟨h1, m, h2, h3⟩ => ?_⟩
  subst h2
  walk_at "s"
  walk_at "w"
  refine ⟨(ns, 21), zs1, isl_ln rfl, rfl, ⟨hp.1, by omega, by omega⟩, fun zs2 d ⟨h4, n, h5, h6⟩ => ?_⟩
  subst h5
  walk_at "s"
  walk_at "w"
  refine ⟨_, _, _, rfl, rfl, rfl, ?_⟩
  walk_at "s"
  walk_at "w"
  dsimp only at h3
  refine ss_for (fun i Γ => ∃ (zs3 : List Dat) (made : List Int) (u : Int) (e f : Cell), Γ = [.sc ns, .ln zs3, .dt (.int b), .dt (.int m), .ow (iL made), .dt (.int u), e, f] ∧ made.length = i ∧ made.Nodup ∧ (∀ x ∈ made, x ≤ u) ∧ zs3.length = zs.length + 2 + 3 * i ∧ -10 ≤ u ∧ u ≤ 10 + 3 * i ∧ ∀ y ∈ made, -10 ≤ y) fun ss => ?_
  walk_at "w"
  refine ⟨by omega, by omega, ⟨zs2, [], _, _, _, rfl, rfl, List.nodup_nil, by simp, by omega, by omega, by dsimp only at h6; omega, by simp⟩, fun i d Γ2 hd ⟨zs3, made, u, e, f, ec, g1, g2, g3, g4, g5, g6, g7⟩ => ?_, fun Γ2 ⟨zs3, made, u, e, f, ec, g1, g2, g3, g4, g5, g6, g7⟩ => ?_⟩
  · subst ec
    obtain ⟨hi, rfl⟩ := rng0 hd
    walk_at "w"
    walk_at "s"
    walk_at "w"
    refine ⟨(ns, 3), zs3, isl_ln rfl, rfl, ⟨hp.1, by omega, by omega⟩, fun zs4 d ⟨k1, r, k2, k3⟩ => ?_⟩
    subst k2
    walk_at "s"
    walk_at "w"
    walk_at "s"
    walk_at "w"
    refine ⟨(ns, iL [2, 4, 24]), zs4, isl_ln rfl, rfl, ⟨hp.1, by simp, by simp, by omega⟩, fun zs5 d ⟨k4, k6⟩ => ?_⟩
    obtain ⟨far, k5, rfl⟩ := List.mem_map.mp k6
    walk_at "s"
    walk_at "w"
    walk_at "s"
    walk_at "w"
    have hf : 2 ≤ far ∧ far ≤ 24 := by
      simp only [List.mem_cons, List.not_mem_nil, or_false] at k5
      omega
    refine ⟨(ns, (min ((made.length : Int) + 1) far).toNat), zs5, isl_ln rfl, ?_, ⟨hp.1, by dsimp only; omega, by omega⟩, fun zs6 d ⟨k7, q, k8, k9⟩ => ?_⟩
    · dsimp only
      rw [Int.toNat_of_nonneg (by omega), List.length_map]
    subst k8
    walk_at "w"
    dsimp only at k9
    have hl : ((iL made).length : Int) - (q : Int) = ((made.length - q : Nat) : Int) := by rw [List.length_map]; omega
    refine ⟨_, _, _, rfl, rfl, isl_ow rfl, gl_lt (by rw [List.length_map]; omega), by omega, by omega, ?_⟩
    rw [hl, Int.toNat_natCast, iL_ins]
    refine ⟨zs6, insA made (made.length - q) (u + 1 + r), u + 1 + r, _, _, rfl, by rw [insA_len]; omega, ?_, fun y hy => ?_, by omega, by omega, by dsimp only at k3; omega, fun y hy => ?_⟩
    · refine (insA_perm _ _ _).nodup_iff.mpr (List.nodup_cons.mpr ⟨fun z => ?_, g2⟩)
      have := g3 _ z
      omega
    · rcases List.mem_cons.mp ((insA_perm _ _ _).mem_iff.mp hy) with rfl | hy
      · exact Int.le_refl _
      · have := g3 _ hy
        omega
    · rcases List.mem_cons.mp ((insA_perm _ _ _).mem_iff.mp hy) with rfl | hy
      · omega
      · exact g7 _ hy
  · subst ec
    rw [rng0_len] at g1 g4 g6
    walk_at "w"
    exact ⟨_, rfl, by omega, made, rfl, g2, by omega, fun y hy => by have := g3 y hy; have := g7 y hy; omega⟩
theorem ok__law_some_row {f : Addr} {fd : FuncData} (D : Df K mg "_law_some_row" s__law_some_row ["_law_script", "_law_town", "_law_most_there"] f fd) {f__law_draw : Addr} {d__law_draw : FuncData} (C__law_draw : Cal P w K mg base 3 "_law_draw" ["_law_script", "_law_town", "_law_bound"] (spW K (fun p : List Int × Nat => (.sc p.1, [.dt (.int p.2)])) (fun p zs => p.1.length ≤ 63 ∧ 0 < p.2 ∧ zs.length ≤ 50000) fun p zs zs1 d => zs1.length = zs.length + 1 ∧ ∃ i : Nat, d = .int i ∧ i < p.2) f__law_draw d__law_draw) {f__law_some_plain : Addr} {d__law_some_plain : FuncData} (C__law_some_plain : Cal P w K mg base 5 "_law_some_plain" ["_law_script", "_law_town", "_law_most_there"] (spW K (fun p : List Int × Nat => (.sc p.1, [.dt (.int p.2)])) (fun p zs => p.1.length ≤ 63 ∧ p.2 ≤ 40 ∧ zs.length ≤ 20000) fun p zs zs1 d => zs1.length ≤ zs.length + 200 ∧ ∃ ns : List Int, d = .tuple (iL ns) ∧ ns.Nodup ∧ ns.length ≤ p.2 ∧ ∀ y ∈ ns, y.natAbs < 200) f__law_some_plain d__law_some_plain) (m_len : mg "len" = none) (m_list : mg "list" = none) (m_range : mg "range" = none) (m_tuple : mg "tuple" = none) : Cal P w K mg base 6 "_law_some_row" ["_law_script", "_law_town", "_law_most_there"] (spW K (fun p : List Int × Nat => (.sc p.1, [.dt (.int p.2)])) (fun p zs => p.1.length ≤ 63 ∧ p.2 ≤ 40 ∧ zs.length ≤ 20000) fun p zs zs1 d => zs1.length ≤ zs.length + 300 ∧ ∃ r : List (Option Int), d = .tuple (oL r) ∧ (nums r).Nodup ∧ r.length ≤ p.2 + 3 ∧ (nums r).length ≤ p.2 ∧ ∀ y ∈ nums r, y.natAbs < 200) f fd := by
  refine D.cal (ok_W D.F sc__law_some_row (fun _ => rfl) (by decide) fun cdv A outer s H E hr => ⟨_, (pss_cons (ps_set (i := 3) sc__law_some_row.nd rfl (Or.inl rfl) (pe_callTy cl_list (by rfl) m_list (by decide +kernel) (pa_cons (pe_call C__law_some_plain.G (hr.mono (by decide)) (by rfl) C__law_some_plain.g C__law_some_plain.kp C__law_some_plain.b .nil pass0 (pa_cons (pv 0) (pa_cons (pv 1) (pa_cons (pv 2) pa_nil)))) pa_nil)))
      (pss_cons (ps_for PassesOwn.never rfl (pi_range1 (by rfl) m_range (pa_cons (pe_call C__law_draw.G (hr.mono (by decide)) (by rfl) C__law_draw.g C__law_draw.kp C__law_draw.b .nil pass0 (pa_cons (pv 0) (pa_cons (pv 1) (pa_cons pe_int pa_nil)))) pa_nil)) (pg_name (i := 4) sc__law_some_row.nd rfl (by first | exact Or.inl rfl | exact Or.inr rfl)) (pss_one (ps_expr (pe_bm PySem.F.plainAttrs_list PySem.F.slot_list_insert PySem.F.type_list_insert cm_insert (pv 3) (pa_cons (pe_call C__law_draw.G (hr.mono (by decide)) (by rfl) C__law_draw.g C__law_draw.kp C__law_draw.b .nil pass0 (pa_cons (pv 0) (pa_cons (pv 1) (pa_cons (pe_op op_add (pe_callB cl_len (by rfl) m_len PySem.boot_len (pa_cons (pv 3) pa_nil)) pe_int) pa_nil)))) (pa_cons pe_non pa_nil))))))
      (pss_one (ps_ret (pe_callTy cl_tupleF (by rfl) m_tuple (by decide +kernel) (pa_cons (pv 3) pa_nil)))))), fun x zs hp => ?_⟩)
  obtain ⟨ns, b⟩ := x
  dsimp only at hp
  walk_at "s"
  walk_at "w"
  refine ⟨(ns, b), zs, isl_ln rfl, rfl, hp, fun zs1 d ⟨h1, xs, h2, h3, h4, h4v⟩ => ?_⟩
  subst h2
  walk_at "s"
  walk_at "w"
  walk_at "s"
  dsimp only at h4
  refine ss_for (fun i Γ => ∃ (zs3 : List Dat) (made : List (Option Int)) (e : Cell), Γ = [.sc ns, .ln zs3, .dt (.int b), .ow (oL made), e] ∧ made.length = xs.length + i ∧ nums made = xs ∧ zs3.length = zs1.length + 1 + i) fun ss => ?_
  walk_at "w"
  refine ⟨(ns, 4), zs1, isl_ln rfl, rfl, ⟨hp.1, by omega, by omega⟩, fun zs2 d ⟨h5, m, h6, h7⟩ => ?_⟩
  subst h6
  walk_at "s"
  walk_at "w"
  dsimp only at h7
  refine ⟨by omega, by omega, ⟨zs2, xs.map some, _, by rw [oL_some], by simp, nums_some _, by omega⟩, fun i d Γ2 hd ⟨zs3, made, e, ec, g1, g2, g3⟩ => ?_, fun Γ2 ⟨zs3, made, e, ec, g1, g2, g3⟩ => ?_⟩
  · subst ec
    obtain ⟨hi, rfl⟩ := rng0 hd
    walk_at "w"
    walk_at "s"
    walk_at "w"
    refine ⟨(ns, made.length + 1), zs3, isl_ln rfl, by simp, ⟨hp.1, by dsimp only; omega, by omega⟩, fun zs4 d ⟨k1, q, k2, k3⟩ => ?_⟩
    subst k2
    walk_at "w"
    dsimp only at k3
    refine ⟨_, _, _, rfl, rfl, isl_ow rfl, gl_lt (by rw [List.length_map]; omega), by omega, by omega, ?_⟩
    rw [Int.toNat_natCast, show PyData.none = oD none from rfl, oL_ins]
    exact ⟨zs4, insA made q none, _, rfl, by rw [insA_len]; omega, by rw [nums_ins]; exact g2, by omega⟩
  · subst ec
    rw [rng0_len] at g1 g3
    walk_at "w"
    exact ⟨_, rfl, by omega, made, rfl, by rw [g2]; exact h3, by omega, by rw [g2]; exact h4, by rw [g2]; exact h4v⟩
theorem ok__law_some_shelf {f : Addr} {fd : FuncData} (D : Df K mg "_law_some_shelf" s__law_some_shelf ["_law_script", "_law_town"] f fd) {f__law_draw : Addr} {d__law_draw : FuncData} (C__law_draw : Cal P w K mg base 3 "_law_draw" ["_law_script", "_law_town", "_law_bound"] (spW K (fun p : List Int × Nat => (.sc p.1, [.dt (.int p.2)])) (fun p zs => p.1.length ≤ 63 ∧ 0 < p.2 ∧ zs.length ≤ 50000) fun p zs zs1 d => zs1.length = zs.length + 1 ∧ ∃ i : Nat, d = .int i ∧ i < p.2) f__law_draw d__law_draw) {f__law_pick : Addr} {d__law_pick : FuncData} (C__law_pick : Cal P w K mg base 4 "_law_pick" ["_law_script", "_law_town", "_law_some"] (spW K (fun p : List Int × List Dat => (.sc p.1, [.dt (.list p.2)])) (fun p zs => p.1.length ≤ 63 ∧ 0 < p.2.length ∧ p.2.length ≤ 100 ∧ zs.length ≤ 50000) fun p zs zs1 d => zs1.length = zs.length + 1 ∧ d ∈ p.2) f__law_pick d__law_pick) : Cal P w K mg base 5 "_law_some_shelf" ["_law_script", "_law_town"] (spW K (fun ns : List Int => (.sc ns, [])) (fun ns zs => ns.length ≤ 63 ∧ zs.length ≤ 20000) fun _ zs zs1 d => zs1.length = zs.length + 2 ∧ ∃ (l : Bool) (n : Nat), d = .tuple [.str (wd l), .int n] ∧ n < 5) f fd := by
  refine D.cal (ok_W D.F sc__law_some_shelf (fun _ => rfl) (by decide) fun cdv A outer s H E hr => ⟨_, (pss_one (ps_ret (pe_tupF (pa_cons (pe_call C__law_pick.G (hr.mono (by decide)) (by rfl) C__law_pick.g C__law_pick.kp C__law_pick.b .nil pass0 (pa_cons (pv 0) (pa_cons (pv 1) (pa_cons (pe_lst (pa_cons pe_str (pa_cons pe_str (pa_cons pe_str pa_nil)))) pa_nil)))) (pa_cons (pe_call C__law_draw.G (hr.mono (by decide)) (by rfl) C__law_draw.g C__law_draw.kp C__law_draw.b .nil pass0 (pa_cons (pv 0) (pa_cons (pv 1) (pa_cons pe_int pa_nil)))) pa_nil))))), fun x zs hp => ?_⟩)
  walk_at "s"
  walk_at "w"
  refine ⟨(x, [.str "light", .str "light", .str "heavy"]), zs, isl_ln rfl, rfl, ⟨hp.1, by simp, by simp, by omega⟩, fun zs1 d ⟨h1, h2⟩ => ?_⟩
  obtain ⟨l, rfl⟩ : ∃ l, d = .str (wd l) := by
    simp only [List.mem_cons, List.not_mem_nil, or_false] at h2
    rcases h2 with h2 | h2 | h2
    · exact ⟨true, h2⟩
    · exact ⟨true, h2⟩
    · exact ⟨false, h2⟩
  walk_at "s"
  walk_at "w"
  refine ⟨(x, 5), zs1, isl_ln rfl, rfl, ⟨hp.1, by simp, by omega⟩, fun zs2 d ⟨h3, n, h4, h5⟩ => ?_⟩
  subst h4
  walk_at "s"
  walk_at "w"
  exact ⟨_, rfl, by omega, l, n, rfl, h5⟩
theorem ok_law {f : Addr} {fd : FuncData} (D : Df K mg "law" s_law ["_law_script"] f fd) {f__law_ask : Addr} {d__law_ask : FuncData} (C__law_ask : Cal P w K mg base 7 "_law_ask" ["_law_what", "_law_text"] (spF K (fun p : Nat × Dat × Dat => [.dt (.int p.1), .dt p.2.1]) (fun p => TxR p.1 p.2.1 p.2.2) fun p => p.2.2) f__law_ask d__law_ask) {f__law_draw : Addr} {d__law_draw : FuncData} (C__law_draw : Cal P w K mg base 3 "_law_draw" ["_law_script", "_law_town", "_law_bound"] (spW K (fun p : List Int × Nat => (.sc p.1, [.dt (.int p.2)])) (fun p zs => p.1.length ≤ 63 ∧ 0 < p.2 ∧ zs.length ≤ 50000) fun p zs zs1 d => zs1.length = zs.length + 1 ∧ ∃ i : Nat, d = .int i ∧ i < p.2) f__law_draw d__law_draw) {f__law_parse : Addr} {d__law_parse : FuncData} (C__law_parse : Cal P w K mg base 2 "_law_parse" ["_law_what", "_law_text"] (spF K (fun p : Nat × Str => [.dt (.int p.1), .dt (.str p.2)]) (fun p => p.1 ≤ 1 ∧ TxOk p.2) fun p => if p.1 = 0 then parR p.2 else parL p.2) f__law_parse d__law_parse) {f__law_pick : Addr} {d__law_pick : FuncData} (C__law_pick : Cal P w K mg base 4 "_law_pick" ["_law_script", "_law_town", "_law_some"] (spW K (fun p : List Int × List Dat => (.sc p.1, [.dt (.list p.2)])) (fun p zs => p.1.length ≤ 63 ∧ 0 < p.2.length ∧ p.2.length ≤ 100 ∧ zs.length ≤ 50000) fun p zs zs1 d => zs1.length = zs.length + 1 ∧ d ∈ p.2) f__law_pick d__law_pick) {f__law_some_row : Addr} {d__law_some_row : FuncData} (C__law_some_row : Cal P w K mg base 6 "_law_some_row" ["_law_script", "_law_town", "_law_most_there"] (spW K (fun p : List Int × Nat => (.sc p.1, [.dt (.int p.2)])) (fun p zs => p.1.length ≤ 63 ∧ p.2 ≤ 40 ∧ zs.length ≤ 20000) fun p zs zs1 d => zs1.length ≤ zs.length + 300 ∧ ∃ r : List (Option Int), d = .tuple (oL r) ∧ (nums r).Nodup ∧ r.length ≤ p.2 + 3 ∧ (nums r).length ≤ p.2 ∧ ∀ y ∈ nums r, y.natAbs < 200) f__law_some_row d__law_some_row) {f__law_some_shelf : Addr} {d__law_some_shelf : FuncData} (C__law_some_shelf : Cal P w K mg base 5 "_law_some_shelf" ["_law_script", "_law_town"] (spW K (fun ns : List Int => (.sc ns, [])) (fun ns zs => ns.length ≤ 63 ∧ zs.length ≤ 20000) fun _ zs zs1 d => zs1.length = zs.length + 2 ∧ ∃ (l : Bool) (n : Nat), d = .tuple [.str (wd l), .int n] ∧ n < 5) f__law_some_shelf d__law_some_shelf) {f_is_lineO : Addr} {d_is_lineO : FuncData} (C_is_lineO : Cal P w K mg base 5 "is_line" ["thing"] (spF K (fun d : Dat => [.dt d]) (fun d => okDD d = true) fun d => .bool (isLineD d)) f_is_lineO d_is_lineO) {f_is_rowO : Addr} {d_is_rowO : FuncData} (C_is_rowO : Cal P w K mg base 2 "is_row" ["thing"] (spF K (fun d : Dat => [.dt d]) (fun d => okD d = true) fun d => .bool (isRowD d)) f_is_rowO d_is_rowO) {f_line_text : Addr} {d_line_text : FuncData} (C_line_text : Cal P w K mg base 7 "line_text" ["line"] (spF K (fun ln : Ln => [.dt (.tuple (ln.map sD))]) (fun ln => ln.length ≤ 8 ∧ ∀ p ∈ ln, p.2 ≤ 9) fun ln => .str (lineT ln)) f_line_text d_line_text) {f_row_text : Addr} {d_row_text : FuncData} (C_row_text : Cal P w K mg base 4 "row_text" ["row"] (spF K (fun r : List (Option Int) => [.dt (.tuple (oL r))]) (fun r => RowOk r ∧ ∀ n, some n ∈ r → n.natAbs < 200) fun r => .str (rowT r)) f_row_text d_row_text) (m_enumerate : mg "enumerate" = none) (m_len : mg "len" = none) (m_range : mg "range" = none) (m_str : mg "str" = none) (m_tuple : mg "tuple" = none) : Cal P w K mg base 8 "law" ["_law_script"] (spF K (fun ns : List Int => [.sc ns]) (fun ns => ns.length ≤ 63) fun _ => .bool true) f fd := by
  refine D.cal (ok_G D.F sc_law (fun _ => rfl) (by decide) fun cdv A outer s H E hr => ⟨_, (pss_cons (ps_set (i := 1) sc_law.nd rfl (Or.inr rfl) (pe_lst pa_nil))
      (pss_cons (ps_set (i := 2) sc_law.nd rfl (Or.inl rfl) (pe_call C__law_some_row.G (hr.mono (by decide)) (by rfl) C__law_some_row.g C__law_some_row.kp C__law_some_row.b .nil pass0 (pa_cons (pv 0) (pa_cons (pv 1) (pa_cons pe_int pa_nil)))))
      (pss_cons (ps_set (i := 4) sc_law.nd rfl (Or.inl rfl) (pe_callTy cl_tupleF (by rfl) m_tuple (by decide +kernel) (pa_cons (pe_lc (own := [("_law_again", 3)]) rfl sc_law.nd (pi_range1 (by rfl) m_range (pa_cons (pe_call C__law_draw.G (hr.mono (by decide)) (by rfl) C__law_draw.g C__law_draw.kp C__law_draw.b .nil pass0 (pa_cons (pv 0) (pa_cons (pv 1) (pa_cons pe_int pa_nil)))) pa_nil)) (blkOk_by (own := [("_law_again", 3)]) (N := ["_law_script", "_law_town", "_law_row", "_law_again", "_law_line", "_law_texts", "_law_what", "_law_text", "_law_at", "_law_sign", "_law_odd", "_law_made", "_law_whole", "_law_bad_one", "_law_one", "_law_a", "_law_b"]) (sc := (defScope s_law)) (by decide +kernel)) (fun _ _ _ _ _ => (pg_name (i := 3) sc_law.nd rfl (by first | exact Or.inl rfl | exact Or.inr rfl))) (fun _ _ _ _ _ => pts_nil) (fun _ _ _ _ _ => (pe_call C__law_some_shelf.G (hr.mono (by decide)) (by rfl) C__law_some_shelf.g C__law_some_shelf.kp C__law_some_shelf.b .nil pass0 (pa_cons (pv 0) (pa_cons (pv 1) pa_nil))))) pa_nil)))
      (pss_cons (ps_set (i := 5) sc_law.nd rfl (Or.inr rfl) (pe_lst (pa_cons (pe_m1 PySem.F.slot_str_join PySem.F.type_str_join cm_join pe_str (pe_lc (own := [("_law_one", 14)]) rfl sc_law.nd (pi_tup (pv 2)) (blkOk_by (own := [("_law_one", 14)]) (N := ["_law_script", "_law_town", "_law_row", "_law_again", "_law_line", "_law_texts", "_law_what", "_law_text", "_law_at", "_law_sign", "_law_odd", "_law_made", "_law_whole", "_law_bad_one", "_law_one", "_law_a", "_law_b"]) (sc := (defScope s_law)) (by decide +kernel)) (fun _ _ _ _ _ => (pg_name (i := 14) sc_law.nd rfl (by first | exact Or.inl rfl | exact Or.inr rfl))) (fun _ _ _ _ _ => pts_nil) (fun _ _ _ _ _ => (pe_ifExp (pt_cmpR oi_isN (pv 14) pe_non (nomark _)) pe_str (pe_callTy cl_strI (by rfl) m_str (by decide +kernel) (pa_cons (pv 14) pa_nil)))))) pa_nil)))
      (pss_cons (ps_expr (pe_bm PySem.F.plainAttrs_list PySem.F.slot_list_append PySem.F.type_list_append mt_append (pv 5) (pa_cons (pe_m1 PySem.F.slot_str_join PySem.F.type_str_join cm_join pe_str (pe_lc (own := [("_law_a", 15), ("_law_b", 16)]) rfl sc_law.nd (pi_tup (pv 4)) (blkOk_by (own := [("_law_a", 15), ("_law_b", 16)]) (N := ["_law_script", "_law_town", "_law_row", "_law_again", "_law_line", "_law_texts", "_law_what", "_law_text", "_law_at", "_law_sign", "_law_odd", "_law_made", "_law_whole", "_law_bad_one", "_law_one", "_law_a", "_law_b"]) (sc := (defScope s_law)) (by decide +kernel)) (fun _ _ _ _ _ => (pg_tupK (K := K) (n := 2) rfl rfl (pgs_cons (pg_name (i := 15) sc_law.nd rfl (by first | exact Or.inl rfl | exact Or.inr rfl)) (pgs_cons (pg_name (i := 16) sc_law.nd rfl (by first | exact Or.inl rfl | exact Or.inr rfl)) pgs_nil)))) (fun _ _ _ _ _ => pts_nil) (fun _ _ _ _ _ => (pe_op op_addS (pe_op op_addS (pv 15) pe_str) (pe_callTy cl_strI (by rfl) m_str (by decide +kernel) (pa_cons (pv 16) pa_nil)))))) pa_nil)))
      (pss_cons (ps_stop (ps_if (pt_cmpR (op_eqD hr.units) (pv 2) (pe_tupF pa_nil) (nomark _)) (pss_one (ps_asg pe_str (pg_sub (pv 5) pe_int set_list))) pss_nil))
      (pss_cons (ps_stop (ps_if (pt_cmpR (op_eqD hr.units) (pv 4) (pe_tupF pa_nil) (nomark _)) (pss_one (ps_asg pe_str (pg_sub (pv 5) pe_int set_list))) pss_nil))
      (pss_cons (ps_stop (ps_if (pt_stop (PW.pt (pw_or (pt_cmpR (op_neD hr.units) (pe_call C_row_text.G (hr.mono (by decide)) (by rfl) C_row_text.g C_row_text.kp C_row_text.b .nil pass0 (pa_cons (pv 2) pa_nil)) (pe_ix ix_list (pv 5) pe_int (fun _ _ => rfl)) (nomark _)) (pw_or1 (pt_cmpR (op_neD hr.units) (pe_call C_line_text.G (hr.mono (by decide)) (by rfl) C_line_text.g C_line_text.kp C_line_text.b .nil pass0 (pa_cons (pv 4) pa_nil)) (pe_ix ix_list (pv 5) pe_int (fun _ _ => rfl)) (nomark _)))))) (pss_one (ps_ret pe_bl)) pss_nil))
      (pss_cons (ps_stop (ps_if (pt_cmpR (op_neD hr.units) (pe_lc (own := [("_law_what", 6)]) rfl sc_law.nd (pi_range1 (by rfl) m_range (pa_cons pe_int pa_nil)) (blkOk_by (own := [("_law_what", 6)]) (N := ["_law_script", "_law_town", "_law_row", "_law_again", "_law_line", "_law_texts", "_law_what", "_law_text", "_law_at", "_law_sign", "_law_odd", "_law_made", "_law_whole", "_law_bad_one", "_law_one", "_law_a", "_law_b"]) (sc := (defScope s_law)) (by decide +kernel)) (fun _ _ _ _ _ => (pg_name (i := 6) sc_law.nd rfl (by first | exact Or.inl rfl | exact Or.inr rfl))) (fun _ _ _ _ _ => pts_nil) (fun _ _ _ _ _ => (pe_call C__law_ask.G (hr.mono (by decide)) (by rfl) C__law_ask.g C__law_ask.kp C__law_ask.b .nil pass0 (pa_cons (pv 6) (pa_cons (pe_ix (ix_listK (K := K) rfl) (pv 5) (pv 6) (fun _ _ => rfl)) pa_nil))))) (pe_lst (pa_cons (pv 2) (pa_cons (pv 4) pa_nil))) (nomark _)) (pss_one (ps_ret pe_bl)) pss_nil))
      (pss_cons (ps_for PassesOwn.never rfl (pi_range1 (by rfl) m_range (pa_cons pe_int pa_nil)) (pg_name (i := 3) sc_law.nd rfl (by first | exact Or.inl rfl | exact Or.inr rfl)) (pss_one (ps_for PassesOwn.never rfl (pi_enum (by rfl) m_enumerate (pa_cons (pv 5) pa_nil)) (pg_tup (n := 2) rfl (pgs_cons (pg_name (i := 6) sc_law.nd rfl (by first | exact Or.inl rfl | exact Or.inr rfl)) (pgs_cons (pg_name (i := 7) sc_law.nd rfl (by first | exact Or.inl rfl | exact Or.inr rfl)) pgs_nil))) (pss_cons (ps_set (i := 8) sc_law.nd rfl (Or.inl rfl) (pe_call C__law_draw.G (hr.mono (by decide)) (by rfl) C__law_draw.g C__law_draw.kp C__law_draw.b .nil pass0 (pa_cons (pv 0) (pa_cons (pv 1) (pa_cons (pe_op op_add (pe_callB cl_lenTx (by rfl) m_len PySem.boot_len (pa_cons (pv 7) pa_nil)) pe_int) pa_nil)))))
      (pss_cons (ps_set (i := 9) sc_law.nd rfl (Or.inl rfl) (pe_call C__law_pick.G (hr.mono (by decide)) (by rfl) C__law_pick.g C__law_pick.kp C__law_pick.b .nil pass0 (pa_cons (pv 0) (pa_cons (pv 1) (pa_cons (pe_lst (pa_cons pe_str (pa_cons pe_str (pa_cons pe_str (pa_cons pe_str (pa_cons pe_str (pa_cons pe_str (pa_cons pe_str (pa_cons pe_str (pa_cons pe_str (pa_cons pe_str (pa_cons pe_str pa_nil)))))))))))) pa_nil)))))
      (pss_cons (ps_set (i := 10) sc_law.nd rfl (Or.inl rfl) (pe_op op_addS (pe_op op_addS (pe_slice sl_str (pv 7) po_none (po_some (pv 8))) (pv 9)) (pe_slice sl_str (pv 7) (po_some (pe_op op_add (pv 8) (pe_call C__law_draw.G (hr.mono (by decide)) (by rfl) C__law_draw.g C__law_draw.kp C__law_draw.b .nil pass0 (pa_cons (pv 0) (pa_cons (pv 1) (pa_cons pe_int pa_nil)))))) po_none)))
      (pss_cons (ps_set (i := 11) sc_law.nd rfl (Or.inl rfl) (pe_call C__law_parse.G (hr.mono (by decide)) (by rfl) C__law_parse.g C__law_parse.kp C__law_parse.b .nil pass0 (pa_cons (pv 6) (pa_cons (pv 10) pa_nil))))
      (pss_cons (ps_set (i := 12) sc_law.nd rfl (Or.inl rfl) (pe_ifExp (pt_cmpR (op_eqD hr.units) (pv 6) pe_int (nomark _)) (pe_call C_is_rowO.G (hr.mono (by decide)) (by rfl) C_is_rowO.g C_is_rowO.kp C_is_rowO.b .nil pass0 (pa_cons (pv 11) pa_nil)) (pe_call C_is_lineO.G (hr.mono (by decide)) (by rfl) C_is_lineO.g C_is_lineO.kp C_is_lineO.b .nil pass0 (pa_cons (pv 11) pa_nil))))
      (pss_one (ps_stop (ps_if (pt_cmpR (op_neD hr.units) (pe_call C__law_ask.G (hr.mono (by decide)) (by rfl) C__law_ask.g C__law_ask.kp C__law_ask.b .nil pass0 (pa_cons (pv 6) (pa_cons (pv 10) pa_nil))) (pe_ifExp (pt_val (pv 12)) (pv 11) (pe_tupF (pa_cons pe_str (pa_cons pe_int pa_nil)))) (nomark _)) (pss_one (ps_ret pe_bl)) pss_nil)))))))))))
      (pss_cons (ps_for PassesOwn.never rfl (pi_list (pe_lst (pa_cons pe_non (pa_cons pe_int (pa_cons pe_str (pa_cons (pe_lst (pa_cons (pe_ix ix_list (pv 5) pe_int (fun _ _ => rfl)) pa_nil)) (pa_cons pe_str (pa_cons pe_str (pa_cons pe_str (pa_cons pe_str pa_nil)))))))))) (pg_name (i := 13) sc_law.nd rfl (by first | exact Or.inl rfl | exact Or.inr rfl)) (pss_one (ps_stop (ps_if (pt_cmpR (op_neD hr.units) (pe_lc (own := [("_law_what", 6)]) rfl sc_law.nd (pi_range1 (by rfl) m_range (pa_cons pe_int pa_nil)) (blkOk_by (own := [("_law_what", 6)]) (N := ["_law_script", "_law_town", "_law_row", "_law_again", "_law_line", "_law_texts", "_law_what", "_law_text", "_law_at", "_law_sign", "_law_odd", "_law_made", "_law_whole", "_law_bad_one", "_law_one", "_law_a", "_law_b"]) (sc := (defScope s_law)) (by decide +kernel)) (fun _ _ _ _ _ => (pg_name (i := 6) sc_law.nd rfl (by first | exact Or.inl rfl | exact Or.inr rfl))) (fun _ _ _ _ _ => pts_nil) (fun _ _ _ _ _ => (pe_call C__law_ask.G (hr.mono (by decide)) (by rfl) C__law_ask.g C__law_ask.kp C__law_ask.b .nil pass0 (pa_cons (pv 6) (pa_cons (pv 13) pa_nil))))) (pe_op op_rep (pe_lst (pa_cons (pe_tupF (pa_cons pe_str (pa_cons pe_int pa_nil))) pa_nil)) pe_int) (nomark _)) (pss_one (ps_ret pe_bl)) pss_nil))))
      (pss_one (ps_ret pe_bl))))))))))))), fun x hp => ?_⟩)
  show VSs K [.sc x, .no, .no, .no, .no, .no, .no, .no, .no, .no, .no, .no, .no, .no, .no, .no, .no] _ _
  refine ss_seqM (fun Γ => Γ = [.sc x, .ow [], .no, .no, .no, .no, .no, .no, .no, .no, .no, .no, .no, .no, .no, .no, .no]) ?_ ?_
  · walk_at "s"
    walk_at "w"
    all_goals rfl
  intro Γ' e
  subst e
  refine ss_seqM (fun Γ => ∃ (zs : List Dat) (r : List (Option Int)), Γ = [.sc x, .ow zs, .dt (.tuple (oL r)), .no, .no, .no, .no, .no, .no, .no, .no, .no, .no, .no, .no, .no, .no] ∧ (nums r).Nodup ∧ r.length ≤ 12 ∧ (nums r).length ≤ 9 ∧ (∀ y ∈ nums r, y.natAbs < 200) ∧ zs.length ≤ 400) ?_ ?_
  · walk_at "s"
    walk_at "w"
    refine ⟨(x, 9), [], isl_ow rfl, rfl, ⟨hp, by simp, by simp⟩, fun zs1 d ⟨h1, r, h2, h3, h4, h4n, h5⟩ => ?_⟩
    subst h2
    dsimp only at h4 h4n
    simp only [List.length_nil] at h1
    walk_at "s"
    exact ⟨zs1, r, rfl, h3, by omega, h4n, h5, by omega⟩
  intro Γ' ⟨zs0, r, e, hnd, hr, hr9, hv, hz0⟩
  subst e
  refine ss_seqM (fun Γ => ∃ (zs : List Dat) (ln : Ln), Γ = [.sc x, .ow zs, .dt (.tuple (oL r)), .no, .dt (shD ln), .no, .no, .no, .no, .no, .no, .no, .no, .no, .no, .no, .no] ∧ ln.length ≤ 4 ∧ (∀ p ∈ ln, p.2 ≤ 4) ∧ zs.length ≤ 1000) ?_ ?_
  · walk_at "s"
    walk_at "w"
    walk_at "s"
    apply ve_lc (vs := [3]) (fun i Γ acc => ∃ (zs : List Dat) (ln : Ln), Γ = [.sc x, .ow zs, .dt (.tuple (oL r)), .no, .no, .no, .no, .no, .no, .no, .no, .no, .no, .no, .no, .no, .no] ∧ acc = ln.map sD ∧ ln.length = i ∧ (∀ p ∈ ln, p.2 ≤ 4) ∧ zs.length ≤ 500 + 2 * i) (by walk_at "n") (fun i Γ2 acc ⟨zs, ln, e, _⟩ v hv => by
      rw [List.mem_singleton.mp hv, e]
      rfl)
    walk_at "w"
    refine ⟨(x, 5), _, isl_ow rfl, rfl, ⟨hp, by simp, by omega⟩, fun zs2 d ⟨h5, n, h6, h7⟩ => ?_⟩
    subst h6
    dsimp only at h7
    walk_at "s"
    walk_at "w"
    refine ⟨by omega, by omega, ⟨zs2, [], rfl, rfl, rfl, by simp, by omega⟩, gl_lt (by rw [rngD_len]; omega), fun i d Γ2 acc hd ⟨zs, ln, e1, e2, e3, e4, e5⟩ => ⟨_, tg_name (by decide), fun srcs => ?_⟩, fun Γ2 acc ⟨zs, ln, e1, e2, e3, e4, e5⟩ => ?_⟩
    · subst e1 e2
      have hi := (List.getElem?_eq_some_iff.mp hd).1
      rw [rngD_len] at hi
      rw [rngD_at hi] at hd
      cases hd
      walk_at "s"
      walk_at "w"
      refine ⟨x, zs, isl_ow rfl, rfl, ⟨hp, by omega⟩, fun zs3 d ⟨g1, l, m, g2, g3⟩ => ?_⟩
      subst g2
      walk_at "s"
      walk_at "w"
      refine ⟨zs3, ln ++ [(l, m)], rfl, by rw [List.map_append]; rfl, by simp; omega, fun p hp2 => ?_, by omega⟩
      rcases List.mem_append.mp hp2 with hp2 | hp2
      · exact e4 p hp2
      · rw [List.mem_singleton.mp hp2]; show m ≤ 4; omega
    subst e1 e2
    rw [rngD_len] at e3 e5
    walk_at "w"
    exact ⟨zs, ln, rfl, by omega, e4, by omega⟩
  intro Γ' ⟨zs, ln, e, hln, h4, hz⟩
  subst e
  have h9 : ∀ p ∈ ln, p.2 ≤ 9 := fun p hp2 => by have := h4 p hp2; omega
  have vo := nums_val.mp hv
  have rok : RowOk r := ⟨by omega, hnd⟩
  obtain ⟨rT, rL⟩ := rowT_len hr vo
  obtain ⟨lT, lL⟩ := lineT_len hln h9
  refine ss_seqM (fun Γ => Γ = [.sc x, .ow zs, .dt (.tuple (oL r)), .no, .dt (shD ln), .ow [.str (joinR r)], .no, .no, .no, .no, .no, .no, .no, .no, .no, .no, .no]) ?_ ?_
  · walk_at "s"
    walk_at "w"
    refine ⟨_, rfl, ?_⟩
    apply ve_lcT (vs := [14]) oD r (fun _ => true) (fun a => .str (wordT a)) (by walk_at "n")
    walk_at "w"
    refine ⟨rfl, by simp, gl_lt (by omega), fun a ha => ⟨_, tg_name (by decide), fun acc srcs => ?_⟩, ?_⟩
    · walk_at "s"
      walk_at "w"
      refine ⟨rfl, fun _ => ?_, fun _ => rfl⟩
      cases a with
      | none =>
        walk_at "w"
        exact ⟨rfl, rfl⟩
      | some n =>
        walk_at "w"
        refine c1_strI (Nat.lt_of_lt_of_le (vo n ha) (by decide +kernel)) ?_
        walk_at "w"
        exact ⟨rfl, rfl⟩
    have hs := words_sum vo
    refine ⟨r.map wordT, .inl ?_, ?_, ?_⟩
    · rw [fil_true, List.map_map]
      rfl
    · rw [List.length_map]
      show _ + r.length * 1 ≤ _
      omega
    walk_at "w"
    rfl
  intro Γ' e
  subst e
  refine ss_seqM (fun Γ => Γ = [.sc x, .ow zs, .dt (.tuple (oL r)), .no, .dt (shD ln), .ow [.str (joinR r), .str (joinL ln)], .no, .no, .no, .no, .no, .no, .no, .no, .no, .no, .no]) ?_ ?_
  · walk_at "s"
    walk_at "w"
    refine ⟨_, rfl, ?_⟩
    apply ve_lcT (vs := [15, 16]) sD ln (fun _ => true) (fun a => .str (shT a)) (by walk_at "n")
    walk_at "w"
    refine ⟨rfl, by simp, gl_lt (by omega), fun a ha => ⟨_, tg_pair (by decide) (by decide), fun acc srcs => ?_⟩, ?_⟩
    · walk_at "s"
      walk_at "w"
      refine ⟨rfl, fun _ => ?_, fun _ => rfl⟩
      have h9a := h9 a ha
      have hna := numT_len (n := (a.2 : Int)) (by omega)
      have hwl : (wd a.1 ++ " ").length ≤ 6 := by cases a.1 <;> decide +kernel
      walk_at "w"
      refine r2_addS (gl_le (by cases a.1 <;> decide +kernel)) ?_
      walk_at "w"
      refine r2_addS (x := wd a.1 ++ " ") (y := numT a.2) (gl_le (by omega)) ?_
      walk_at "w"
      exact ⟨rfl, rfl⟩
    have hs := shT_sum h9
    refine ⟨ln.map shT, .inl ?_, ?_, ?_⟩
    · rw [fil_true, List.map_map]
      rfl
    · rw [List.length_map]
      show _ + ln.length * 1 ≤ _
      omega
    walk_at "w"
    refine ⟨_, _, rfl, isl_ow rfl, gl_lt (by show 1 ≤ 100000; decide), ?_⟩
    walk_at "s"
    rfl
  intro Γ' e
  subst e
  refine ss_seqM (fun Γ => Γ = [.sc x, .ow zs, .dt (.tuple (oL r)), .no, .dt (shD ln), .ow [.str (rowT r), .str (joinL ln)], .no, .no, .no, .no, .no, .no, .no, .no, .no, .no, .no]) ?_ ?_
  · walk_at "s"
    refine ss_go ?_
    refine ss_if fun ss => ?_
    walk_at "w"
    refine r2_eqD rd_dt rd_dt (shp_ok (shp_to _) (by decide)) (by decide +kernel) ?_
    rw [show PyData.eqv (.tuple (oL r)) (.tuple []) = decide (r = []) from eqv_to r []]
    by_cases h : r = []
    · rw [decide_eq_true h]
      walk_at "w"
      refine ⟨_, _, _, 0, rfl, rfl, isl_ow rfl, ixN_at (j := 0) (by show 0 < 2; decide), ?_⟩
      subst h
      rfl
    · rw [decide_eq_false h, joinR_row h]
      walk_at "w"
  intro Γ' e
  subst e
  refine ss_seqM (fun Γ => Γ = [.sc x, .ow zs, .dt (.tuple (oL r)), .no, .dt (shD ln), .ow [.str (rowT r), .str (lineT ln)], .no, .no, .no, .no, .no, .no, .no, .no, .no, .no, .no]) ?_ ?_
  · walk_at "s"
    refine ss_go ?_
    refine ss_if fun ss => ?_
    walk_at "w"
    refine r2_eqD rd_dt rd_dt (shp_ok (shp_shD _) (by decide)) (by decide +kernel) ?_
    rw [show PyData.eqv (shD ln) (.tuple []) = decide (ln = []) by cases ln <;> rfl]
    by_cases h : ln = []
    · rw [decide_eq_true h]
      walk_at "w"
      refine ⟨_, _, _, 1, rfl, rfl, isl_ow rfl, ixN_at (j := 1) (by show 1 < 2; decide), ?_⟩
      subst h
      rfl
    · rw [decide_eq_false h, joinL_line h]
      walk_at "w"
  intro Γ' e
  subst e
  refine ss_seqM (fun Γ => Γ = [.sc x, .ow zs, .dt (.tuple (oL r)), .no, .dt (shD ln), .ow [.str (rowT r), .str (lineT ln)], .no, .no, .no, .no, .no, .no, .no, .no, .no, .no, .no]) ?_ ?_
  · walk_at "s"
    refine ss_go ?_
    refine ss_if fun ss => ?_
    refine vt_cut false ?_ ?_
    · walk_at "w"
      refine ⟨r, rfl, ⟨rok, vo⟩, ?_⟩
      walk_at "w"
      refine r2_ixL (ds := [.str (rowT r), .str (lineT ln)]) (d := .str (rowT r)) ⟨[], .inr (.inl ⟨5, rfl, .inl rfl⟩)⟩ (show atI _ ((0 : Nat) : Int) = _ from atI_nat rfl) ?_
      walk_at "w"
      refine r2_neD rd_dt rd_dt (shp_ok (shp_str rT.2) (by decide)) (shp_ok (shp_str rT.2) (by decide)) ?_
      rw [eqv_ss, decide_eq_true rfl]
      walk_at "w"
      refine ⟨ln, rfl, ⟨by omega, h9⟩, ?_⟩
      walk_at "w"
      refine r2_ixL (ds := [.str (rowT r), .str (lineT ln)]) (d := .str (lineT ln)) ⟨[], .inr (.inl ⟨5, rfl, .inl rfl⟩)⟩ (show atI _ ((1 : Nat) : Int) = _ from atI_nat rfl) ?_
      walk_at "w"
      refine r2_neD rd_dt rd_dt (shp_ok (shp_str lT.2) (by decide)) (shp_ok (shp_str lT.2) (by decide)) ?_
      rw [eqv_ss, decide_eq_true rfl]
      walk_at "w"
      exact ⟨rfl, rfl⟩
    · refine ⟨fun e => (by cases e), fun _ => ?_⟩
      walk_at "w"
      all_goals rfl
  intro Γ' e
  subst e
  have tr := tx_row hr rok vo
  have tl := tx_line hln h9
  refine ss_seqM (fun Γ => Γ = [.sc x, .ow zs, .dt (.tuple (oL r)), .no, .dt (shD ln), .ow [.str (rowT r), .str (lineT ln)], .no, .no, .no, .no, .no, .no, .no, .no, .no, .no, .no]) ?_ ?_
  · walk_at "s"
    refine ss_go ?_
    refine ss_if fun ss => ?_
    refine vt_cutT false ?_ ?_
    · walk_at "w"
      apply ve_lcT (vs := [6]) (fun k : Nat => PyData.int k) (List.range 2) (fun _ => true) (fun k => if k = 0 then .tuple (oL r) else shD ln) (by walk_at "n")
      walk_at "w"
      refine ⟨by decide, by decide, rfl, by simp, gl_lt (by decide), fun k hk => ⟨_, tg_name (by decide), fun acc srcs => ?_⟩, ?_⟩
      · have hk2 := List.mem_range.mp hk
        walk_at "s"
        walk_at "w"
        refine ⟨rfl, fun _ => ?_, fun _ => rfl⟩
        obtain rfl | rfl : k = 0 ∨ k = 1 := by omega
        · walk_at "w"
          refine r2_ixL (ds := [.str (rowT r), .str (lineT ln)]) (d := .str (rowT r)) ⟨[], .inr (.inl ⟨5, rfl, .inl rfl⟩)⟩ (show atI _ ((0 : Nat) : Int) = _ from atI_nat rfl) ?_
          walk_at "w"
          refine ⟨(0, .str (rowT r), .tuple (oL r)), rfl, tr, ?_⟩
          walk_at "w"
          exact ⟨rfl, rfl⟩
        · walk_at "w"
          refine r2_ixL (ds := [.str (rowT r), .str (lineT ln)]) (d := .str (lineT ln)) ⟨[], .inr (.inl ⟨5, rfl, .inl rfl⟩)⟩ (show atI _ ((1 : Nat) : Int) = _ from atI_nat rfl) ?_
          walk_at "w"
          refine ⟨(1, .str (lineT ln), shD ln), rfl, tl, ?_⟩
          walk_at "w"
          exact ⟨rfl, rfl⟩
      rw [fil_true]
      walk_at "w"
      refine r2_neA (n := 5) (d := .list [.tuple (oL r), shD ln]) (e := .list [.tuple (oL r), shD ln]) rd_fr rd_fr (shp_list fun d hd => ?_) (by decide) rfl ?_
      · rcases List.mem_cons.mp hd with rfl | hd
        · exact ⟨(shp_to r).1, Nat.le_trans (shp_to r).2 (by decide)⟩
        · rw [List.mem_singleton.mp hd]
          exact ⟨(shp_shD ln).1, Nat.le_trans (shp_shD ln).2 (by decide)⟩
      walk_at "w"
      exact ⟨rfl, rfl⟩
    · refine ⟨fun e => (by cases e), fun _ => ?_⟩
      walk_at "w"
      all_goals rfl
  intro Γ' e
  subst e
  refine ss_frz (i := 5) (ds := [.str (rowT r), .str (lineT ln)]) rfl ?_
  refine ss_seqM (fun Γ => ∃ (zs : List Dat) (c3 c6 c7 c8 c9 c10 c11 c12 : Cell), Γ = [.sc x, .ow zs, .dt (.tuple (oL r)), c3, .dt (shD ln), .dt (.list [.str (rowT r), .str (lineT ln)]), c6, c7, c8, c9, c10, c11, c12, .no, .no, .no, .no] ∧ zs.length ≤ 2000) ?_ ?_
  · walk_at "s"
    refine ss_for (fun i Γ => ∃ (zs : List Dat) (c3 c6 c7 c8 c9 c10 c11 c12 : Cell), Γ = [.sc x, .ow zs, .dt (.tuple (oL r)), c3, .dt (shD ln), .dt (.list [.str (rowT r), .str (lineT ln)]), c6, c7, c8, c9, c10, c11, c12, .no, .no, .no, .no] ∧ zs.length ≤ 1000 + 6 * i) fun ss => ?_
    walk_at "w"
    refine ⟨by omega, by omega, ⟨zs, _, _, _, _, _, _, _, _, rfl, by omega⟩, fun i d Γ2 hd ⟨zs1, c3, c6, c7, c8, c9, c10, c11, c12, ec, hz1⟩ => ?_, fun Γ2 ⟨zs1, c3, c6, c7, c8, c9, c10, c11, c12, ec, hz1⟩ => ?_⟩
    · subst ec
      have hi := (List.getElem?_eq_some_iff.mp hd).1
      rw [rngD_len] at hi
      walk_at "w"
      walk_at "s"
      refine ss_for (fun j Γ => ∃ (zs : List Dat) (c3 c6 c7 c8 c9 c10 c11 c12 : Cell), Γ = [.sc x, .ow zs, .dt (.tuple (oL r)), c3, .dt (shD ln), .dt (.list [.str (rowT r), .str (lineT ln)]), c6, c7, c8, c9, c10, c11, c12, .no, .no, .no, .no] ∧ zs.length ≤ 1000 + 6 * i + 3 * j) fun ss => ?_
      walk_at "w"
      refine ⟨⟨zs1, _, _, _, _, _, _, _, _, rfl, by omega⟩, fun j d Γ2 hd ⟨zs2, c3, c6, c7, c8, c9, c10, c11, c12, ec, hz2⟩ => ?_, fun Γ2 ⟨zs2, c3, c6, c7, c8, c9, c10, c11, c12, ec, hz2⟩ => ?_⟩
      · subst ec
        have hj : j < 2 := (List.getElem?_eq_some_iff.mp hd).1
        obtain ⟨t, htl, hto, rfl⟩ : ∃ t : Str, t.length ≤ 60 ∧ PyData.strOk t = true ∧ d = .tuple [.int (j : Nat), .str t] := by
          obtain rfl | rfl : j = 0 ∨ j = 1 := by omega
          · cases hd
            exact ⟨_, rL, rT.2, rfl⟩
          · cases hd
            exact ⟨_, by omega, lT.2, rfl⟩
        walk_at "w"
        walk_at "s"
        walk_at "w"
        refine c1_lenTx (gl_le (by omega)) ?_
        walk_at "w"
        refine ⟨(x, t.length + 1), zs2, isl_ow rfl, rfl, ⟨hp, by simp, by omega⟩, fun zs3 d ⟨g1, a, g2, g3⟩ => ?_⟩
        subst g2
        walk_at "s"
        walk_at "w"
        refine ⟨(x, signs), zs3, isl_ow rfl, rfl, ⟨hp, by show 0 < 11; decide, by show 11 ≤ 100; decide, by omega⟩, fun zs4 d ⟨g4, g5⟩ => ?_⟩
        obtain ⟨s, rfl, hs1, hs2⟩ := bSg g5
        walk_at "s"
        walk_at "w"
        refine ⟨t, rfl, gl_le (by omega), ?_⟩
        walk_at "s"
        walk_at "w"
        have oc : ∀ b : Nat, _ := fun b => odd_ok (t := t) (s := s) (a := a) (b := a + b) (by omega) hto htl hs1 hs2
        refine r2_addS (x := cutS t none (some (a : Int))) (y := s) (gl_le (by have := (oc 0).2.1; omega)) ?_
        walk_at "w"
        refine ⟨(x, 3), zs4, isl_ow rfl, rfl, ⟨hp, by show 0 < 3; decide, by omega⟩, fun zs5 d ⟨g6, b, g7, g8⟩ => ?_⟩
        subst g7
        obtain ⟨o1, o2, o3⟩ := oc b
        walk_at "s"
        walk_at "w"
        refine ⟨t, rfl, gl_le (by omega), ?_⟩
        walk_at "s"
        walk_at "w"
        refine r2_addS (x := cutS t none (some (a : Int)) ++ s) (y := cutS t (some ((a + b : Nat) : Int)) none) (gl_le (by rw [str_len]; omega)) ?_
        generalize cutS t none (some (a : Int)) ++ s ++ cutS t (some ((a + b : Nat) : Int)) none = X at o1
        walk_at "w"
        walk_at "s"
        walk_at "w"
        refine ⟨(j, X), rfl, ⟨by show j ≤ 1; omega, o1⟩, ?_⟩
        obtain rfl | rfl : j = 0 ∨ j = 1 := by omega
        · rw [if_pos rfl]
          walk_at "s"
          walk_at "w"
          refine ⟨parR X, rfl, parR_okD o1, ?_⟩
          walk_at "w"
          walk_at "s"
          walk_at "w"
          refine ss_same ?_ ?_
          · refine ss_if fun ss => ?_
            refine vt_cutT false ?_ ?_
            · walk_at "w"
              refine ⟨(0, .str X, if isRowD (parR X) = true then parR X else rfn), rfl, ask_row o1, ?_⟩
              cases hb : isRowD (parR X) with
              | true =>
                rw [if_pos rfl]
                walk_at "w"
                refine r2_neA (n := 5) rd_dt rd_dt (shp_parR hb) (by decide) rfl ?_
                walk_at "w"
                exact ⟨rfl, rfl⟩
              | false =>
                rw [if_neg Bool.false_ne_true]
                walk_at "w"
                refine r2_neD rd_dt rd_dt (show SeqAt.shaped rfn = true by decide +kernel) (by decide +kernel) ?_
                rw [show PyData.eqv rfn (.tuple [.str "refused", .int 9]) = true by decide +kernel]
                walk_at "w"
                exact ⟨rfl, rfl⟩
            · refine ⟨fun e => (by cases e), fun _ => ?_⟩
              walk_at "w"
          exact ⟨zs5, _, _, _, _, _, _, _, _, rfl, by omega⟩
        · rw [if_neg (show ¬ 1 = 0 by decide)]
          walk_at "s"
          walk_at "w"
          refine ⟨parL X, rfl, parL_okDD o1, ?_⟩
          walk_at "w"
          walk_at "s"
          walk_at "w"
          refine ss_same ?_ ?_
          · refine ss_if fun ss => ?_
            refine vt_cutT false ?_ ?_
            · walk_at "w"
              refine ⟨(1, .str X, if isLineD (parL X) = true then parL X else rfn), rfl, ask_line o1, ?_⟩
              cases hb : isLineD (parL X) with
              | true =>
                rw [if_pos rfl]
                walk_at "w"
                refine r2_neA (n := 5) rd_dt rd_dt (shp_parL o1 hb) (by decide) rfl ?_
                walk_at "w"
                exact ⟨rfl, rfl⟩
              | false =>
                rw [if_neg Bool.false_ne_true]
                walk_at "w"
                refine r2_neD rd_dt rd_dt (show SeqAt.shaped rfn = true by decide +kernel) (by decide +kernel) ?_
                rw [show PyData.eqv rfn (.tuple [.str "refused", .int 9]) = true by decide +kernel]
                walk_at "w"
                exact ⟨rfl, rfl⟩
            · refine ⟨fun e => (by cases e), fun _ => ?_⟩
              walk_at "w"
          exact ⟨zs5, _, _, _, _, _, _, _, _, rfl, by omega⟩
      · subst ec
        have e2 : (enumD [.str (rowT r), .str (lineT ln)]).length = 2 := rfl
        rw [e2] at hz2
        exact ⟨zs2, _, _, _, _, _, _, _, _, rfl, by omega⟩
    · subst ec
      rw [rngD_len] at hz1
      exact ⟨zs1, _, _, _, _, _, _, _, _, rfl, by omega⟩
  intro Γ' ⟨zs1, c3, c6, c7, c8, c9, c10, c11, c12, e, hz1⟩
  subst e
  refine ss_forget 6 ?_
  refine ss_seqM (fun Γ => True) ?_ (fun Γ' _ => ?_)
  · walk_at "s"
    refine ss_for (fun i Γ => ∃ c13 : Cell, Γ = [.sc x, .ow zs1, .dt (.tuple (oL r)), c3, .dt (shD ln), .dt (.list [.str (rowT r), .str (lineT ln)]), .no, c7, c8, c9, c10, c11, c12, c13, .no, .no, .no]) fun ss => ?_
    walk_at "w"
    refine r2_ixL (ds := [.str (rowT r), .str (lineT ln)]) (d := .str (rowT r)) ⟨_, .inl ⟨rfl, rfl⟩⟩ (show atI _ ((0 : Nat) : Int) = _ from atI_nat rfl) ?_
    walk_at "w"
    refine ⟨fun i d Γ2 hd ⟨c13, ec⟩ => ?_, fun Γ2 _ => trivial⟩
    subst ec
    have hb := List.all_eq_true.mp (badT (rowT r)) d (List.mem_of_getElem? hd)
    walk_at "w"
    walk_at "s"
    refine ss_forget 6 ?_
    walk_at "s"
    refine ss_same ?_ ?_
    · refine ss_if fun ss => ?_
      refine vt_cutT false ?_ ?_
      · walk_at "w"
        apply ve_lcT (vs := [6]) (fun k : Nat => PyData.int k) (List.range 2) (fun _ => true) (fun _ => rfn) (by walk_at "n")
        walk_at "w"
        refine ⟨by decide, by decide, rfl, by simp, gl_lt (by decide), fun k hk => ⟨_, tg_name (by decide), fun acc srcs => ?_⟩, ?_⟩
        · have hk2 := List.mem_range.mp hk
          walk_at "s"
          walk_at "w"
          refine ⟨rfl, fun _ => ?_, fun _ => rfl⟩
          walk_at "w"
          refine ⟨(k, d, rfn), rfl, bTx hb (by omega), ?_⟩
          walk_at "w"
          exact ⟨rfl, rfl⟩
        rw [fil_true]
        walk_at "w"
        refine r2_rep (.inr rfl) (by decide) (by decide) (gl_le (by decide)) ?_
        refine r2_neD rd_fr rd_fr (by decide +kernel) (by decide +kernel) ?_
        rw [show PyData.eqv (.list (List.map (fun _ : Nat => rfn) (List.range 2))) (.list (List.replicate (2 : Int).toNat [PyData.tuple [.str "refused", .int 9]]).flatten) = true by decide +kernel]
        walk_at "w"
        exact ⟨rfl, rfl⟩
      · refine ⟨fun e => (by cases e), fun _ => ?_⟩
        walk_at "w"
    exact ⟨_, rfl⟩
  walk_at "s"
  walk_at "w"
end
set_option maxHeartbeats 0 in
theorem factsL {P : Program} {w : World} {K : PySem.W.Frag} {h : Heap} {mg : Str → Option Value} {f : Addr} (X : K.In h) (G : h.Ns mainGlobals mg) (hfa : mg ("law" : Str) = some (.ref f)) (c : He.SaysX faL fnL exL K) :
    ∃ fd : FuncData, (∀ (s : Shared) (v : Value), BindsTo s fd ⟨[v], []⟩ [("_law_script", v)]) ∧ ∀ base : Heap, K.In base → base.Ns mainGlobals mg → FnOk P w K mg base CX0 8 f fd ["_law_script"] (spF K (fun ns : List Int => [.sc ns]) (fun ns => ns.length ≤ 63) fun _ => .bool true) := by
  have cX := c
  have c := cX.d
  obtain ⟨e_is_whole, F_is_whole⟩ := c.def_ 0 (d := d_is_whole) rfl
  have g_is_whole := He.glo_ok X G (c.fact 0 (f := .glo "is_whole") rfl)
  obtain ⟨e_is_whole_within, F_is_whole_within⟩ := c.def_ 1 (d := d_is_whole_within) rfl
  have g_is_whole_within := He.glo_ok X G (c.fact 1 (f := .glo "is_whole_within") rfl)
  obtain ⟨e__numbers_of, F__numbers_of⟩ := c.def_ 2 (d := d__numbers_of) rfl
  have g__numbers_of := He.glo_ok X G (c.fact 2 (f := .glo "_numbers_of") rfl)
  obtain ⟨e_is_row, F_is_row⟩ := c.def_ 3 (d := d_is_row) rfl
  have g_is_row := He.glo_ok X G (c.fact 3 (f := .glo "is_row") rfl)
  obtain ⟨e__is_word, F__is_word⟩ := c.def_ 4 (d := d__is_word) rfl
  have g__is_word := He.glo_ok X G (c.fact 4 (f := .glo "_is_word") rfl)
  obtain ⟨e__is_places, F__is_places⟩ := c.def_ 5 (d := d__is_places) rfl
  have g__is_places := He.glo_ok X G (c.fact 5 (f := .glo "_is_places") rfl)
  obtain ⟨e_is_shelf, F_is_shelf⟩ := c.def_ 6 (d := d_is_shelf) rfl
  have g_is_shelf := He.glo_ok X G (c.fact 6 (f := .glo "is_shelf") rfl)
  obtain ⟨e_is_line, F_is_line⟩ := c.def_ 7 (d := d_is_line) rfl
  have g_is_line := He.glo_ok X G (c.fact 7 (f := .glo "is_line") rfl)
  obtain ⟨e_check_row, F_check_row⟩ := c.def_ 8 (d := d_check_row) rfl
  have g_check_row := He.glo_ok X G (c.fact 8 (f := .glo "check_row") rfl)
  obtain ⟨e_check_line, F_check_line⟩ := c.def_ 9 (d := d_check_line) rfl
  have g_check_line := He.glo_ok X G (c.fact 9 (f := .glo "check_line") rfl)
  obtain ⟨e__number_text, F__number_text⟩ := c.def_ 10 (d := d__number_text) rfl
  have g__number_text := He.glo_ok X G (c.fact 10 (f := .glo "_number_text") rfl)
  obtain ⟨e_text_of, F_text_of⟩ := c.def_ 11 (d := d_text_of) rfl
  have g_text_of := He.glo_ok X G (c.fact 11 (f := .glo "text_of") rfl)
  obtain ⟨e_row_text, F_row_text⟩ := c.def_ 12 (d := d_row_text) rfl
  have g_row_text := He.glo_ok X G (c.fact 12 (f := .glo "row_text") rfl)
  obtain ⟨e_line_text, F_line_text⟩ := c.def_ 13 (d := d_line_text) rfl
  have g_line_text := He.glo_ok X G (c.fact 13 (f := .glo "line_text") rfl)
  obtain ⟨e__check_text, F__check_text⟩ := c.def_ 14 (d := d__check_text) rfl
  have g__check_text := He.glo_ok X G (c.fact 14 (f := .glo "_check_text") rfl)
  obtain ⟨e__are_digits, F__are_digits⟩ := c.def_ 15 (d := d__are_digits) rfl
  have g__are_digits := He.glo_ok X G (c.fact 15 (f := .glo "_are_digits") rfl)
  obtain ⟨e__read_number, F__read_number⟩ := c.def_ 16 (d := d__read_number) rfl
  have g__read_number := He.glo_ok X G (c.fact 16 (f := .glo "_read_number") rfl)
  obtain ⟨e__read_part, F__read_part⟩ := c.def_ 17 (d := d__read_part) rfl
  have g__read_part := He.glo_ok X G (c.fact 17 (f := .glo "_read_part") rfl)
  obtain ⟨e__read_shelf, F__read_shelf⟩ := c.def_ 18 (d := d__read_shelf) rfl
  have g__read_shelf := He.glo_ok X G (c.fact 18 (f := .glo "_read_shelf") rfl)
  obtain ⟨e_read_row, F_read_row⟩ := c.def_ 19 (d := d_read_row) rfl
  have g_read_row := He.glo_ok X G (c.fact 19 (f := .glo "read_row") rfl)
  obtain ⟨e_read_line, F_read_line⟩ := c.def_ 20 (d := d_read_line) rfl
  have g_read_line := He.glo_ok X G (c.fact 20 (f := .glo "read_line") rfl)
  obtain ⟨e__law_number, F__law_number⟩ := c.def_ 21 (d := d__law_number) rfl
  have g__law_number := He.glo_ok X G (c.fact 21 (f := .glo "_law_number") rfl)
  obtain ⟨e__law_parse, F__law_parse⟩ := c.def_ 22 (d := d__law_parse) rfl
  have g__law_parse := He.glo_ok X G (c.fact 22 (f := .glo "_law_parse") rfl)
  obtain ⟨e__law_ask, F__law_ask⟩ := c.def_ 23 (d := d__law_ask) rfl
  have g__law_ask := He.glo_ok X G (c.fact 23 (f := .glo "_law_ask") rfl)
  obtain ⟨e__law_cell_at, F__law_cell_at⟩ := c.def_ 24 (d := d__law_cell_at) rfl
  have g__law_cell_at := He.glo_ok X G (c.fact 24 (f := .glo "_law_cell_at") rfl)
  obtain ⟨e__law_mixed, F__law_mixed⟩ := c.def_ 25 (d := d__law_mixed) rfl
  have g__law_mixed := He.glo_ok X G (c.fact 25 (f := .glo "_law_mixed") rfl)
  obtain ⟨e__law_draw, F__law_draw⟩ := c.def_ 26 (d := d__law_draw) rfl
  have g__law_draw := He.glo_ok X G (c.fact 26 (f := .glo "_law_draw") rfl)
  obtain ⟨e__law_pick, F__law_pick⟩ := c.def_ 27 (d := d__law_pick) rfl
  have g__law_pick := He.glo_ok X G (c.fact 27 (f := .glo "_law_pick") rfl)
  obtain ⟨e__law_some_plain, F__law_some_plain⟩ := c.def_ 28 (d := d__law_some_plain) rfl
  have g__law_some_plain := He.glo_ok X G (c.fact 28 (f := .glo "_law_some_plain") rfl)
  obtain ⟨e__law_some_row, F__law_some_row⟩ := c.def_ 29 (d := d__law_some_row) rfl
  have g__law_some_row := He.glo_ok X G (c.fact 29 (f := .glo "_law_some_row") rfl)
  obtain ⟨e__law_some_shelf, F__law_some_shelf⟩ := c.def_ 30 (d := d__law_some_shelf) rfl
  have g__law_some_shelf := He.glo_ok X G (c.fact 30 (f := .glo "_law_some_shelf") rfl)
  obtain ⟨e_law, F_law⟩ := c.def_ 31 (d := d_law) rfl
  have g_law := He.glo_ok X G (c.fact 31 (f := .glo "law") rfl)
  obtain ⟨e__law_which, F__law_which⟩ := c.def_ 32 (d := d__law_which) rfl
  have g__law_which := He.glo_ok X G (c.fact 32 (f := .glo "_law_which") rfl)
  have m_ValueError := He.free_ok X G (c.fact 33 (f := .free "ValueError") rfl)
  have m_all := He.free_ok X G (c.fact 34 (f := .free "all") rfl)
  have m_bool := He.free_ok X G (c.fact 35 (f := .free "bool") rfl)
  have m_enumerate := He.free_ok X G (c.fact 36 (f := .free "enumerate") rfl)
  have m_int := He.free_ok X G (c.fact 37 (f := .free "int") rfl)
  have m_isinstance := He.free_ok X G (c.fact 38 (f := .free "isinstance") rfl)
  have m_len := He.free_ok X G (c.fact 39 (f := .free "len") rfl)
  have m_list := He.free_ok X G (c.fact 40 (f := .free "list") rfl)
  have m_min := He.free_ok X G (c.fact 41 (f := .free "min") rfl)
  have m_range := He.free_ok X G (c.fact 42 (f := .free "range") rfl)
  have m_set := He.free_ok X G (c.fact 43 (f := .free "set") rfl)
  have m_str := He.free_ok X G (c.fact 44 (f := .free "str") rfl)
  have m_tuple := He.free_ok X G (c.fact 45 (f := .free "tuple") rfl)
  have c_DIGITS : GlobS K mg "DIGITS" "0123456789" := ⟨He.str_ok X G (c.fact 46 (f := .str "DIGITS" "0123456789") rfl)⟩
  have c_EMPTY_ROW : GlobS K mg "EMPTY_ROW" "none" := ⟨He.str_ok X G (c.fact 47 (f := .str "EMPTY_ROW" "none") rfl)⟩
  have c_HEAVY : GlobS K mg "HEAVY" "heavy" := ⟨He.str_ok X G (c.fact 48 (f := .str "HEAVY" "heavy") rfl)⟩
  have c_LIGHT : GlobS K mg "LIGHT" "light" := ⟨He.str_ok X G (c.fact 49 (f := .str "LIGHT" "light") rfl)⟩
  have c_MARK : GlobS K mg "MARK" "|" := ⟨He.str_ok X G (c.fact 50 (f := .str "MARK" "|") rfl)⟩
  have c_MOST_PLACES : GlobI K mg "MOST_PLACES" 9 := ⟨He.int_ok X G (c.fact 51 (f := .int "MOST_PLACES" 9) rfl)⟩
  have c_MOST_SHELVES : GlobI K mg "MOST_SHELVES" 8 := ⟨He.int_ok X G (c.fact 52 (f := .int "MOST_SHELVES" 8) rfl)⟩
  have c_MOST_THINGS : GlobI K mg "MOST_THINGS" 24 := ⟨He.int_ok X G (c.fact 53 (f := .int "MOST_THINGS" 24) rfl)⟩
  have c_NO_SHELVES : GlobS K mg "NO_SHELVES" "straight" := ⟨He.str_ok X G (c.fact 54 (f := .str "NO_SHELVES" "straight") rfl)⟩
  have e := hfa.symm.trans g_law
  cases e
  have D_is_whole : Df K mg "is_whole" s_is_whole ["thing"] (He.ga K "is_whole") e_is_whole := Df.of F_is_whole g_is_whole fun _ _ _ _ _ _ us hl => match us, hl with | [_], _ => rfl
  have D_is_whole_within : Df K mg "is_whole_within" s_is_whole_within ["thing", "least", "most"] (He.ga K "is_whole_within") e_is_whole_within := Df.of F_is_whole_within g_is_whole_within fun _ _ _ _ _ _ us hl => match us, hl with | [_, _, _], _ => rfl
  have D__numbers_of : Df K mg "_numbers_of" s__numbers_of ["things"] (He.ga K "_numbers_of") e__numbers_of := Df.of F__numbers_of g__numbers_of fun _ _ _ _ _ _ us hl => match us, hl with | [_], _ => rfl
  have D_is_row : Df K mg "is_row" s_is_row ["thing"] (He.ga K "is_row") e_is_row := Df.of F_is_row g_is_row fun _ _ _ _ _ _ us hl => match us, hl with | [_], _ => rfl
  have D__is_word : Df K mg "_is_word" s__is_word ["thing"] (He.ga K "_is_word") e__is_word := Df.of F__is_word g__is_word fun _ _ _ _ _ _ us hl => match us, hl with | [_], _ => rfl
  have D__is_places : Df K mg "_is_places" s__is_places ["thing"] (He.ga K "_is_places") e__is_places := Df.of F__is_places g__is_places fun _ _ _ _ _ _ us hl => match us, hl with | [_], _ => rfl
  have D_is_shelf : Df K mg "is_shelf" s_is_shelf ["thing"] (He.ga K "is_shelf") e_is_shelf := Df.of F_is_shelf g_is_shelf fun _ _ _ _ _ _ us hl => match us, hl with | [_], _ => rfl
  have D_is_line : Df K mg "is_line" s_is_line ["thing"] (He.ga K "is_line") e_is_line := Df.of F_is_line g_is_line fun _ _ _ _ _ _ us hl => match us, hl with | [_], _ => rfl
  have D_check_row : Df K mg "check_row" s_check_row ["row"] (He.ga K "check_row") e_check_row := Df.of F_check_row g_check_row fun _ _ _ _ _ _ us hl => match us, hl with | [_], _ => rfl
  have D_check_line : Df K mg "check_line" s_check_line ["line"] (He.ga K "check_line") e_check_line := Df.of F_check_line g_check_line fun _ _ _ _ _ _ us hl => match us, hl with | [_], _ => rfl
  have D__number_text : Df K mg "_number_text" s__number_text ["number"] (He.ga K "_number_text") e__number_text := Df.of F__number_text g__number_text fun _ _ _ _ _ _ us hl => match us, hl with | [_], _ => rfl
  have D_text_of : Df K mg "text_of" s_text_of ["parts"] (He.ga K "text_of") e_text_of := Df.of F_text_of g_text_of fun _ _ _ _ _ _ us hl => match us, hl with | [_], _ => rfl
  have D_row_text : Df K mg "row_text" s_row_text ["row"] (He.ga K "row_text") e_row_text := Df.of F_row_text g_row_text fun _ _ _ _ _ _ us hl => match us, hl with | [_], _ => rfl
  have D_line_text : Df K mg "line_text" s_line_text ["line"] (He.ga K "line_text") e_line_text := Df.of F_line_text g_line_text fun _ _ _ _ _ _ us hl => match us, hl with | [_], _ => rfl
  have D__check_text : Df K mg "_check_text" s__check_text ["thing"] (He.ga K "_check_text") e__check_text := Df.of F__check_text g__check_text fun _ _ _ _ _ _ us hl => match us, hl with | [_], _ => rfl
  have D__are_digits : Df K mg "_are_digits" s__are_digits ["text"] (He.ga K "_are_digits") e__are_digits := Df.of F__are_digits g__are_digits fun _ _ _ _ _ _ us hl => match us, hl with | [_], _ => rfl
  have D__read_number : Df K mg "_read_number" s__read_number ["word"] (He.ga K "_read_number") e__read_number := Df.of F__read_number g__read_number fun _ _ _ _ _ _ us hl => match us, hl with | [_], _ => rfl
  have D__read_part : Df K mg "_read_part" s__read_part ["word"] (He.ga K "_read_part") e__read_part := Df.of F__read_part g__read_part fun _ _ _ _ _ _ us hl => match us, hl with | [_], _ => rfl
  have D__read_shelf : Df K mg "_read_shelf" s__read_shelf ["row"] (He.ga K "_read_shelf") e__read_shelf := Df.of F__read_shelf g__read_shelf fun _ _ _ _ _ _ us hl => match us, hl with | [_], _ => rfl
  have D_read_row : Df K mg "read_row" s_read_row ["text"] (He.ga K "read_row") e_read_row := Df.of F_read_row g_read_row fun _ _ _ _ _ _ us hl => match us, hl with | [_], _ => rfl
  have D_read_line : Df K mg "read_line" s_read_line ["text"] (He.ga K "read_line") e_read_line := Df.of F_read_line g_read_line fun _ _ _ _ _ _ us hl => match us, hl with | [_], _ => rfl
  have D__law_number : Df K mg "_law_number" s__law_number ["_law_word"] (He.ga K "_law_number") e__law_number := Df.of F__law_number g__law_number fun _ _ _ _ _ _ us hl => match us, hl with | [_], _ => rfl
  have D__law_parse : Df K mg "_law_parse" s__law_parse ["_law_what", "_law_text"] (He.ga K "_law_parse") e__law_parse := Df.of F__law_parse g__law_parse fun _ _ _ _ _ _ us hl => match us, hl with | [_, _], _ => rfl
  have D__law_ask : Df K mg "_law_ask" s__law_ask ["_law_what", "_law_text"] (He.ga K "_law_ask") e__law_ask := Df.of F__law_ask g__law_ask fun _ _ _ _ _ _ us hl => match us, hl with | [_, _], _ => rfl
  have D__law_cell_at : Df K mg "_law_cell_at" s__law_cell_at ["_law_script", "_law_k"] (He.ga K "_law_cell_at") e__law_cell_at := Df.of F__law_cell_at g__law_cell_at fun _ _ _ _ _ _ us hl => match us, hl with | [_, _], _ => rfl
  have D__law_mixed : Df K mg "_law_mixed" s__law_mixed ["_law_script", "_law_k", "_law_bound"] (He.ga K "_law_mixed") e__law_mixed := Df.of F__law_mixed g__law_mixed fun _ _ _ _ _ _ us hl => match us, hl with | [_, _, _], _ => rfl
  have D__law_draw : Df K mg "_law_draw" s__law_draw ["_law_script", "_law_town", "_law_bound"] (He.ga K "_law_draw") e__law_draw := Df.of F__law_draw g__law_draw fun _ _ _ _ _ _ us hl => match us, hl with | [_, _, _], _ => rfl
  have D__law_pick : Df K mg "_law_pick" s__law_pick ["_law_script", "_law_town", "_law_some"] (He.ga K "_law_pick") e__law_pick := Df.of F__law_pick g__law_pick fun _ _ _ _ _ _ us hl => match us, hl with | [_, _, _], _ => rfl
  have D__law_some_plain : Df K mg "_law_some_plain" s__law_some_plain ["_law_script", "_law_town", "_law_most_there"] (He.ga K "_law_some_plain") e__law_some_plain := Df.of F__law_some_plain g__law_some_plain fun _ _ _ _ _ _ us hl => match us, hl with | [_, _, _], _ => rfl
  have D__law_some_row : Df K mg "_law_some_row" s__law_some_row ["_law_script", "_law_town", "_law_most_there"] (He.ga K "_law_some_row") e__law_some_row := Df.of F__law_some_row g__law_some_row fun _ _ _ _ _ _ us hl => match us, hl with | [_, _, _], _ => rfl
  have D__law_some_shelf : Df K mg "_law_some_shelf" s__law_some_shelf ["_law_script", "_law_town"] (He.ga K "_law_some_shelf") e__law_some_shelf := Df.of F__law_some_shelf g__law_some_shelf fun _ _ _ _ _ _ us hl => match us, hl with | [_, _], _ => rfl
  have D_law : Df K mg "law" s_law ["_law_script"] (He.ga K "law") e_law := Df.of F_law g_law fun _ _ _ _ _ _ us hl => match us, hl with | [_], _ => rfl
  have D__law_which : Df K mg "_law_which" s__law_which ["_law_e"] (He.ga K "_law_which") e__law_which := Df.of F__law_which g__law_which fun _ _ _ _ _ _ us hl => match us, hl with | [_], _ => rfl
  have b := FunD.bindsA (ps := ["_law_script"]) F_law fun _ _ _ _ _ _ us hl => match us, hl with | [_], _ => rfl
  have g_NoRow := He.glo_ok X G (c.fact 55 (f := .glo "NoRow") rfl)
  have g_NoShelf := He.glo_ok X G (c.fact 56 (f := .glo "NoShelf") rfl)
  have g_NoLine := He.glo_ok X G (c.fact 57 (f := .glo "NoLine") rfl)
  have g_NoPlaces := He.glo_ok X G (c.fact 58 (f := .glo "NoPlaces") rfl)
  have g_Marked := He.glo_ok X G (c.fact 59 (f := .glo "Marked") rfl)
  have g_NoCounts := He.glo_ok X G (c.fact 60 (f := .glo "NoCounts") rfl)
  have g_NoLetting := He.glo_ok X G (c.fact 61 (f := .glo "NoLetting") rfl)
  have g_TooMany := He.glo_ok X G (c.fact 62 (f := .glo "TooMany") rfl)
  have g_NoMove := He.glo_ok X G (c.fact 63 (f := .glo "NoMove") rfl)
  have g_NoText := He.glo_ok X G (c.fact 64 (f := .glo "NoText") rfl)
  have g_NoNumber := He.glo_ok X G (c.fact 65 (f := .glo "NoNumber") rfl)
  have g_Nothing := He.glo_ok X G (c.fact 66 (f := .glo "Nothing") rfl)
  have g_ShelfError := He.glo_ok X G (c.fact 67 (f := .glo "ShelfError") rfl)
  have x_NoText := ExcF.of X G (c.fact 64 (f := .glo "NoText") rfl) (c.fact 68 (f := .exc "NoText") rfl)
  have w_g := D__law_which.g
  have w_k := D__law_which.F.kp
  have w_b := D__law_which.b
  have w_eNoText := He.exm_ok (c.fact 69 (f := .exm "NoText" "ShelfError" true) rfl)
  have w_iNoText : Ld.idxK K [He.ga K "NoRow", He.ga K "NoShelf", He.ga K "NoLine", He.ga K "NoPlaces", He.ga K "Marked", He.ga K "NoCounts", He.ga K "NoLetting", He.ga K "TooMany", He.ga K "NoMove", He.ga K "NoText", He.ga K "NoNumber", He.ga K "Nothing"] (He.ga K "NoText") = some 9 := Ld.idxK_of rfl (He.klB_ok (by decide) (cX.x 0 rfl))
  have w_e := w_eNoText
  have w_i := w_iNoText
  refine ⟨e_law, fun s v => b s [v] rfl, fun base _ _ => ?_⟩
  have W_which := ok__law_which (P := P) (w := w) (mg := mg) (base := base) D__law_which g_NoRow g_NoShelf g_NoLine g_NoPlaces g_Marked g_NoCounts g_NoLetting g_TooMany g_NoMove g_NoText g_NoNumber g_Nothing m_isinstance m_ValueError (idx := Ld.idxK K [He.ga K "NoRow", He.ga K "NoShelf", He.ga K "NoLine", He.ga K "NoPlaces", He.ga K "Marked", He.ga K "NoCounts", He.ga K "NoLetting", He.ga K "TooMany", He.ga K "NoMove", He.ga K "NoText", He.ga K "NoNumber", He.ga K "Nothing"]) (fun X n h => Ld.idxK_kit h)
  have C_is_whole := ok_is_whole (P := P) (w := w) (mg := mg) (base := base) D_is_whole m_bool m_int m_isinstance
  have C_is_wholeO := ok_is_wholeO (P := P) (w := w) (mg := mg) (base := base) D_is_whole m_bool m_int m_isinstance
  have C_is_whole_within := ok_is_whole_within (P := P) (w := w) (mg := mg) (base := base) D_is_whole_within C_is_whole
  have C_is_whole_withinO := ok_is_whole_withinO (P := P) (w := w) (mg := mg) (base := base) D_is_whole_within C_is_wholeO
  have C__numbers_of := ok__numbers_of (P := P) (w := w) (mg := mg) (base := base) D__numbers_of 
  have C_numbersO := ok_numbersO (P := P) (w := w) (mg := mg) (base := base) D__numbers_of 
  have C_is_row := ok_is_row (P := P) (w := w) (mg := mg) (base := base) D_is_row C__numbers_of C_is_whole m_all m_isinstance m_len m_set m_tuple c_MOST_THINGS
  have C_is_rowO := ok_is_rowO (P := P) (w := w) (mg := mg) (base := base) D_is_row C_is_wholeO C_numbersO m_all m_isinstance m_len m_set m_tuple c_MOST_THINGS
  have C_is_wordO := ok_is_wordO (P := P) (w := w) (mg := mg) (base := base) D__is_word m_isinstance m_str c_HEAVY c_LIGHT
  have C__is_word := ok__is_word (P := P) (w := w) (mg := mg) (base := base) D__is_word m_isinstance m_str c_HEAVY c_LIGHT
  have C_is_placesO := ok_is_placesO (P := P) (w := w) (mg := mg) (base := base) D__is_places C_is_whole_withinO c_MOST_PLACES
  have C__is_places := ok__is_places (P := P) (w := w) (mg := mg) (base := base) D__is_places C_is_whole_within c_MOST_PLACES
  have C_is_shelfO := ok_is_shelfO (P := P) (w := w) (mg := mg) (base := base) D_is_shelf C_is_placesO C_is_wordO m_isinstance m_len m_tuple
  have C_is_shelf := ok_is_shelf (P := P) (w := w) (mg := mg) (base := base) D_is_shelf C__is_places C__is_word m_isinstance m_len m_tuple
  have C_is_lineO := ok_is_lineO (P := P) (w := w) (mg := mg) (base := base) D_is_line C_is_shelfO m_all m_isinstance m_len m_tuple c_MOST_SHELVES
  have C_is_line := ok_is_line (P := P) (w := w) (mg := mg) (base := base) D_is_line C_is_shelf m_all m_isinstance m_len m_tuple c_MOST_SHELVES
  have C_check_row := ok_check_row (P := P) (w := w) (mg := mg) (base := base) D_check_row C_is_row
  have C_check_line := ok_check_line (P := P) (w := w) (mg := mg) (base := base) D_check_line C_is_line
  have C_number_textP := ok_number_textP (P := P) (w := w) (mg := mg) (base := base) D__number_text m_str
  have C__number_text := ok__number_text (P := P) (w := w) (mg := mg) (base := base) D__number_text C_number_textP m_str
  have C_text_of := ok_text_of (P := P) (w := w) (mg := mg) (base := base) D_text_of C__number_text m_len c_EMPTY_ROW c_MARK
  have C_text_ofT := ok_text_ofT (P := P) (w := w) (mg := mg) (base := base) D_text_of C__number_text m_len c_EMPTY_ROW c_MARK
  have C_row_text := ok_row_text (P := P) (w := w) (mg := mg) (base := base) D_row_text C_check_row C_text_ofT
  have C_line_text := ok_line_text (P := P) (w := w) (mg := mg) (base := base) D_line_text C_check_line m_len c_NO_SHELVES
  have C__check_text := ok__check_text (P := P) (w := w) (mg := mg) (base := base) D__check_text m_isinstance m_str
  have C__check_textR := ok__check_textR (P := P) (w := w) (mg := mg) (base := base) D__check_text m_isinstance m_str x_NoText
  have C__are_digits := ok__are_digits (P := P) (w := w) (mg := mg) (base := base) D__are_digits m_all c_DIGITS
  have C__read_number := ok__read_number (P := P) (w := w) (mg := mg) (base := base) D__read_number C__are_digits m_int
  have C__read_numberR := ok__read_numberR (P := P) (w := w) (mg := mg) (base := base) D__read_number C__are_digits x_NoText
  have C__read_part := ok__read_part (P := P) (w := w) (mg := mg) (base := base) D__read_part C__read_number c_MARK
  have C__read_partR := ok__read_partR (P := P) (w := w) (mg := mg) (base := base) D__read_part C__read_numberR c_MARK
  have C__read_partO := ok__read_partO (P := P) (w := w) (mg := mg) (base := base) C__read_part C__read_partR
  have C__read_shelf := ok__read_shelf (P := P) (w := w) (mg := mg) (base := base) D__read_shelf C__read_number m_len
  have C__read_shelfR1 := ok__read_shelfR1 (P := P) (w := w) (mg := mg) (base := base) D__read_shelf m_len x_NoText
  have C__read_shelfR2 := ok__read_shelfR2 (P := P) (w := w) (mg := mg) (base := base) D__read_shelf C__read_numberR m_len
  have C__read_shelfO := ok__read_shelfO (P := P) (w := w) (mg := mg) (base := base) C__read_shelf C__read_shelfR1 C__read_shelfR2
  have C_read_row := ok_read_row (P := P) (w := w) (mg := mg) (base := base) D_read_row C__check_text C__read_part C_is_rowO m_tuple c_EMPTY_ROW
  have C_read_rowA := ok_read_rowA (P := P) (w := w) (mg := mg) (base := base) D_read_row C__check_textR
  have C_read_rowB := ok_read_rowB (P := P) (w := w) (mg := mg) (base := base) D_read_row C__check_text C__read_partO m_tuple c_EMPTY_ROW
  have C_read_rowC := ok_read_rowC (P := P) (w := w) (mg := mg) (base := base) D_read_row C__check_text C__read_part C_is_rowO m_tuple c_EMPTY_ROW x_NoText
  have C_read_line := ok_read_line (P := P) (w := w) (mg := mg) (base := base) D_read_line C__check_text C__read_shelf C_is_lineO m_tuple c_NO_SHELVES
  have C_read_lineA := ok_read_lineA (P := P) (w := w) (mg := mg) (base := base) D_read_line C__check_textR
  have C_read_lineB := ok_read_lineB (P := P) (w := w) (mg := mg) (base := base) D_read_line C__check_text C__read_shelfO m_tuple c_NO_SHELVES
  have C_read_lineC := ok_read_lineC (P := P) (w := w) (mg := mg) (base := base) D_read_line C__check_text C__read_shelf C_is_lineO m_tuple c_NO_SHELVES x_NoText
  have C__law_number := ok__law_number (P := P) (w := w) (mg := mg) (base := base) D__law_number m_int m_str
  have C__law_parse := ok__law_parse (P := P) (w := w) (mg := mg) (base := base) D__law_parse C__law_number m_tuple
  have C__law_ask := ok__law_ask (P := P) (w := w) (mg := mg) (base := base) D__law_ask C_read_line C_read_lineA C_read_lineB C_read_lineC C_read_row C_read_rowA C_read_rowB C_read_rowC g_ShelfError W_which w_g w_k w_b w_eNoText w_iNoText
  have C__law_cell_at := ok__law_cell_at (P := P) (w := w) (mg := mg) (base := base) D__law_cell_at m_len m_min m_range
  have C__law_mixed := ok__law_mixed (P := P) (w := w) (mg := mg) (base := base) D__law_mixed C__law_cell_at
  have C__law_draw := ok__law_draw (P := P) (w := w) (mg := mg) (base := base) D__law_draw C__law_mixed m_len
  have C__law_pick := ok__law_pick (P := P) (w := w) (mg := mg) (base := base) D__law_pick C__law_draw m_len
  have C__law_some_plain := ok__law_some_plain (P := P) (w := w) (mg := mg) (base := base) D__law_some_plain C__law_draw C__law_pick m_len m_min m_range m_tuple
  have C__law_some_row := ok__law_some_row (P := P) (w := w) (mg := mg) (base := base) D__law_some_row C__law_draw C__law_some_plain m_len m_list m_range m_tuple
  have C__law_some_shelf := ok__law_some_shelf (P := P) (w := w) (mg := mg) (base := base) D__law_some_shelf C__law_draw C__law_pick
  have C_law := ok_law (P := P) (w := w) (mg := mg) (base := base) D_law C__law_ask C__law_draw C__law_parse C__law_pick C__law_some_row C__law_some_shelf C_is_lineO C_is_rowO C_line_text C_row_text m_enumerate m_len m_range m_str m_tuple
  exact C_law.G
end Sh
set_option maxHeartbeats 0 in
theorem PySem.Challenge.cw_shelfrows_k09_whole_texts_holds : PySem.Challenge.rw_shelfrows_k09_whole_texts.Holds := by
  refine Sh.endL fun {w} {K} {h} {mg} {f} KX G hmg c => ?_
  obtain ⟨fd, hb, hF⟩ := Sh.factsL (P := (PySem.Challenge.rw_shelfrows_k09_whole_texts).prog) (w := w) KX G hmg c
  exact ⟨fd, _, hb, fun H a ns hl hS => Ld.law_sp hl hS, hF⟩
