import PyProof.Rows.All
import Wide.All
import OpenK.AllK
import Wide.FinOn
import PyProof.EqAt
import PyProof.EqKinds
import PyProof.TupleCall
import HandS.Base
import HandS.Call
import HandS.List
import HandS.TupAny
import HandS.Strs
import HandS.Conv
import KE.GoesMore
import PyProof.EnumMake
import HandS.Iter
import HandS.Zip
import HandS.SortInts
import HandS.SortKw
import HandS.Comp
import HandS.Ends
import HandS.Dict
import HandS.Text
import HandS.Walk
import HandS.Words
import HandS.WordsList
import HandS.TupMul
import HandS.Style
import HandS.IsInst
import HandS.More
import HandS.SetFor
import HandS.Wide
import KE.KIndexOf
import KE.DatumOrd
import HandS.Defaults
import KE.KDictZip
import HandS.Star
import KE.SortData
import KE.DataMinMax
import PyProof.P3Eq
import HandS.Flow
import HandS.HeadHook1
import HandS.HeadHook2
import HandS.ExcIs
import HandS.Exc
import HandS.ExcOwn
import HandS.ExcCtx
import HandS.Hot
import HandS.HotCalls
import HandS.FStr
import HandS.Deep
import HandS.CallSlots
import KE.KStateDown
import HandS.WordsExc
import HandS.Head0
import HandS.Head1
import HandS.Head2
import HandS.HeadEnd
import PySem.Challenge.RW_shelfrows_k22_blocks_refused
set_option Elab.async false
set_option linter.all false
set_option maxRecDepth 100000
set_option Elab.async false
set_option linter.all false
set_option maxRecDepth 100000
namespace He
open PySem PySem.Spec PyProof.Rows L2
/-! further facts of the written part -/
def obsX (fa : List Fa) (fn : List DefD) (ex : List (PySem.W.Frag → Bool)) (K : PySem.W.Frag) : AlD := ((obsD fa fn K).1 && ex.all fun e => e K, (obsD fa fn K).2)
def SaysX (fa : List Fa) (fn : List DefD) (ex : List (PySem.W.Frag → Bool)) (K : PySem.W.Frag) : Prop := obsX fa fn ex K = valD fn
def obsXG (n : Nat) (fa : List Fa) (fn : List DefD) (ex : List (PySem.W.Frag → Bool)) (g : Addr → Option Obj) : AlD := obsX fa fn ex (frG g (asD g n))
def hookX (n : Nat) (fa : List Fa) (fn : List DefD) (ex : List (PySem.W.Frag → Bool)) : PySem.W.Hook where
  α := AlD
  obs := fun s => obsXG n fa fn ex s.heap.get?
  val := fun _ => valD fn
  says := fun _ h => ∃ K : PySem.W.Frag, K.In h ∧ SaysX fa fn ex K
  of := fun _ _ e => ⟨_, frG_in, e⟩
  keeps := fun _ _ _ ⟨K, hK, c⟩ k => ⟨K, PySem.W.Frag.In.keeps hK k, c⟩
theorem obsXG_eq {n : Nat} {fa : List Fa} {fn : List DefD} {ex : List (PySem.W.Frag → Bool)} {g : Addr → Option Obj} {s : Shared} (h : ∀ a, g a = s.heap.get? a) : obsXG n fa fn ex g = (hookX n fa fn ex).obs s := by
  have e : g = s.heap.get? := funext h
  rw [e] <;> rfl
section
variable {fa : List Fa} {fn : List DefD} {ex : List (PySem.W.Frag → Bool)} {K : PySem.W.Frag}
theorem SaysX.d (c : SaysX fa fn ex K) : SaysD fa fn K := by
  have c1 : ((obsD fa fn K).1 && ex.all fun e => e K) = true := congrArg (fun z : AlD => z.1) c
  have c2 : (obsD fa fn K).2 = fn.map DefD.val := congrArg (fun z : AlD => z.2) c
  have c3 : (obsD fa fn K).1 = true := (ba c1).1
  show obsD fa fn K = (true, fn.map DefD.val)
  rw [← c3, ← c2]
theorem SaysX.x (c : SaysX fa fn ex K) (i : Nat) {e : PySem.W.Frag → Bool} (h : ex[i]? = some e := by rfl) : e K = true := by
  have c1 : ((obsD fa fn K).1 && ex.all fun e => e K) = true := congrArg (fun z : AlD => z.1) c
  exact List.all_eq_true.mp (ba c1).2 e (List.mem_of_getElem? h)
end
/-- what isinstance asks of an error's class -/
def xcB (x : Str) (K : PySem.W.Frag) : Bool :=
  eqO (PySem.W.findIn K (.ref (ga K x)) "__getattribute__") (some (some (.builtin "BaseException.__getattribute__"))) && (eqO (PySem.W.findIn K (.ref (ga K x)) "__getattr__") (some none) && (decide (PySem.W.subIn K (.ref (ga K x)) (.type "BaseException") = some true) &&
    (PySem.W.hasDictIn K (ga K x) && (eqO (PySem.W.findIn K (.ref (ga K x)) "__class__") (some (some (.builtin "object.__class__"))) && (eqO (PySem.W.specialIn K (.builtin "object.__class__") "__get__") (some (some (.builtin "getset_descriptor.__get__"))) &&
      (decide (PySem.W.takesIn K (.builtin "object.__class__") = some true) && decide (PySem.W.mroIn K (ga K x) (.type "object") = some true)))))))
def ktB (x y : Str) (b : Bool) (K : PySem.W.Frag) : Bool := decide (PySem.W.kitOne K (.ref (ga K x)) (.ref (ga K y)) = some b)
def kvB (x : Str) (K : PySem.W.Frag) : Bool := decide (PySem.W.kitOne K (.ref (ga K x)) (.type "ValueError") = some true)
/-- all of it, for the class x, the n-th of ys -/
def klB (x : Str) (n : Nat) (ys : List Str) (K : PySem.W.Frag) : Bool := xcB x K && (kvB x K && (ys.zipIdx.all fun p => ktB x p.1 (decide ((p.2 : Int) = n)) K))
end He
namespace Sh
open PySem PySem.Spec PyProof.Rows L2
def topS (i : Nat) : Stmt := PySem.Challenge.pw_shelfrows_k22_blocks_refused.main.body.getD i (.Pass ⟨0, 0, 0, 0⟩)
abbrev s_is_whole : Stmt := topS 15
theorem sc_is_whole : FnScope ["thing"] ["thing"] (defScope s_is_whole) := ⟨rfl, rfl, rfl, by decide +kernel, rfl, by decide +kernel, by decide +kernel⟩
abbrev s_is_whole_within : Stmt := topS 16
theorem sc_is_whole_within : FnScope ["thing", "least", "most"] ["thing", "least", "most"] (defScope s_is_whole_within) := ⟨rfl, rfl, rfl, by decide +kernel, rfl, by decide +kernel, by decide +kernel⟩
abbrev s__numbers_of : Stmt := topS 23
theorem sc__numbers_of : FnScope ["things", "thing"] ["things"] (defScope s__numbers_of) := ⟨rfl, rfl, rfl, by decide +kernel, rfl, by decide +kernel, by decide +kernel⟩
abbrev s_is_row : Stmt := topS 19
theorem sc_is_row : FnScope ["thing", "numbers", "number"] ["thing"] (defScope s_is_row) := ⟨rfl, rfl, rfl, by decide +kernel, rfl, by decide +kernel, by decide +kernel⟩
abbrev s_check_row : Stmt := topS 20
theorem sc_check_row : FnScope ["row"] ["row"] (defScope s_check_row) := ⟨rfl, rfl, rfl, by decide +kernel, rfl, by decide +kernel, by decide +kernel⟩
abbrev s_check_unmarked : Stmt := topS 21
theorem sc_check_unmarked : FnScope ["row"] ["row"] (defScope s_check_unmarked) := ⟨rfl, rfl, rfl, by decide +kernel, rfl, by decide +kernel, by decide +kernel⟩
abbrev s__greater_ahead : Stmt := topS 24
theorem sc__greater_ahead : FnScope ["numbers", "place", "number", "other"] ["numbers"] (defScope s__greater_ahead) := ⟨rfl, rfl, rfl, by decide +kernel, rfl, by decide +kernel, by decide +kernel⟩
abbrev s_counts : Stmt := topS 22
theorem sc_counts : FnScope ["row"] ["row"] (defScope s_counts) := ⟨rfl, rfl, rfl, by decide +kernel, rfl, by decide +kernel, by decide +kernel⟩
abbrev s__none_greater_ahead : Stmt := topS 36
theorem sc__none_greater_ahead : FnScope ["row", "place", "ahead", "behind"] ["row", "place"] (defScope s__none_greater_ahead) := ⟨rfl, rfl, rfl, by decide +kernel, rfl, by decide +kernel, by decide +kernel⟩
abbrev s_may_mark : Stmt := topS 31
theorem sc_may_mark : FnScope ["row", "place"] ["row"] (defScope s_may_mark) := ⟨rfl, rfl, rfl, by decide +kernel, rfl, by decide +kernel, by decide +kernel⟩
abbrev s_blocks : Stmt := topS 32
theorem sc_blocks : FnScope ["row", "ends", "start", "end"] ["row"] (defScope s_blocks) := ⟨rfl, rfl, rfl, by decide +kernel, rfl, by decide +kernel, by decide +kernel⟩
abbrev s_off : Stmt := topS 33
theorem sc_off : FnScope ["row"] ["row"] (defScope s_off) := ⟨rfl, rfl, rfl, by decide +kernel, rfl, by decide +kernel, by decide +kernel⟩
abbrev s_opposite : Stmt := topS 34
theorem sc_opposite : FnScope ["row", "part"] ["row"] (defScope s_opposite) := ⟨rfl, rfl, rfl, by decide +kernel, rfl, by decide +kernel, by decide +kernel⟩
abbrev s_check_places : Stmt := topS 27
theorem sc_check_places : FnScope ["places", "least"] ["places", "least"] (defScope s_check_places) := ⟨rfl, rfl, rfl, by decide +kernel, rfl, by decide +kernel, by decide +kernel⟩
abbrev s_sorted_by : Stmt := topS 29
theorem sc_sorted_by : FnScope ["many", "places", "rows", "rank"] ["many", "places"] (defScope s_sorted_by) := ⟨rfl, rfl, rfl, by decide +kernel, rfl, by decide +kernel, by decide +kernel⟩
abbrev s_need_just : Stmt := topS 35
theorem sc_need_just : FnScope ["many", "places", "as_many"] ["many", "places"] (defScope s_need_just) := ⟨rfl, rfl, rfl, by decide +kernel, rfl, by decide +kernel, by decide +kernel⟩
abbrev s__law_ask : Stmt := topS 42
theorem sc__law_ask : FnScope ["_law_what", "_law_one", "_law_two", "_law_e"] ["_law_what", "_law_one", "_law_two"] (defScope s__law_ask) := ⟨rfl, rfl, rfl, by decide +kernel, rfl, by decide +kernel, by decide +kernel⟩
abbrev s__law_cell_at : Stmt := topS 38
theorem sc__law_cell_at : FnScope ["_law_script", "_law_k", "_law_spare", "_law_again"] ["_law_script", "_law_k"] (defScope s__law_cell_at) := ⟨rfl, rfl, rfl, by decide +kernel, rfl, by decide +kernel, by decide +kernel⟩
abbrev s__law_mixed : Stmt := topS 39
theorem sc__law_mixed : FnScope ["_law_script", "_law_k", "_law_bound", "_law_spun"] ["_law_script", "_law_k", "_law_bound"] (defScope s__law_mixed) := ⟨rfl, rfl, rfl, by decide +kernel, rfl, by decide +kernel, by decide +kernel⟩
abbrev s__law_draw : Stmt := topS 40
theorem sc__law_draw : FnScope ["_law_script", "_law_town", "_law_bound"] ["_law_script", "_law_town", "_law_bound"] (defScope s__law_draw) := ⟨rfl, rfl, rfl, by decide +kernel, rfl, by decide +kernel, by decide +kernel⟩
abbrev s_law : Stmt := topS 43
theorem sc_law : FnScope ["_law_script", "_law_town", "_law_odd", "_law_off_one", "_law_marked", "_law_many", "_law_some", "_law_what"] ["_law_script"] (defScope s_law) := ⟨rfl, rfl, rfl, by decide +kernel, rfl, by decide +kernel, by decide +kernel⟩
abbrev s__law_which : Stmt := topS 41
theorem sc__law_which : FnScope ["_law_e", "_law_own"] ["_law_e"] (defScope s__law_which) := ⟨rfl, rfl, rfl, by decide +kernel, rfl, by decide +kernel, by decide +kernel⟩
/-! ### the head -/
def d_is_whole : He.DefD := ⟨("is_whole", none), "is_whole", "is_whole", defArgs s_is_whole, defBody s_is_whole, defScope s_is_whole, [], []⟩
def d_is_whole_within : He.DefD := ⟨("is_whole_within", none), "is_whole_within", "is_whole_within", defArgs s_is_whole_within, defBody s_is_whole_within, defScope s_is_whole_within, [], []⟩
def d__numbers_of : He.DefD := ⟨("_numbers_of", none), "_numbers_of", "_numbers_of", defArgs s__numbers_of, defBody s__numbers_of, defScope s__numbers_of, [], []⟩
def d_is_row : He.DefD := ⟨("is_row", none), "is_row", "is_row", defArgs s_is_row, defBody s_is_row, defScope s_is_row, [], []⟩
def d_check_row : He.DefD := ⟨("check_row", none), "check_row", "check_row", defArgs s_check_row, defBody s_check_row, defScope s_check_row, [], []⟩
def d_check_unmarked : He.DefD := ⟨("check_unmarked", none), "check_unmarked", "check_unmarked", defArgs s_check_unmarked, defBody s_check_unmarked, defScope s_check_unmarked, [], []⟩
def d__greater_ahead : He.DefD := ⟨("_greater_ahead", none), "_greater_ahead", "_greater_ahead", defArgs s__greater_ahead, defBody s__greater_ahead, defScope s__greater_ahead, [], []⟩
def d_counts : He.DefD := ⟨("counts", none), "counts", "counts", defArgs s_counts, defBody s_counts, defScope s_counts, [], []⟩
def d__none_greater_ahead : He.DefD := ⟨("_none_greater_ahead", none), "_none_greater_ahead", "_none_greater_ahead", defArgs s__none_greater_ahead, defBody s__none_greater_ahead, defScope s__none_greater_ahead, [], []⟩
def d_may_mark : He.DefD := ⟨("may_mark", none), "may_mark", "may_mark", defArgs s_may_mark, defBody s_may_mark, defScope s_may_mark, [], []⟩
def d_blocks : He.DefD := ⟨("blocks", none), "blocks", "blocks", defArgs s_blocks, defBody s_blocks, defScope s_blocks, [], []⟩
def d_off : He.DefD := ⟨("off", none), "off", "off", defArgs s_off, defBody s_off, defScope s_off, [], []⟩
def d_opposite : He.DefD := ⟨("opposite", none), "opposite", "opposite", defArgs s_opposite, defBody s_opposite, defScope s_opposite, [], []⟩
def d_check_places : He.DefD := ⟨("check_places", none), "check_places", "check_places", defArgs s_check_places, defBody s_check_places, defScope s_check_places, [.int 0], []⟩
def d_sorted_by : He.DefD := ⟨("sorted_by", none), "sorted_by", "sorted_by", defArgs s_sorted_by, defBody s_sorted_by, defScope s_sorted_by, [], []⟩
def d_need_just : He.DefD := ⟨("need_just", none), "need_just", "need_just", defArgs s_need_just, defBody s_need_just, defScope s_need_just, [], []⟩
def d__law_ask : He.DefD := ⟨("_law_ask", none), "_law_ask", "_law_ask", defArgs s__law_ask, defBody s__law_ask, defScope s__law_ask, [], []⟩
def d__law_cell_at : He.DefD := ⟨("_law_cell_at", none), "_law_cell_at", "_law_cell_at", defArgs s__law_cell_at, defBody s__law_cell_at, defScope s__law_cell_at, [], []⟩
def d__law_mixed : He.DefD := ⟨("_law_mixed", none), "_law_mixed", "_law_mixed", defArgs s__law_mixed, defBody s__law_mixed, defScope s__law_mixed, [], []⟩
def d__law_draw : He.DefD := ⟨("_law_draw", none), "_law_draw", "_law_draw", defArgs s__law_draw, defBody s__law_draw, defScope s__law_draw, [], []⟩
def d_law : He.DefD := ⟨("law", none), "law", "law", defArgs s_law, defBody s_law, defScope s_law, [], []⟩
def d__law_which : He.DefD := ⟨("_law_which", none), "_law_which", "_law_which", defArgs s__law_which, defBody s__law_which, defScope s__law_which, [], []⟩
def fnL : List He.DefD := [d_is_whole, d_is_whole_within, d__numbers_of, d_is_row, d_check_row, d_check_unmarked, d__greater_ahead, d_counts, d__none_greater_ahead, d_may_mark, d_blocks, d_off, d_opposite, d_check_places, d_sorted_by, d_need_just, d__law_ask, d__law_cell_at, d__law_mixed, d__law_draw, d_law, d__law_which]
abbrev exL : List (PySem.W.Frag → Bool) := [He.klB "NoRow" 0 ["NoRow", "NoShelf", "NoLine", "NoPlaces", "Marked", "NoCounts", "NoLetting", "TooMany", "NoMove", "NoText", "NoNumber", "Nothing"], He.klB "Marked" 4 ["NoRow", "NoShelf", "NoLine", "NoPlaces", "Marked", "NoCounts", "NoLetting", "TooMany", "NoMove", "NoText", "NoNumber", "Nothing"], He.klB "TooMany" 7 ["NoRow", "NoShelf", "NoLine", "NoPlaces", "Marked", "NoCounts", "NoLetting", "TooMany", "NoMove", "NoText", "NoNumber", "Nothing"], He.klB "NoPlaces" 3 ["NoRow", "NoShelf", "NoLine", "NoPlaces", "Marked", "NoCounts", "NoLetting", "TooMany", "NoMove", "NoText", "NoNumber", "Nothing"]]
def faL : List He.Fa := [.glo "is_whole", .glo "is_whole_within", .glo "_numbers_of", .glo "is_row", .glo "check_row", .glo "check_unmarked", .glo "_greater_ahead", .glo "counts", .glo "_none_greater_ahead", .glo "may_mark", .glo "blocks", .glo "off", .glo "opposite", .glo "check_places", .glo "sorted_by", .glo "need_just", .glo "_law_ask", .glo "_law_cell_at", .glo "_law_mixed", .glo "_law_draw", .glo "law", .glo "_law_which", .free "ValueError", .free "all", .free "bool", .free "enumerate", .free "int", .free "isinstance", .free "len", .free "list", .free "max", .free "min", .free "range", .free "set", .free "sum", .free "tuple", .free "zip", .int "MOST_PLACES" 9, .int "MOST_THINGS" 24, .glo "NoRow", .glo "NoShelf", .glo "NoLine", .glo "NoPlaces", .glo "Marked", .glo "NoCounts", .glo "NoLetting", .glo "TooMany", .glo "NoMove", .glo "NoText", .glo "NoNumber", .glo "Nothing", .glo "ShelfError", .exc "NoRow", .exc "Marked", .exc "TooMany", .exc "NoPlaces", .exm "NoRow" "ShelfError" true, .exm "Marked" "ShelfError" true, .exm "TooMany" "ShelfError" true, .exm "NoPlaces" "ShelfError" true]
abbrev RR : PySem.W.OpenRow := PySem.W.OpenLaw.row PySem.Challenge.rw_shelfrows_k22_blocks_refused
abbrev hkL : PySem.W.Hook := He.hookX 4 faL fnL exL
def obL (s : PySem.W.SharedT) : He.AlD := He.obsXG 4 faL fnL exL (HandSHeadRun.getT s)
theorem obL_eq (s : PySem.W.SharedT) : obL s = hkL.obs s.abs := He.obsXG_eq (HandSHeadRun.getT_eq s)
def lo0 : List PySem.Str := ["__name__", "ShelfError", "NoRow", "NoShelf", "NoLine", "NoPlaces", "Marked", "NoCounts", "NoLetting", "TooMany", "NoMove", "NoText", "NoNumber", "Nothing", "is_whole", "is_whole_within", "MOST_THINGS", "is_row", "check_row", "check_unmarked", "counts", "_numbers_of", "_greater_ahead", "MOST_PLACES", "check_places", "sorted_by", "may_mark", "blocks", "off", "opposite"]
def lo1 : List PySem.Str := ["need_just", "_none_greater_ahead", "_law_cell_at", "_law_mixed", "_law_draw", "_law_which", "_law_ask"]
def looseL : List PySem.Str := lo0 ++ lo1
set_option maxHeartbeats 0 in
theorem runL (w : World) : HandSHeadRun.RunEq RR (PySem.W.view RR.prog [43]) hkL obL 8000 looseL w := by
  intro os
  kernel_rfl
end Sh
section
open PySem PySem.Spec PySem.W PySem.Calls PyProof.Rows
set_option maxHeartbeats 0 in
theorem Sh.endL (F : ∀ {w : PySem.World} {K : PySem.W.Frag} {h : PySem.Heap} {mg : PySem.Str → Option PySem.Value} {f : PySem.Addr}, K.In h → h.Ns PySem.mainGlobals mg → mg ("law" : PySem.Str) = some (.ref f) → He.SaysX Sh.faL Sh.fnL Sh.exL K →
    ∃ (fd : PySem.FuncData) (sp : L2.Sp), (∀ (s : PySem.Shared) (v : PySem.Value), BindsTo s fd ⟨[v], []⟩ [("_law_script", v)]) ∧ (∀ (H : L2.Hp) (a : PySem.Addr) (ns : List Int), ns.length ≤ 63 → L2.SqL K H a (ns.map L2.V.int) → sp [.ref a] H (fun v _ => v = .bl true) fun _ _ _ => False) ∧
      ∀ base : PySem.Heap, K.In base → base.Ns PySem.mainGlobals mg → L2.FnOk (PySem.Challenge.rw_shelfrows_k22_blocks_refused).prog w K mg base L2.CX0 8 f fd ["_law_script"] sp) : PySem.Challenge.rw_shelfrows_k22_blocks_refused.Holds := by
  w_on; o_law
  refine HandSHeadRun.head_any (r := OpenLaw.row PySem.Challenge.rw_shelfrows_k22_blocks_refused) (q := view (OpenLaw.row PySem.Challenge.rw_shelfrows_k22_blocks_refused).prog [43]) (H := Sh.hkL) (ob := Sh.obL) (M := 8000) (loose := Sh.looseL) (d := HandSHeadRun.topDef (OpenLaw.row PySem.Challenge.rw_shelfrows_k22_blocks_refused).prog 43) (kwd := []) Sh.obL_eq
    (by kernel_rfl) (fun s => by kernel_rfl) Sh.runL (by kernel_rfl) (by kernel_rfl) (by kernel_rfl) (by rfl) (by first | assumption | decide +kernel) (by decide +kernel) ⟨rfl, rfl, rfl, rfl, rfl, by decide +kernel⟩ ?hw ?hc
  case hw => w_witness2
  case hc =>
    refine L2.walk_ofE (l := PySem.Challenge.rw_shelfrows_k22_blocks_refused) (n := 63) (k := 8) (x := "_law_script") (CX := L2.CX0) rfl (by decide) (by kernel_rfl) ⟨rfl, by decide, by decide⟩ ?F (fun _ _ _ _ z => z)
    intro w mg fa h Y G hmg0
    obtain ⟨K, KX, c⟩ := Y
    have hmg : mg ("law" : PySem.Str) = some (.ref fa) := by
      have e : (HandSHeadRun.topDef (OpenLaw.row PySem.Challenge.rw_shelfrows_k22_blocks_refused).prog 43).name = ("law" : PySem.Str) := by kernel_rfl
      rw [← e]
      exact hmg0
    obtain ⟨fd, sp, hb, hs, hF⟩ := F KX G hmg c
    exact ⟨K, fd, sp, KX, hb, fun H a ns hl _ hS => hs H a ns hl hS, hF⟩
end
set_option Elab.async false
set_option linter.all false
set_option maxRecDepth 100000
/-! tuples that are known as the objects they are (no dict of their own): made by displays, tuple(..), slices, + -/
namespace Lx
open PySem PySem.Spec PyProof.Rows L2
abbrev tupO (its : List Value) : Obj := { cls := .type "tuple", data := .seq its.toArray }
/-- a new tuple: locked as its own object -/
def NewT (H : Hp) (xs : List V) (Q : VK) : Prop := ∀ p o, o.dict = none → H p = none → Q (.ref p) (upd H p (.frz o (.tup xs)))
section
variable {X : Cx} {pins : List (Addr × Obj)} {σ : L2.St} {H : Hp} {s : Shared}
theorem newT_at {xs : List V} {its : List Value} {Q : VK} {tk : Nat} (I : Inv X pins σ H s) (hz : xs.length ≤ sizeLine) (r : Vals xs its) (q : NewT H xs Q) :
    EP X pins σ Q (.ref s.heap.objs.size) { s with heap := s.heap.push { cls := .type "tuple", data := .seq its.toArray }, toks := tk } :=
  ⟨.ref s.heap.objs.size, _, I.laid (t' := tk) (o := .frz (tupO its) (.tup xs)) (fun b ob q => Heap.get?_push_of_some _ q) (Nat.le_refl _) ⟨Heap.get?_push_size _ rfl, hz, its, r, IsTup.new _ _⟩, rfl, q _ _ rfl (I.hok.fresh (Nat.le_refl _))⟩
end
section
variable {X : Cx} {es : List Expr} {t : TA} {pos : Pos}
def tTupF (t : TA) : TE := fun σ H Q => t σ H fun xs H1 => xs.length ≤ sizeLine ∧ NewT H1 xs Q
theorem pe_tupF {x1} (h : PA X es t) : PE X (.Tuple es x1 pos) (tTupF t) := by
  refine ⟨fun pins s σ H Q I hq => ?_⟩
  refine wpAny_Tuple_spliced (thn (h.run pos pins s σ H _ I hq) fun us s1 ⟨xs, H1, I1, r, z, q⟩ => ⟨by rw [← r.length]; exact z, ?_⟩)
  exact newT_at (tk := s1.toks) I1 z r q
def rTupOfF (K : PySem.W.Frag) : List V → Hp → VK → Prop := fun xs H Q => ∃ p ys, xs = [.ref p] ∧ ((SqL K H p ys ∧ NewT H ys Q) ∨ (SqT K H p ys ∧ Q (.ref p) H))
theorem cl_tupleF : CallR X (.type "tuple") (rTupOfF X.K) := by
  intro pins s σ H xs us Q I r h
  obtain ⟨p, ys, rfl, h⟩ := h
  obtain ⟨u, rfl, rx⟩ := vals1 r
  cases rx
  rcases h with ⟨hq, q⟩ | ⟨hq, q⟩
  · obtain ⟨its, r', pl, hz⟩ := I.list hq
    have hlen := r'.length
    refine call_tuple_list pl.isList (fun h' kp => ?_) (by simp only [List.size_toArray] <;> omega)
    have I1 : Inv X pins σ H { s with heap := h' } := I.kept (t' := s.toks) kp
    exact newT_at (tk := s.toks) I1 hz r' q
  · obtain ⟨its, r', pl, hz⟩ := I.tuple hq
    exact call_tuple_same pl ⟨.ref p, H, I, rfl, q⟩
def rSlF (K : PySem.W.Frag) : V → Option Int → Option Int → Hp → VK → Prop := fun x lo hi H Q => ∃ a xs, x = .ref a ∧ SqT K H a xs ∧
  (HT.sIx xs.length 0 lo = 0 ∧ HT.sIx xs.length xs.length hi = xs.length → Q (.ref a) H) ∧ (¬ (HT.sIx xs.length 0 lo = 0 ∧ HT.sIx xs.length xs.length hi = xs.length) → NewT H (cutV xs lo hi) Q)
theorem sl_tupF : SlR X (rSlF X.K) := by
  intro pins s σ H x v vl vu lo hi sl Q I rx hs pl pu h
  obtain ⟨a, xs, rfl, hx, q1, q2⟩ := h
  cases rx
  obtain ⟨its, r, ht, hz⟩ := I.tuple hx
  have hlen : its.toArray.size = xs.length := by rw [List.size_toArray]; exact r.length.symm
  refine ⟨"tuple", _, PyProof.Rows.slot_tuple_getitem.lookup, ht.typeIs, ?_⟩
  by_cases hw : HT.sIx xs.length 0 lo = 0 ∧ HT.sIx xs.length xs.length hi = xs.length
  · exact getItem_tuple_whole ht hs pl pu (by rw [hlen]; exact hw) ⟨.ref a, H, I, rfl, q1 hw⟩
  · refine HT.getItem_tuple_cut ht hs pl pu (by rw [hlen]; exact hw) ?_ (by rw [hlen]; exact hz)
    rw [hlen]
    exact newT_at (its := (its.drop (HT.sIx xs.length 0 lo)).take (HT.sIx xs.length xs.length hi - HT.sIx xs.length 0 lo)) (tk := s.toks) I (Nat.le_trans (cutV_length xs lo hi) hz) ((r.drop (HT.sIx xs.length 0 lo)).take (HT.sIx xs.length xs.length hi - HT.sIx xs.length 0 lo)) (q2 hw)
end
/-! ### t.index(x), flat items -/
section
variable {X : Cx}
def rTIndex : V → V → Hp → VK → Prop := fun x y H Q => ∃ (a : Addr) (o : Obj) (ys : List V) (j : Nat) (z : V), x = .ref a ∧ o.dict = none ∧ H a = some (.frz o (.tup ys)) ∧ flatV y = true ∧ ys.all flatV = true ∧ ys[j]? = some z ∧ eqV z y = true ∧
  (∀ (m : Nat) (z' : V), m < j → ys[m]? = some z' → eqV z' y = false) ∧ Q (.int (j : Nat)) H
def tTIdx (ta tb : TE) : TE := fun σ H Q => ta σ H fun x H1 => (∃ a o ys, x = .ref a ∧ o.dict = none ∧ H1 a = some (.frz o (.tup ys))) ∧ tb σ H1 fun y H2 => ∃ z, [y] = [z] ∧ rTIndex x z H2 Q
end
end Lx
set_option Elab.async false
set_option linter.all false
set_option maxRecDepth 100000
set_option maxHeartbeats 1000000
/-! zip of two iterators of any kind -/
namespace Lx
open PySem
open PySem.Sem (wp)
end Lx
namespace Lx
open PySem PySem.Spec PyProof.Rows
open PySem.Sem (wp)
end Lx
set_option Elab.async false
set_option linter.all false
set_option maxRecDepth 100000
/-! values as data over the hand layer: cells, temporaries, the states that bear them -/
namespace Ld
open PySem PySem.Spec PyProof.Rows L2 Lx
abbrev Dat := PyData
/-- a resource at an address: what must hold of its places, which are its own -/
structure Res where
  lent : Bool
  holds : Hp → Hp → Addr → (Addr → Prop) → Prop
  dom : ∀ {B H a F x}, holds B H a F → F x → H x ≠ none
  frame : ∀ {B B' H H' a F}, holds B H a F → Same B B' → (∀ x, F x → H' x = H x) → holds B' H' a F
/-- what a name's slot is known to hold: nothing known | data that never changes | a list of this def's own | a list that a caller lent -/
inductive Cell where
  | no | dt (d : Dat) | ow (ds : List Dat) | ln (ds : List Dat) | sc (ns : List Int) | ob (p : HO) | li (R : Res)
/-- a value under way: data | a new list | what slot i holds -/
inductive Tmp where
  | dt (d : Dat) | fr (ds : List Dat) | br (i : Nat) | sc (ns : List Int) | ob (p : HO) | li (R : Res)
structure Hs where
  b : Hp
  h : Hp
structure Gr (L : Addr → Prop) (S S' : Hs) : Prop where
  b : Same S.b S'.b
  h : ∀ a o, ¬ L a → S.h a = some o → S'.h a = some o
  own : ∀ a, S.b a = none → S.h a ≠ none → S'.b a = none
  dom : ∀ a, S.h a ≠ none → S'.h a ≠ none
abbrev L0 : Addr → Prop := fun _ => False
theorem Gr.refl (L : Addr → Prop) (S : Hs) : Gr L S S := ⟨Same.refl _, fun _ _ _ h => h, fun _ h _ => h, fun _ h => h⟩
theorem Gr.trans {L L' : Addr → Prop} {A B C : Hs} (x : Gr L A B) (y : Gr L' B C) (hl : ∀ a, L' a → L a ∨ A.h a = none) : Gr L A C :=
  ⟨x.b.trans y.b, fun a o n e => y.h a o (fun z => (hl a z).elim n fun q => by rw [q] at e; cases e) (x.h a o n e), fun a e n => y.own a (x.own a e n) (x.dom a n), fun a n => y.dom a (x.dom a n)⟩
theorem Gr.trans0 {L : Addr → Prop} {A B C : Hs} (x : Gr L A B) (y : Gr L0 B C) : Gr L A C := x.trans y fun _ z => z.elim
section
variable {K : PySem.W.Frag} {H H' : Hp}
mutual
/-- data as it stands in the heap: lists and tuples that are tracked -/
inductive Dq (H : Hp) : V → Dat → Prop
  | non : Dq H .non .none
  | bl (b : Bool) : Dq H (.bl b) (.bool b)
  | int (i : Int) : Dq H (.int i) (.int i)
  | str (x : Str) : Dq H (.str x) (.str x)
  | lst {a : Addr} {xs : List V} {ds : List Dat} : H a = some (.lst xs) → DqAll H xs ds → Dq H (.ref a) (.list ds)
  | tup {a : Addr} {o : Obj} {xs : List V} {ds : List Dat} : o.dict = none → H a = some (.frz o (.tup xs)) → DqAll H xs ds → Dq H (.ref a) (.tuple ds)
inductive DqAll (H : Hp) : List V → List Dat → Prop
  | nil : DqAll H [] []
  | cons {v : V} {vs : List V} {d : Dat} {ds : List Dat} : Dq H v d → DqAll H vs ds → DqAll H (v :: vs) (d :: ds)
end
mutual
theorem dp_mono (e : Same H H') : ∀ (d : Dat) (v : V), Dq H v d → Dq H' v d
  | .none, _, h => by cases h; exact .non
  | .bool b, _, h => by cases h; exact .bl b
  | .int i, _, h => by cases h; exact .int i
  | .str x, _, h => by cases h; exact .str x
  | .list ds, _, h => by
    cases h with
    | lst h1 h2 => exact .lst (e _ _ h1) (dpa_mono e ds _ h2)
  | .tuple ds, _, h => by
    cases h with
    | tup hd h1 h2 => exact .tup hd (e _ _ h1) (dpa_mono e ds _ h2)
  | .dict _, _, h => by cases h
theorem dpa_mono (e : Same H H') : ∀ (ds : List Dat) (vs : List V), DqAll H vs ds → DqAll H' vs ds
  | [], _, h => by cases h; exact .nil
  | d :: ds, _, h => by
    cases h with
    | cons h1 h2 => exact .cons (dp_mono e d _ h1) (dpa_mono e ds _ h2)
end
mutual
theorem dq_dp : ∀ (d : Dat) (v : V), Dq H v d → Dp K H v d
  | .none, _, h => by cases h; exact .non
  | .bool b, _, h => by cases h; exact .bl b
  | .int i, _, h => by cases h; exact .int i
  | .str x, _, h => by cases h; exact .str x
  | .list ds, _, h => by
    cases h with
    | lst h1 h2 => exact .lst (.inl (.inl h1)) (dqa_dpa ds _ h2)
  | .tuple ds, _, h => by
    cases h with
    | tup hd h1 h2 => exact .tup (.inl (.inr ⟨_, h1⟩)) (dqa_dpa ds _ h2)
  | .dict _, _, h => by cases h
theorem dqa_dpa : ∀ (ds : List Dat) (vs : List V), DqAll H vs ds → DpAll K H vs ds
  | [], _, h => by cases h; exact .nil
  | d :: ds, _, h => by
    cases h with
    | cons h1 h2 => exact .cons (dq_dp d _ h1) (dqa_dpa ds _ h2)
end
end
section
variable {K : PySem.W.Frag} {H H' : Hp}
theorem DqAll.len : ∀ {vs : List V} {ds : List Dat}, DqAll H vs ds → vs.length = ds.length
  | _, _, .nil => rfl
  | _, _, .cons _ h => by rw [List.length_cons, List.length_cons, DqAll.len h]
theorem DqAll.get : ∀ {vs : List V} {ds : List Dat} {i : Nat} {d : Dat}, DqAll H vs ds → ds[i]? = some d → ∃ v, vs[i]? = some v ∧ Dq H v d
  | _, _, _, _, .nil, h => by simp at h
  | _, _, 0, _, .cons h1 _, h => by cases h; exact ⟨_, rfl, h1⟩
  | _, _, i + 1, _, .cons _ h2, h => DqAll.get (i := i) h2 h
theorem DqAll.getV : ∀ {vs : List V} {ds : List Dat} {i : Nat} {v : V}, DqAll H vs ds → vs[i]? = some v → ∃ d, ds[i]? = some d ∧ Dq H v d
  | _, _, _, _, .nil, h => by simp at h
  | _, _, 0, _, .cons h1 _, h => by cases h; exact ⟨_, rfl, h1⟩
  | _, _, i + 1, _, .cons _ h2, h => DqAll.getV (i := i) h2 h
theorem DqAll.app : ∀ {vs ws : List V} {ds es : List Dat}, DqAll H vs ds → DqAll H ws es → DqAll H (vs ++ ws) (ds ++ es)
  | _, _, _, _, .nil, h => h
  | _, _, _, _, .cons h1 h2, h => .cons h1 (DqAll.app h2 h)
theorem DqAll.take : ∀ {vs : List V} {ds : List Dat} (n : Nat), DqAll H vs ds → DqAll H (vs.take n) (ds.take n)
  | _, _, 0, _ => .nil
  | _, _, _ + 1, .nil => .nil
  | _, _, n + 1, .cons h1 h2 => .cons h1 (DqAll.take n h2)
theorem DqAll.drop : ∀ {vs : List V} {ds : List Dat} (n : Nat), DqAll H vs ds → DqAll H (vs.drop n) (ds.drop n)
  | _, _, 0, h => h
  | _, _, _ + 1, .nil => .nil
  | _, _, n + 1, .cons _ h2 => DqAll.drop n h2
theorem DqAll.set {v : V} {d : Dat} (q : Dq H v d) : ∀ {vs : List V} {ds : List Dat} (n : Nat), DqAll H vs ds → DqAll H (vs.set n v) (ds.set n d)
  | _, _, _, .nil => .nil
  | _, _, 0, .cons _ h2 => .cons q h2
  | _, _, n + 1, .cons h1 h2 => .cons h1 (DqAll.set q n h2)
theorem DqAll.one {v : V} {d : Dat} (h : Dq H v d) : DqAll H [v] [d] := .cons h .nil
theorem DqAll.rev : ∀ {vs : List V} {ds : List Dat}, DqAll H vs ds → DqAll H vs.reverse ds.reverse
  | _, _, .nil => .nil
  | _, _, .cons h1 h2 => by rw [List.reverse_cons, List.reverse_cons]; exact (DqAll.rev h2).app (.one h1)
theorem DqAll.dropLast {vs : List V} {ds : List Dat} (h : DqAll H vs ds) : DqAll H vs.dropLast ds.dropLast := by
  rw [List.dropLast_eq_take, List.dropLast_eq_take, h.len]; exact h.take _
theorem DqAll.eraseIdx : ∀ {vs : List V} {ds : List Dat} (n : Nat), DqAll H vs ds → DqAll H (vs.eraseIdx n) (ds.eraseIdx n)
  | _, _, _, .nil => .nil
  | _, _, 0, .cons _ h2 => h2
  | _, _, n + 1, .cons h1 h2 => .cons h1 (DqAll.eraseIdx n h2)
end
section
variable {K : PySem.W.Frag} {H H' : Hp}
theorem dpa_ints : ∀ {ns : List Int} {vs : List V}, DqAll H vs (ns.map PyData.int) → vs = ns.map V.int
  | [], _, h => by cases h; rfl
  | n :: ns, _, h => by
    cases h with
    | cons h1 h2 => cases h1; rw [dpa_ints h2]; rfl
theorem dpa_of_ints : ∀ (ns : List Int), DqAll H (ns.map V.int) (ns.map PyData.int)
  | [] => .nil
  | n :: ns => .cons (.int n) (dpa_of_ints ns)
theorem dpa_bools : ∀ {ns : List Bool} {vs : List V}, DqAll H vs (ns.map PyData.bool) → vs = ns.map V.bl
  | [], _, h => by cases h; rfl
  | n :: ns, _, h => by
    cases h with
    | cons h1 h2 => cases h1; rw [dpa_bools h2]; rfl
/-- scalars -/
def vd : V → Dat
  | .bl b => .bool b
  | .int i => .int i
  | .str x => .str x
  | _ => .none
def sc : V → Bool
  | .non => true
  | .bl _ => true
  | .int _ => true
  | .str _ => true
  | _ => false
theorem dp_sc {v : V} (h : sc v = true) : Dq H v (vd v) := by
  cases v with
  | non => exact .non
  | bl b => exact .bl b
  | int i => exact .int i
  | str x => exact .str x
  | byt _ => cases h
  | flt _ => cases h
  | ref _ => cases h
  | ty _ => cases h
end
/-! ### a state bears the cells -/
section
variable (K : PySem.W.Frag) (L : Addr → Prop) (S0 : Hs)
abbrev Wh := Addr → Option (Sum Nat Nat)
structure Own (w : Wh) (k : Sum Nat Nat) (S : Hs) (a : Addr) (ds : List Dat) : Prop where
  nb : S.b a = none
  at_ : w a = some k
  is : ∃ vs, S.h a = some (.lst vs) ∧ DqAll S.b vs ds
structure OwnO (w : Wh) (k : Sum Nat Nat) (S : Hs) (a : Addr) (p : HO) : Prop where
  nb : S.b a = none
  at_ : w a = some k
  is : S.h a = some p
structure OwnL (w : Wh) (k : Sum Nat Nat) (S : Hs) (a : Addr) (R : Res) (N : Addr → Prop) : Prop where
  ex : ∃ F : Addr → Prop, R.holds S.b S.h a F ∧ ∀ x, F x → S.b x = none ∧ w x = some k ∧ N x
def SlotOk (w : Wh) (S : Hs) (i : Nat) (o : Option (Option V)) : Cell → Prop
  | .no => True
  | .dt d => ∃ v, o = some (some v) ∧ Dq S.b v d
  | .ow ds => ∃ a, o = some (some (.ref a)) ∧ Own w (.inl i) S a ds ∧ S0.h a = none
  | .ln ds => ∃ a, o = some (some (.ref a)) ∧ Own w (.inl i) S a ds ∧ L a
  | .sc ns => ∃ a, o = some (some (.ref a)) ∧ SqL K S.b a (ns.map V.int)
  | .ob p => ∃ a, o = some (some (.ref a)) ∧ OwnO w (.inl i) S a p ∧ S0.h a = none
  | .li R => ∃ a, o = some (some (.ref a)) ∧ OwnL w (.inl i) S a R (fun x => S0.h x = none ∨ (R.lent = true ∧ L x))
def TmpOk (w : Wh) (S : Hs) (σ : L2.St) (k : Nat) (v : V) : Tmp → Prop
  | .dt d => Dq S.b v d
  | .fr ds => ∃ a, v = .ref a ∧ Own w (.inr k) S a ds ∧ S0.h a = none
  | .br i => σ[i]? = some (some v)
  | .sc ns => ∃ a, v = .ref a ∧ SqL K S.b a (ns.map V.int)
  | .ob p => ∃ a, v = .ref a ∧ OwnO w (.inr k) S a p ∧ S0.h a = none
  | .li R => ∃ a, v = .ref a ∧ OwnL w (.inr k) S a R (fun x => S0.h x = none)
def TmpsOk (w : Wh) (S : Hs) (σ : L2.St) : List Tmp → List V → Prop
  | [], [] => True
  | t :: ts, v :: vs => TmpOk K S0 w S σ ts.length v t ∧ TmpsOk w S σ ts vs
  | _, _ => False
structure Env (Γ : List Cell) (Θ : List Tmp) (σ : L2.St) (τ : List V) (S : Hs) : Prop where
  gr : Gr L S0 S
  sub : Same S.b S.h
  len : σ.length = Γ.length
  ok : ∃ w : Wh, (∀ i c, Γ[i]? = some c → SlotOk K L S0 w S i σ[i]? c) ∧ TmpsOk K S0 w S σ Θ τ
end
section
variable {K : PySem.W.Frag} {L : Addr → Prop} {S0 S S' : Hs} {Γ : List Cell} {Θ : List Tmp} {σ : L2.St} {τ : List V} {w : Wh}
theorem Own.grow {k : Sum Nat Nat} {a : Addr} {ds : List Dat} (h : Own w k S a ds) (g : Gr L0 S S') : Own w k S' a ds := by
  obtain ⟨n, e, vs, q, p⟩ := h
  exact ⟨g.own a n (by rw [q]; exact fun z => nomatch z), e, vs, g.h a _ (fun z => z) q, dpa_mono g.b _ _ p⟩
theorem OwnO.grow {k : Sum Nat Nat} {a : Addr} {p : HO} (h : OwnO w k S a p) (g : Gr L0 S S') : OwnO w k S' a p := by
  obtain ⟨n, e, q⟩ := h
  exact ⟨g.own a n (by rw [q]; exact fun z => nomatch z), e, g.h a _ (fun z => z) q⟩
theorem OwnL.grow {k : Sum Nat Nat} {a : Addr} {R : Res} {N : Addr → Prop} (h : OwnL w k S a R N) (g : Gr L0 S S') : OwnL w k S' a R N := by
  obtain ⟨F, q, f⟩ := h
  refine ⟨F, R.frame q g.b fun x hx => ?_, fun x hx => ⟨g.own x (f x hx).1 (R.dom q hx), (f x hx).2⟩⟩
  cases e : S.h x with
  | none => exact absurd e (R.dom q hx)
  | some o => exact g.h x o (fun z => z) e
theorem OwnL.reK {k k' : Sum Nat Nat} {a : Addr} {R : Res} {N N' : Addr → Prop} {w' : Wh} (h : OwnL w k S a R N) (f : ∀ x, w x = some k → w' x = some k') (n : ∀ x, N x → N' x) : OwnL w' k' S a R N' := by
  obtain ⟨F, q, g⟩ := h
  exact ⟨F, q, fun x hx => ⟨(g x hx).1, f x (g x hx).2.1, n x (g x hx).2.2⟩⟩
theorem OwnL.reW {k k' : Sum Nat Nat} {a p : Addr} {R : Res} {N : Addr → Prop} (h : OwnL w k S a R N) (hp : S.h p = none) : OwnL (fun b => if b = p then some k' else w b) k S a R N := by
  obtain ⟨F, q, g⟩ := h
  exact ⟨F, q, fun x hx => ⟨(g x hx).1, by rw [if_neg (fun e => R.dom q hx (by rw [e]; exact hp))]; exact (g x hx).2.1, (g x hx).2.2⟩⟩
theorem TmpsOk.imp {w' : Wh} {σ' : L2.St} : ∀ {Θ : List Tmp} {τ : List V}, TmpsOk K S0 w S σ Θ τ → (∀ (k : Nat) v t, k < Θ.length → TmpOk K S0 w S σ k v t → TmpOk K S0 w' S' σ' k v t) → TmpsOk K S0 w' S' σ' Θ τ
  | [], [], _, _ => trivial
  | t :: ts, v :: vs, h, f => ⟨f _ _ _ (by simp) h.1, TmpsOk.imp h.2 fun k v t hk => f k v t (by simp; omega)⟩
  | [], _ :: _, h, _ => h.elim
  | _ :: _, [], h, _ => h.elim
theorem TmpsOk.imp' {w' : Wh} {σ' : L2.St} : ∀ {Θ : List Tmp} {τ : List V}, TmpsOk K S0 w S σ Θ τ → (∀ (k : Nat) v t, k < Θ.length → t ∈ Θ → TmpOk K S0 w S σ k v t → TmpOk K S0 w' S' σ' k v t) → TmpsOk K S0 w' S' σ' Θ τ
  | [], [], _, _ => trivial
  | t :: ts, v :: vs, h, f => ⟨f _ _ _ (by simp) (by simp) h.1, TmpsOk.imp' h.2 fun k v t hk hm => f k v t (by simp; omega) (List.mem_cons_of_mem _ hm)⟩
  | [], _ :: _, h, _ => h.elim
  | _ :: _, [], h, _ => h.elim
theorem SlotOk.grow {i : Nat} {o : Option (Option V)} {c : Cell} (h : SlotOk K L S0 w S i o c) (g : Gr L0 S S') : SlotOk K L S0 w S' i o c := by
  cases c with
  | no => trivial
  | dt d => obtain ⟨v, e, q⟩ := h; exact ⟨v, e, dp_mono g.b _ _ q⟩
  | ow ds => obtain ⟨a, e, q, n⟩ := h; exact ⟨a, e, q.grow g, n⟩
  | ln ds => obtain ⟨a, e, q, n⟩ := h; exact ⟨a, e, q.grow g, n⟩
  | sc ns => obtain ⟨a, e, q⟩ := h; exact ⟨a, e, g.b.seq q⟩
  | ob pp => obtain ⟨a, e, q, n⟩ := h; exact ⟨a, e, q.grow g, n⟩
  | li R => obtain ⟨a, e, q⟩ := h; exact ⟨a, e, q.grow g⟩
theorem TmpOk.grow {k : Nat} {v : V} {t : Tmp} (h : TmpOk K S0 w S σ k v t) (g : Gr L0 S S') : TmpOk K S0 w S' σ k v t := by
  cases t with
  | dt d => exact dp_mono g.b _ _ h
  | fr ds => obtain ⟨a, e, q, n⟩ := h; exact ⟨a, e, q.grow g, n⟩
  | br i => exact h
  | sc ns => obtain ⟨a, e, q⟩ := h; exact ⟨a, e, g.b.seq q⟩
  | ob pp => obtain ⟨a, e, q, n⟩ := h; exact ⟨a, e, q.grow g, n⟩
  | li R => obtain ⟨a, e, q⟩ := h; exact ⟨a, e, q.grow g⟩
/-- the heap grows -/
theorem Env.grow (E : Env K L S0 Γ Θ σ τ S) (g : Gr L0 S S') (sub : Same S'.b S'.h) : Env K L S0 Γ Θ σ τ S' := by
  obtain ⟨w, h1, h2⟩ := E.ok
  exact ⟨E.gr.trans0 g, sub, E.len, w, fun i c e => (h1 i c e).grow g, h2.imp fun _ _ _ _ q => q.grow g⟩
theorem Env.pop {t : Tmp} {v : V} (E : Env K L S0 Γ (t :: Θ) σ (v :: τ) S) : Env K L S0 Γ Θ σ τ S := by
  obtain ⟨w, h1, h2⟩ := E.ok
  exact ⟨E.gr, E.sub, E.len, w, h1, h2.2⟩
theorem Env.top {t : Tmp} {v : V} (E : Env K L S0 Γ (t :: Θ) σ (v :: τ) S) : ∃ w, TmpOk K S0 w S σ Θ.length v t := let ⟨w, _, h2⟩ := E.ok; ⟨w, h2.1⟩
theorem Env.push {d : Dat} {v : V} (E : Env K L S0 Γ Θ σ τ S) (h : Dq S.b v d) : Env K L S0 Γ (.dt d :: Θ) σ (v :: τ) S := by
  obtain ⟨w, h1, h2⟩ := E.ok
  exact ⟨E.gr, E.sub, E.len, w, h1, h, h2⟩
theorem Env.pushBr {i : Nat} {v : V} (E : Env K L S0 Γ Θ σ τ S) (h : σ[i]? = some (some v)) : Env K L S0 Γ (.br i :: Θ) σ (v :: τ) S := by
  obtain ⟨w, h1, h2⟩ := E.ok
  exact ⟨E.gr, E.sub, E.len, w, h1, h, h2⟩
theorem gr_new {p : Addr} {o : HO} (h : S.h p = none) (sub : Same S.b S.h) : Gr L0 S ⟨S.b, upd S.h p o⟩ :=
  ⟨Same.refl _, fun a o' _ e => by show upd S.h p o a = some o'; rw [upd_ne (ne_of_none e h)]; exact e, fun _ e _ => e, fun a n => by
    show upd S.h p o a ≠ none
    by_cases e : a = p
    · rw [e, upd_same]; exact fun z => nomatch z
    · rw [upd_ne e]; exact n⟩
theorem sub_new {p : Addr} {o : HO} (h : S.h p = none) (sub : Same S.b S.h) : Same S.b (upd S.h p o) := fun a o' e => by
  rw [upd_ne (ne_of_none (sub a o' e) h)]; exact sub a o' e
theorem gr_newB {p : Addr} {o : HO} (h : S.h p = none) (sub : Same S.b S.h) : Gr L0 S ⟨upd S.b p o, upd S.h p o⟩ := by
  have nb : S.b p = none := by
    cases q : S.b p with
    | none => rfl
    | some u => rw [sub p u q] at h; cases h
  refine ⟨fun a o' e => ?_, (gr_new h sub).h, fun a e n => ?_, (gr_new h sub).dom⟩
  · show upd S.b p o a = some o'
    rw [upd_ne (ne_of_none e nb)]; exact e
  · show upd S.b p o a = none
    rw [upd_ne (fun z => n (by rw [z]; exact h))]; exact e
theorem sub_newB {p : Addr} {o : HO} (h : S.h p = none) (sub : Same S.b S.h) : Same (upd S.b p o) (upd S.h p o) := fun a o' e => by
  by_cases q : a = p
  · rw [q, upd_same] at e; rw [q, upd_same]; exact e
  · rw [upd_ne q] at e; rw [upd_ne q]; exact sub a o' e
/-- a new object that never changes -/
theorem Env.newB {p : Addr} {o : HO} (E : Env K L S0 Γ Θ σ τ S) (h : S.h p = none) : Env K L S0 Γ Θ σ τ ⟨upd S.b p o, upd S.h p o⟩ := E.grow (gr_newB h E.sub) (sub_newB h E.sub)
theorem Env.fresh {p : Addr} (E : Env K L S0 Γ Θ σ τ S) (h : S.h p = none) : S.b p = none := by
  cases q : S.b p with
  | none => rfl
  | some u => rw [E.sub p u q] at h; cases h
theorem Env.fresh0 {p : Addr} (E : Env K L S0 Γ Θ σ τ S) (h : S.h p = none) : S0.h p = none := by
  cases q : S0.h p with
  | none => rfl
  | some u => exact absurd h (E.gr.dom p (by rw [q]; exact fun z => nomatch z))
theorem Own.lt {k : Sum Nat Nat} {a p : Addr} {ds : List Dat} (h : Own w k S a ds) (hp : S.h p = none) : a ≠ p := by
  obtain ⟨_, _, vs, q, _⟩ := h
  exact ne_of_none q hp
theorem OwnO.lt {k : Sum Nat Nat} {a p : Addr} {o : HO} (h : OwnO w k S a o) (hp : S.h p = none) : a ≠ p := ne_of_none h.is hp
theorem OwnO.reW {k k' : Sum Nat Nat} {a p : Addr} {o : HO} (h : OwnO w k S a o) (hp : a ≠ p) : OwnO (fun b => if b = p then some k' else w b) k S a o :=
  ⟨h.nb, by show (if a = p then some k' else w a) = some k; rw [if_neg hp]; exact h.at_, h.is⟩
/-- a new tuple of data -/
theorem Env.newTup {p : Addr} {o : Obj} {vs : List V} {ds : List Dat} (E : Env K L S0 Γ Θ σ τ S) (hd : o.dict = none) (h : S.h p = none) (q : DqAll S.b vs ds) : Env K L S0 Γ (.dt (.tuple ds) :: Θ) σ (.ref p :: τ) ⟨upd S.b p (.frz o (.tup vs)), upd S.h p (.frz o (.tup vs))⟩ :=
  (E.newB h).push (.tup hd upd_same (dpa_mono (gr_newB h E.sub).b _ _ q))
theorem sqt_f {K : PySem.W.Frag} {H : Hp} {a : Addr} {o : Obj} {xs : List V} (h : H a = some (.frz o (.tup xs))) : SqT K H a xs := .inl (.inr ⟨o, h⟩)
/-- where an address is owned, by a word w that is changed at a fresh place -/
theorem Own.reW {k k' : Sum Nat Nat} {a p : Addr} {ds : List Dat} (h : Own w k S a ds) (hp : a ≠ p) : Own (fun b => if b = p then some k' else w b) k S a ds :=
  ⟨h.nb, by show (if a = p then some k' else w a) = some k; rw [if_neg hp]; exact h.at_, h.is⟩
theorem SlotOk.reW {k' : Sum Nat Nat} {p : Addr} {i : Nat} {o : Option (Option V)} {c : Cell} (h : SlotOk K L S0 w S i o c) (hp : S.h p = none) : SlotOk K L S0 (fun b => if b = p then some k' else w b) S i o c := by
  cases c with
  | no => trivial
  | dt d => exact h
  | ow ds => obtain ⟨a, e, q, n⟩ := h; exact ⟨a, e, q.reW (q.lt hp), n⟩
  | ln ds => obtain ⟨a, e, q, n⟩ := h; exact ⟨a, e, q.reW (q.lt hp), n⟩
  | sc ns => exact h
  | ob pp => obtain ⟨a, e, q, n⟩ := h; exact ⟨a, e, q.reW (q.lt hp), n⟩
  | li R => obtain ⟨a, e, q⟩ := h; exact ⟨a, e, q.reW hp⟩
theorem TmpOk.reW {k' : Sum Nat Nat} {p : Addr} {k : Nat} {v : V} {t : Tmp} (h : TmpOk K S0 w S σ k v t) (hp : S.h p = none) : TmpOk K S0 (fun b => if b = p then some k' else w b) S σ k v t := by
  cases t with
  | dt d => exact h
  | fr ds => obtain ⟨a, e, q, n⟩ := h; exact ⟨a, e, q.reW (q.lt hp), n⟩
  | br i => exact h
  | sc ns => exact h
  | ob pp => obtain ⟨a, e, q, n⟩ := h; exact ⟨a, e, q.reW (q.lt hp), n⟩
  | li R => obtain ⟨a, e, q⟩ := h; exact ⟨a, e, q.reW hp⟩
/-- a new list of one's own -/
theorem Env.newLst {p : Addr} {vs : List V} {ds : List Dat} (E : Env K L S0 Γ Θ σ τ S) (h : S.h p = none) (q : DqAll S.b vs ds) : Env K L S0 Γ (.fr ds :: Θ) σ (.ref p :: τ) ⟨S.b, upd S.h p (.lst vs)⟩ := by
  have g := gr_new (o := .lst vs) h E.sub
  have nb := E.fresh h
  have n0 := E.fresh0 h
  obtain ⟨w, h1, h2⟩ := E.ok
  refine ⟨E.gr.trans0 g, sub_new h E.sub, E.len, fun b => if b = p then some (.inr Θ.length) else w b, fun i c e => ((h1 i c e).reW h).grow g, ⟨p, rfl, ⟨nb, if_pos rfl, vs, upd_same, q⟩, n0⟩, h2.imp fun _ _ _ _ z => (z.reW h).grow g⟩
/-- a new object of one's own -/
theorem Env.newOb {p : Addr} {o : HO} (E : Env K L S0 Γ Θ σ τ S) (h : S.h p = none) : Env K L S0 Γ (.ob o :: Θ) σ (.ref p :: τ) ⟨S.b, upd S.h p o⟩ := by
  have g := gr_new (o := o) h E.sub
  have nb := E.fresh h
  have n0 := E.fresh0 h
  obtain ⟨w, h1, h2⟩ := E.ok
  refine ⟨E.gr.trans0 g, sub_new h E.sub, E.len, fun b => if b = p then some (.inr Θ.length) else w b, fun i c e => ((h1 i c e).reW h).grow g, ⟨p, rfl, ⟨nb, if_pos rfl, upd_same⟩, n0⟩, h2.imp fun _ _ _ _ z => (z.reW h).grow g⟩
/-- names are forgotten -/
theorem Env.forget {Γ' : List Cell} (E : Env K L S0 Γ Θ σ τ S) (hl : Γ'.length = Γ.length) (h : ∀ (i : Nat) (c : Cell), Γ'[i]? = some c → c = Cell.no ∨ Γ[i]? = some c) : Env K L S0 Γ' Θ σ τ S := by
  obtain ⟨w, h1, h2⟩ := E.ok
  refine ⟨E.gr, E.sub, E.len.trans hl.symm, w, fun i c e => ?_, h2⟩
  rcases h i c e with rfl | q
  · trivial
  · exact h1 i c q
/-- a slot is stored: data -/
theorem Env.setDt {d : Dat} {v : V} {i : Nat} (E : Env K L S0 Γ Θ σ τ S) (hb : ∀ t ∈ Θ, t ≠ .br i) (h : Dq S.b v d) : Env K L S0 (Γ.set i (.dt d)) Θ (σ.set i (some v)) τ S := by
  obtain ⟨w, h1, h2⟩ := E.ok
  refine ⟨E.gr, E.sub, by rw [List.length_set, List.length_set]; exact E.len, w, fun j c e => ?_, h2.imp' fun k u t hk hm q => ?_⟩
  · by_cases q : i = j
    · subst q
      have hi : i < Γ.length := by
        have := (List.getElem?_eq_some_iff.mp e).1
        rw [List.length_set] at this; exact this
      rw [List.getElem?_set_self hi] at e
      cases e
      exact ⟨v, List.getElem?_set_self (by rw [E.len]; exact hi), h⟩
    · rw [List.getElem?_set_ne q] at e
      rw [List.getElem?_set_ne q]
      exact h1 j c e
  · cases t with
    | dt d => exact q
    | fr ds => exact q
    | sc ns => exact q
    | ob pp => exact q
    | li R => exact q
    | br j =>
      show (σ.set i (some v))[j]? = some (some u)
      have q' : σ[j]? = some (some u) := q
      have hij : i ≠ j := fun z => hb _ hm (by rw [z])
      rw [List.getElem?_set_ne hij]; exact q'
end
end Ld
set_option Elab.async false
set_option linter.all false
set_option maxRecDepth 100000
namespace Ld
open PySem PySem.Spec PyProof.Rows L2 Lx
/-! ### lists of one's own: frozen, stored, changed -/
def Cell.ls : Cell → Option (List Dat)
  | .ow ds => some ds
  | .ln ds => some ds
  | _ => none
def Cell.put : Cell → List Dat → Cell
  | .ow _, ds => .ow ds
  | .ln _, ds => .ln ds
  | c, _ => c
section
variable {K : PySem.W.Frag} {L : Addr → Prop} {S0 S S' : Hs} {Γ : List Cell} {Θ : List Tmp} {σ : L2.St} {τ : List V} {w : Wh}
theorem Own.apart {k k' : Sum Nat Nat} {a a' : Addr} {ds ds' : List Dat} (h : Own w k S a ds) (h' : Own w k' S a' ds') (n : k ≠ k') : a ≠ a' := fun e => n (by
  have e1 := h.at_
  have e2 := h'.at_
  rw [e, e2] at e1
  exact (Option.some.inj e1).symm)
theorem Own.apartO {k k' : Sum Nat Nat} {a a' : Addr} {ds : List Dat} {p : HO} (h : Own w k S a ds) (h' : OwnO w k' S a' p) (n : k ≠ k') : a ≠ a' := fun e => n (by
  have e1 := h.at_
  have e2 := h'.at_
  rw [e, e2] at e1
  exact (Option.some.inj e1).symm)
theorem OwnO.apart {k k' : Sum Nat Nat} {a a' : Addr} {p q : HO} (h : OwnO w k S a p) (h' : OwnO w k' S a' q) (n : k ≠ k') : a ≠ a' := fun e => n (by
  have e1 := h.at_
  have e2 := h'.at_
  rw [e, e2] at e1
  exact (Option.some.inj e1).symm)
theorem Own.frzO {k k' : Sum Nat Nat} {a a' : Addr} {ds : List Dat} {p : HO} {vs : List V} (h : Own w k S a ds) (h' : OwnO w k' S a' p) (n : k' ≠ k) : OwnO w k' ⟨upd S.b a (.lst vs), S.h⟩ a' p := by
  have ne : a' ≠ a := (h.apartO h' n.symm).symm
  obtain ⟨nb, e, q⟩ := h'
  exact ⟨by show upd S.b a (.lst vs) a' = none; rw [upd_ne ne]; exact nb, e, q⟩
theorem Own.mutO {k k' : Sum Nat Nat} {a a' : Addr} {ds : List Dat} {p o : HO} (h : Own w k S a ds) (h' : OwnO w k' S a' p) (n : k' ≠ k) : OwnO w k' ⟨S.b, upd S.h a o⟩ a' p := by
  have ne : a' ≠ a := (h.apartO h' n.symm).symm
  obtain ⟨nb, e, q⟩ := h'
  exact ⟨nb, e, by show upd S.h a o a' = _; rw [upd_ne ne]; exact q⟩
theorem Own.frzL {k k' : Sum Nat Nat} {a a' : Addr} {ds : List Dat} {R : Res} {N : Addr → Prop} {vs : List V} (h : Own w k S a ds) (h' : OwnL w k' S a' R N) (n : k' ≠ k) : OwnL w k' ⟨upd S.b a (.lst vs), S.h⟩ a' R N := by
  obtain ⟨F, q, f⟩ := h'
  have ne : ∀ x, F x → x ≠ a := fun x hx e => n (by
    have e1 := h.at_
    rw [← e, (f x hx).2.1] at e1
    exact Option.some.inj e1)
  refine ⟨F, R.frame q (fun c o z => ?_) fun x hx => rfl, fun x hx => ⟨?_, (f x hx).2⟩⟩
  · show upd S.b a (.lst vs) c = some o
    rw [upd_ne (ne_of_none z h.nb)]; exact z
  · show upd S.b a (.lst vs) x = none
    rw [upd_ne (ne x hx)]; exact (f x hx).1
theorem OwnL.mutE {k k' : Sum Nat Nat} {a a' : Addr} {R : Res} {N : Addr → Prop} {o : HO} (ha : w a = some k) (h' : OwnL w k' S a' R N) (n : k' ≠ k) : OwnL w k' ⟨S.b, upd S.h a o⟩ a' R N := by
  obtain ⟨F, q, f⟩ := h'
  refine ⟨F, R.frame q (Same.refl _) fun x hx => ?_, f⟩
  have ne : x ≠ a := fun e => n (by
    rw [← e, (f x hx).2.1] at ha
    exact Option.some.inj ha)
  exact upd_ne ne
theorem Own.mutL {k k' : Sum Nat Nat} {a a' : Addr} {ds : List Dat} {R : Res} {N : Addr → Prop} {o : HO} (h : Own w k S a ds) (h' : OwnL w k' S a' R N) (n : k' ≠ k) : OwnL w k' ⟨S.b, upd S.h a o⟩ a' R N := h'.mutE h.at_ n
theorem OwnO.mutL {k k' : Sum Nat Nat} {a a' : Addr} {p o : HO} {R : Res} {N : Addr → Prop} (h : OwnO w k S a p) (h' : OwnL w k' S a' R N) (n : k' ≠ k) : OwnL w k' ⟨S.b, upd S.h a o⟩ a' R N := h'.mutE h.at_ n
/-- b holds one more list -/
theorem Own.frz {k k' : Sum Nat Nat} {a a' : Addr} {ds ds' : List Dat} {vs : List V} (h : Own w k S a ds) (h' : Own w k' S a' ds') (n : k' ≠ k) : Own w k' ⟨upd S.b a (.lst vs), S.h⟩ a' ds' := by
  have ne : a' ≠ a := h'.apart h n
  obtain ⟨nb, e, us, q, p⟩ := h'
  refine ⟨by show upd S.b a (.lst vs) a' = none; rw [upd_ne ne]; exact nb, e, us, q, dpa_mono (fun c o z => ?_) _ _ p⟩
  show upd S.b a (.lst vs) c = some o
  rw [upd_ne (ne_of_none z h.nb)]; exact z
theorem frz_b {k : Sum Nat Nat} {a : Addr} {ds : List Dat} {vs : List V} (h : Own w k S a ds) : Same S.b (upd S.b a (.lst vs)) := fun c o z => by
  rw [upd_ne (ne_of_none z h.nb)]; exact z
theorem gr_frz {k : Sum Nat Nat} {a : Addr} {ds : List Dat} {vs : List V} (g : Gr L S0 S) (h : Own w k S a ds) (n0 : S0.h a = none) : Gr L S0 ⟨upd S.b a (.lst vs), S.h⟩ :=
  ⟨g.b.trans (frz_b h), g.h, fun c e n => by
    show upd S.b a (.lst vs) c = none
    rw [upd_ne (fun z => n (by rw [z]; exact n0))]
    exact g.own c e n, g.dom⟩
theorem sub_frz {a : Addr} {vs : List V} (s : Same S.b S.h) (h : S.h a = some (.lst vs)) : Same (upd S.b a (.lst vs)) S.h := fun c o e => by
  by_cases q : c = a
  · rw [q, upd_same] at e; rw [q, h]; exact e
  · rw [upd_ne q] at e; exact s c o e
/-- the list under way is now data -/
theorem Env.frzTop {ds : List Dat} {v : V} (E : Env K L S0 Γ (.fr ds :: Θ) σ (v :: τ) S) : ∃ S', S'.h = S.h ∧ Env K L S0 Γ (.dt (.list ds) :: Θ) σ (v :: τ) S' := by
  obtain ⟨w, h1, ⟨a, rfl, o, n0⟩, h2⟩ := E.ok
  obtain ⟨nb, ea, vs, q, p⟩ := id o
  refine ⟨⟨upd S.b a (.lst vs), S.h⟩, rfl, gr_frz E.gr o n0, sub_frz E.sub q, E.len, w, fun i c e => ?_, .lst upd_same (dpa_mono (frz_b o) _ _ p), h2.imp fun k u t hk z => ?_⟩
  · have z := h1 i c e
    cases c with
    | no => trivial
    | dt d => obtain ⟨v, e, r⟩ := z; exact ⟨v, e, dp_mono (frz_b o) _ _ r⟩
    | ow es => obtain ⟨b, e, r, n⟩ := z; exact ⟨b, e, o.frz r (fun z => nomatch z), n⟩
    | ln es => obtain ⟨b, e, r, n⟩ := z; exact ⟨b, e, o.frz r (fun z => nomatch z), n⟩
    | sc ns => obtain ⟨b, e, r⟩ := z; exact ⟨b, e, (frz_b o).seq r⟩
    | ob pp => obtain ⟨b, e, r, n⟩ := z; exact ⟨b, e, o.frzO r (fun z => nomatch z), n⟩
    | li R => obtain ⟨b, e, r⟩ := z; exact ⟨b, e, o.frzL r (fun z => nomatch z)⟩
  · cases t with
    | dt d => exact dp_mono (frz_b o) _ _ z
    | fr es => obtain ⟨b, e, r, n⟩ := z; exact ⟨b, e, o.frz r (fun z => absurd (Sum.inr.inj z) (Nat.ne_of_lt hk)), n⟩
    | br j => exact z
    | sc ns => obtain ⟨b, e, r⟩ := z; exact ⟨b, e, (frz_b o).seq r⟩
    | ob pp => obtain ⟨b, e, r, n⟩ := z; exact ⟨b, e, o.frzO r (fun z => absurd (Sum.inr.inj z) (Nat.ne_of_lt hk)), n⟩
    | li R => obtain ⟨b, e, r⟩ := z; exact ⟨b, e, o.frzL r (fun z => absurd (Sum.inr.inj z) (Nat.ne_of_lt hk))⟩
/-- .. the list in slot i -/
theorem Env.frzSlot {ds : List Dat} {i : Nat} (E : Env K L S0 Γ Θ σ τ S) (hi : Γ[i]? = some (.ow ds)) : ∃ S', S'.h = S.h ∧ Env K L S0 (Γ.set i (.dt (.list ds))) Θ σ τ S' := by
  obtain ⟨w, h1, h2⟩ := E.ok
  obtain ⟨a, ei, o, n0⟩ := h1 i _ hi
  obtain ⟨nb, ea, vs, q, p⟩ := id o
  refine ⟨⟨upd S.b a (.lst vs), S.h⟩, rfl, gr_frz E.gr o n0, sub_frz E.sub q, by rw [List.length_set]; exact E.len, w, fun j c e => ?_, h2.imp fun k u t hk z => ?_⟩
  · by_cases hj : i = j
    · subst hj
      rw [List.getElem?_set_self (List.getElem?_eq_some_iff.mp hi).1] at e
      cases e
      exact ⟨_, ei, .lst upd_same (dpa_mono (frz_b o) _ _ p)⟩
    · rw [List.getElem?_set_ne hj] at e
      have z := h1 j c e
      cases c with
      | no => trivial
      | dt d => obtain ⟨v, e, r⟩ := z; exact ⟨v, e, dp_mono (frz_b o) _ _ r⟩
      | ow es => obtain ⟨b, e, r, n⟩ := z; exact ⟨b, e, o.frz r (fun z => hj (Sum.inl.inj z).symm), n⟩
      | ln es => obtain ⟨b, e, r, n⟩ := z; exact ⟨b, e, o.frz r (fun z => hj (Sum.inl.inj z).symm), n⟩
      | sc ns => obtain ⟨b, e, r⟩ := z; exact ⟨b, e, (frz_b o).seq r⟩
      | ob pp => obtain ⟨b, e, r, n⟩ := z; exact ⟨b, e, o.frzO r (fun z => hj (Sum.inl.inj z).symm), n⟩
      | li R => obtain ⟨b, e, r⟩ := z; exact ⟨b, e, o.frzL r (fun z => hj (Sum.inl.inj z).symm)⟩
  · cases t with
    | dt d => exact dp_mono (frz_b o) _ _ z
    | fr es => obtain ⟨b, e, r, n⟩ := z; exact ⟨b, e, o.frz r (fun z => nomatch z), n⟩
    | br j => exact z
    | sc ns => obtain ⟨b, e, r⟩ := z; exact ⟨b, e, (frz_b o).seq r⟩
    | ob pp => obtain ⟨b, e, r, n⟩ := z; exact ⟨b, e, o.frzO r (fun z => nomatch z), n⟩
    | li R => obtain ⟨b, e, r⟩ := z; exact ⟨b, e, o.frzL r (fun z => nomatch z)⟩
/-- a slot is stored: a new list -/
theorem Env.setFr {ds : List Dat} {v : V} {i : Nat} (E : Env K L S0 Γ (.fr ds :: Θ) σ (v :: τ) S) (hb : ∀ t ∈ Θ, t ≠ .br i) : Env K L S0 (Γ.set i (.ow ds)) Θ (σ.set i (some v)) τ S := by
  obtain ⟨w, h1, ⟨a, rfl, o, n0⟩, h2⟩ := E.ok
  have re : ∀ {k : Sum Nat Nat} {b : Addr} {es : List Dat}, Own w k S b es → k ≠ .inr Θ.length → Own (fun c => if c = a then some (.inl i) else w c) k S b es := fun {k b es} r n =>
    ⟨r.nb, by show (if b = a then some (Sum.inl i) else w b) = some k; rw [if_neg (r.apart o n)]; exact r.at_, r.is⟩
  have reO : ∀ {k : Sum Nat Nat} {b : Addr} {es : HO}, OwnO w k S b es → k ≠ .inr Θ.length → OwnO (fun c => if c = a then some (.inl i) else w c) k S b es := fun {k b es} r n =>
    ⟨r.nb, by show (if b = a then some (Sum.inl i) else w b) = some k; rw [if_neg (o.apartO r n.symm).symm]; exact r.at_, r.is⟩
  have reL : ∀ {k : Sum Nat Nat} {b : Addr} {R : Res} {N : Addr → Prop}, OwnL w k S b R N → k ≠ .inr Θ.length → OwnL (fun c => if c = a then some (.inl i) else w c) k S b R N := fun {k b R N} r n =>
    r.reK (fun x hx => by show (if x = a then some (Sum.inl i) else w x) = some k; rw [if_neg (fun e => n (by rw [e, o.at_] at hx; exact (Option.some.inj hx).symm))]; exact hx) fun _ h => h
  refine ⟨E.gr, E.sub, by rw [List.length_set, List.length_set]; exact E.len, fun c => if c = a then some (.inl i) else w c, fun j c e => ?_, h2.imp' fun k u t hk hm z => ?_⟩
  · by_cases hj : i = j
    · subst hj
      have hi : i < Γ.length := by
        have := (List.getElem?_eq_some_iff.mp e).1
        rw [List.length_set] at this; exact this
      rw [List.getElem?_set_self hi] at e
      cases e
      exact ⟨a, List.getElem?_set_self (by rw [E.len]; exact hi), ⟨o.nb, if_pos rfl, o.is⟩, n0⟩
    · rw [List.getElem?_set_ne hj] at e
      rw [List.getElem?_set_ne hj]
      have z := h1 j c e
      cases c with
      | no => trivial
      | dt d => exact z
      | ow es => obtain ⟨b, e, r, n⟩ := z; exact ⟨b, e, re r (fun z => nomatch z), n⟩
      | ln es => obtain ⟨b, e, r, n⟩ := z; exact ⟨b, e, re r (fun z => nomatch z), n⟩
      | sc ns => exact z
      | ob pp => obtain ⟨b, e, r, n⟩ := z; exact ⟨b, e, reO r (fun z => nomatch z), n⟩
      | li R => obtain ⟨b, e, r⟩ := z; exact ⟨b, e, reL r (fun z => nomatch z)⟩
  · cases t with
    | dt d => exact z
    | fr es => obtain ⟨b, e, r, n⟩ := z; exact ⟨b, e, re r (fun z => absurd (Sum.inr.inj z) (Nat.ne_of_lt hk)), n⟩
    | sc ns => exact z
    | ob pp => obtain ⟨b, e, r, n⟩ := z; exact ⟨b, e, reO r (fun z => absurd (Sum.inr.inj z) (Nat.ne_of_lt hk)), n⟩
    | li R => obtain ⟨b, e, r⟩ := z; exact ⟨b, e, reL r (fun z => absurd (Sum.inr.inj z) (Nat.ne_of_lt hk))⟩
    | br j =>
      show (σ.set i (some (V.ref a)))[j]? = some (some u)
      have hij : i ≠ j := fun z => hb _ hm (by rw [z])
      rw [List.getElem?_set_ne hij]; exact z
/-- .. a new object -/
theorem Env.setOb {ds : HO} {v : V} {i : Nat} (E : Env K L S0 Γ (.ob ds :: Θ) σ (v :: τ) S) (hb : ∀ t ∈ Θ, t ≠ .br i) : Env K L S0 (Γ.set i (.ob ds)) Θ (σ.set i (some v)) τ S := by
  obtain ⟨w, h1, ⟨a, rfl, o, n0⟩, h2⟩ := E.ok
  have re : ∀ {k : Sum Nat Nat} {b : Addr} {es : List Dat}, Own w k S b es → k ≠ .inr Θ.length → Own (fun c => if c = a then some (.inl i) else w c) k S b es := fun {k b es} r n =>
    ⟨r.nb, by show (if b = a then some (Sum.inl i) else w b) = some k; rw [if_neg (r.apartO o n)]; exact r.at_, r.is⟩
  have reO : ∀ {k : Sum Nat Nat} {b : Addr} {es : HO}, OwnO w k S b es → k ≠ .inr Θ.length → OwnO (fun c => if c = a then some (.inl i) else w c) k S b es := fun {k b es} r n =>
    ⟨r.nb, by show (if b = a then some (Sum.inl i) else w b) = some k; rw [if_neg (r.apart o n)]; exact r.at_, r.is⟩
  have reL : ∀ {k : Sum Nat Nat} {b : Addr} {R : Res} {N : Addr → Prop}, OwnL w k S b R N → k ≠ .inr Θ.length → OwnL (fun c => if c = a then some (.inl i) else w c) k S b R N := fun {k b R N} r n =>
    r.reK (fun x hx => by show (if x = a then some (Sum.inl i) else w x) = some k; rw [if_neg (fun e => n (by rw [e, o.at_] at hx; exact (Option.some.inj hx).symm))]; exact hx) fun _ h => h
  refine ⟨E.gr, E.sub, by rw [List.length_set, List.length_set]; exact E.len, fun c => if c = a then some (.inl i) else w c, fun j c e => ?_, h2.imp' fun k u t hk hm z => ?_⟩
  · by_cases hj : i = j
    · subst hj
      have hi : i < Γ.length := by
        have := (List.getElem?_eq_some_iff.mp e).1
        rw [List.length_set] at this; exact this
      rw [List.getElem?_set_self hi] at e
      cases e
      exact ⟨a, List.getElem?_set_self (by rw [E.len]; exact hi), ⟨o.nb, if_pos rfl, o.is⟩, n0⟩
    · rw [List.getElem?_set_ne hj] at e
      rw [List.getElem?_set_ne hj]
      have z := h1 j c e
      cases c with
      | no => trivial
      | dt d => exact z
      | ow es => obtain ⟨b, e, r, n⟩ := z; exact ⟨b, e, re r (fun z => nomatch z), n⟩
      | ln es => obtain ⟨b, e, r, n⟩ := z; exact ⟨b, e, re r (fun z => nomatch z), n⟩
      | sc ns => exact z
      | ob pp => obtain ⟨b, e, r, n⟩ := z; exact ⟨b, e, reO r (fun z => nomatch z), n⟩
      | li R => obtain ⟨b, e, r⟩ := z; exact ⟨b, e, reL r (fun z => nomatch z)⟩
  · cases t with
    | dt d => exact z
    | fr es => obtain ⟨b, e, r, n⟩ := z; exact ⟨b, e, re r (fun z => absurd (Sum.inr.inj z) (Nat.ne_of_lt hk)), n⟩
    | sc ns => exact z
    | ob pp => obtain ⟨b, e, r, n⟩ := z; exact ⟨b, e, reO r (fun z => absurd (Sum.inr.inj z) (Nat.ne_of_lt hk)), n⟩
    | li R => obtain ⟨b, e, r⟩ := z; exact ⟨b, e, reL r (fun z => absurd (Sum.inr.inj z) (Nat.ne_of_lt hk))⟩
    | br j =>
      show (σ.set i (some (V.ref a)))[j]? = some (some u)
      have hij : i ≠ j := fun z => hb _ hm (by rw [z])
      rw [List.getElem?_set_ne hij]; exact z
/-- .. a new resource -/
theorem Env.setLi {R : Res} {v : V} {i : Nat} (E : Env K L S0 Γ (.li R :: Θ) σ (v :: τ) S) (hb : ∀ t ∈ Θ, t ≠ .br i) : Env K L S0 (Γ.set i (.li R)) Θ (σ.set i (some v)) τ S := by
  classical
  obtain ⟨w, h1, ⟨a, rfl, o⟩, h2⟩ := E.ok
  let w' : Wh := fun c => if w c = some (.inr Θ.length) then some (.inl i) else w c
  have re : ∀ {k : Sum Nat Nat} {x : Addr}, w x = some k → k ≠ .inr Θ.length → w' x = some k := fun {k x} e n => by
    show (if w x = some (.inr Θ.length) then some (.inl i) else w x) = some k
    rw [if_neg (fun z => n (by rw [e] at z; exact Option.some.inj z))]; exact e
  refine ⟨E.gr, E.sub, by rw [List.length_set, List.length_set]; exact E.len, w', fun j c e => ?_, h2.imp' fun k u t hk hm z => ?_⟩
  · by_cases hj : i = j
    · subst hj
      have hi : i < Γ.length := by
        have := (List.getElem?_eq_some_iff.mp e).1
        rw [List.length_set] at this; exact this
      rw [List.getElem?_set_self hi] at e
      cases e
      exact ⟨a, List.getElem?_set_self (by rw [E.len]; exact hi), o.reK (fun x hx => if_pos hx) fun x hx => .inl hx⟩
    · rw [List.getElem?_set_ne hj] at e
      rw [List.getElem?_set_ne hj]
      have z := h1 j c e
      cases c with
      | no => trivial
      | dt d => exact z
      | ow es => obtain ⟨b, e, r, n⟩ := z; exact ⟨b, e, ⟨r.nb, re r.at_ (fun z => nomatch z), r.is⟩, n⟩
      | ln es => obtain ⟨b, e, r, n⟩ := z; exact ⟨b, e, ⟨r.nb, re r.at_ (fun z => nomatch z), r.is⟩, n⟩
      | sc ns => exact z
      | ob pp => obtain ⟨b, e, r, n⟩ := z; exact ⟨b, e, ⟨r.nb, re r.at_ (fun z => nomatch z), r.is⟩, n⟩
      | li R => obtain ⟨b, e, r⟩ := z; exact ⟨b, e, r.reK (fun x hx => re hx (fun z => nomatch z)) fun _ h => h⟩
  · have nk : ∀ {k : Nat}, k < Θ.length → (Sum.inr k : Sum Nat Nat) ≠ .inr Θ.length := fun hk z => absurd (Sum.inr.inj z) (Nat.ne_of_lt hk)
    cases t with
    | dt d => exact z
    | fr es => obtain ⟨b, e, r, n⟩ := z; exact ⟨b, e, ⟨r.nb, re r.at_ (nk hk), r.is⟩, n⟩
    | sc ns => exact z
    | ob pp => obtain ⟨b, e, r, n⟩ := z; exact ⟨b, e, ⟨r.nb, re r.at_ (nk hk), r.is⟩, n⟩
    | li R => obtain ⟨b, e, r⟩ := z; exact ⟨b, e, r.reK (fun x hx => re hx (nk hk)) fun _ h => h⟩
    | br j =>
      show (σ.set i (some (V.ref a)))[j]? = some (some u)
      have hij : i ≠ j := fun z => hb _ hm (by rw [z])
      rw [List.getElem?_set_ne hij]; exact z
theorem Own.mut {k k' : Sum Nat Nat} {a a' : Addr} {ds ds' : List Dat} {o : HO} (h : Own w k S a ds) (h' : Own w k' S a' ds') (n : k' ≠ k) : Own w k' ⟨S.b, upd S.h a o⟩ a' ds' := by
  have ne : a' ≠ a := h'.apart h n
  obtain ⟨nb, e, us, q, p⟩ := h'
  exact ⟨nb, e, us, by show upd S.h a o a' = _; rw [upd_ne ne]; exact q, p⟩
theorem sub_mut {a : Addr} {o : HO} (s : Same S.b S.h) (nb : S.b a = none) : Same S.b (upd S.h a o) := fun c u e => by
  rw [upd_ne (ne_of_none e nb)]; exact s c u e
/-- the list in slot i is changed -/
theorem Env.mutSlot {c : Cell} {ds : List Dat} {i : Nat} (E : Env K L S0 Γ Θ σ τ S) (hi : Γ[i]? = some c) (hc : c.ls = some ds) :
    ∃ a vs, σ[i]? = some (some (.ref a)) ∧ S.h a = some (.lst vs) ∧ DqAll S.b vs ds ∧ ∀ vs' ds', DqAll S.b vs' ds' → Env K L S0 (Γ.set i (c.put ds')) Θ σ τ ⟨S.b, upd S.h a (.lst vs')⟩ := by
  obtain ⟨w, h1, h2⟩ := E.ok
  have hil := (List.getElem?_eq_some_iff.mp hi).1
  obtain ⟨a, ei, o, n0⟩ : ∃ a, σ[i]? = some (some (.ref a)) ∧ Own w (.inl i) S a ds ∧ (S0.h a = none ∨ L a) := by
    have z := h1 i c hi
    cases c with
    | no => cases hc
    | dt d => cases hc
    | ow es => cases hc; obtain ⟨a, e, r, n⟩ := z; exact ⟨a, e, r, .inl n⟩
    | ln es => cases hc; obtain ⟨a, e, r, n⟩ := z; exact ⟨a, e, r, .inr n⟩
    | sc ns => cases hc
    | ob pp => cases hc
    | li R => cases hc
  obtain ⟨nb, ea, vs, q, p⟩ := id o
  refine ⟨a, vs, ei, q, p, fun vs' ds' p' => ⟨⟨E.gr.b, fun b u n e => ?_, E.gr.own, fun b n => ?_⟩, sub_mut E.sub nb, by rw [List.length_set]; exact E.len, w, fun j c' e => ?_, h2.imp fun k u t hk z => ?_⟩⟩
  · show upd S.h a (.lst vs') b = some u
    have ne : b ≠ a := fun z => by
      subst z
      rcases n0 with z | z
      · rw [z] at e; cases e
      · exact n z
    rw [upd_ne ne]; exact E.gr.h b u n e
  · show upd S.h a (.lst vs') b ≠ none
    by_cases z : b = a
    · rw [z, upd_same]; exact fun z => nomatch z
    · rw [upd_ne z]; exact E.gr.dom b n
  · by_cases hj : i = j
    · subst hj
      rw [List.getElem?_set_self hil] at e
      have ow' : Own w (.inl i) ⟨S.b, upd S.h a (.lst vs')⟩ a ds' := ⟨nb, ea, vs', upd_same, p'⟩
      have z := h1 i c hi
      cases c with
      | no => cases hc
      | dt d => cases hc
      | ow es => cases e; obtain ⟨b, e, r, n⟩ := z; rw [ei] at e; cases e; exact ⟨_, ei, ow', n⟩
      | ln es => cases e; obtain ⟨b, e, r, n⟩ := z; rw [ei] at e; cases e; exact ⟨_, ei, ow', n⟩
      | sc ns => cases hc
      | ob pp => cases hc
      | li R => cases hc
    · rw [List.getElem?_set_ne hj] at e
      have z := h1 j c' e
      cases c' with
      | no => trivial
      | dt d => exact z
      | ow es => obtain ⟨b, e, r, n⟩ := z; exact ⟨b, e, o.mut r (fun z => hj (Sum.inl.inj z).symm), n⟩
      | ln es => obtain ⟨b, e, r, n⟩ := z; exact ⟨b, e, o.mut r (fun z => hj (Sum.inl.inj z).symm), n⟩
      | sc ns => exact z
      | ob pp => obtain ⟨b, e, r, n⟩ := z; exact ⟨b, e, o.mutO r (fun z => hj (Sum.inl.inj z).symm), n⟩
      | li R => obtain ⟨b, e, r⟩ := z; exact ⟨b, e, o.mutL r (fun z => hj (Sum.inl.inj z).symm)⟩
  · cases t with
    | dt d => exact z
    | fr es => obtain ⟨b, e, r, n⟩ := z; exact ⟨b, e, o.mut r (fun z => nomatch z), n⟩
    | br j => exact z
    | sc ns => exact z
    | ob pp => obtain ⟨b, e, r, n⟩ := z; exact ⟨b, e, o.mutO r (fun z => nomatch z), n⟩
    | li R => obtain ⟨b, e, r⟩ := z; exact ⟨b, e, o.mutL r (fun z => nomatch z)⟩
theorem OwnO.mut {k k' : Sum Nat Nat} {a a' : Addr} {ds' : List Dat} {p o : HO} (h : OwnO w k S a p) (h' : Own w k' S a' ds') (n : k' ≠ k) : Own w k' ⟨S.b, upd S.h a o⟩ a' ds' := by
  have ne : a' ≠ a := h'.apartO h n
  obtain ⟨nb, e, us, q, p⟩ := h'
  exact ⟨nb, e, us, by show upd S.h a o a' = _; rw [upd_ne ne]; exact q, p⟩
theorem OwnO.mutO {k k' : Sum Nat Nat} {a a' : Addr} {p p' o : HO} (h : OwnO w k S a p) (h' : OwnO w k' S a' p') (n : k' ≠ k) : OwnO w k' ⟨S.b, upd S.h a o⟩ a' p' := by
  have ne : a' ≠ a := h'.apart h n
  obtain ⟨nb, e, q⟩ := h'
  exact ⟨nb, e, by show upd S.h a o a' = _; rw [upd_ne ne]; exact q⟩
/-- the object in slot i is changed -/
theorem Env.mutOb {p : HO} {i : Nat} (E : Env K L S0 Γ Θ σ τ S) (hi : Γ[i]? = some (.ob p)) :
    ∃ a, σ[i]? = some (some (.ref a)) ∧ S.h a = some p ∧ ∀ p', Env K L S0 (Γ.set i (.ob p')) Θ σ τ ⟨S.b, upd S.h a p'⟩ := by
  obtain ⟨w, h1, h2⟩ := E.ok
  have hil := (List.getElem?_eq_some_iff.mp hi).1
  obtain ⟨a, ei, o, n0⟩ := h1 i _ hi
  obtain ⟨nb, ea, q⟩ := id o
  refine ⟨a, ei, q, fun p' => ⟨⟨E.gr.b, fun b u n e => ?_, E.gr.own, fun b n => ?_⟩, sub_mut E.sub nb, by rw [List.length_set]; exact E.len, w, fun j c' e => ?_, h2.imp fun k u t hk z => ?_⟩⟩
  · show upd S.h a p' b = some u
    rw [upd_ne (ne_of_none e n0)]; exact E.gr.h b u n e
  · show upd S.h a p' b ≠ none
    by_cases z : b = a
    · rw [z, upd_same]; exact fun z => nomatch z
    · rw [upd_ne z]; exact E.gr.dom b n
  · by_cases hj : i = j
    · subst hj
      rw [List.getElem?_set_self hil] at e
      cases e
      exact ⟨a, ei, ⟨nb, ea, upd_same⟩, n0⟩
    · rw [List.getElem?_set_ne hj] at e
      have z := h1 j c' e
      cases c' with
      | no => trivial
      | dt d => exact z
      | ow es => obtain ⟨b, e, r, n⟩ := z; exact ⟨b, e, o.mut r (fun z => hj (Sum.inl.inj z).symm), n⟩
      | ln es => obtain ⟨b, e, r, n⟩ := z; exact ⟨b, e, o.mut r (fun z => hj (Sum.inl.inj z).symm), n⟩
      | sc ns => exact z
      | ob es => obtain ⟨b, e, r, n⟩ := z; exact ⟨b, e, o.mutO r (fun z => hj (Sum.inl.inj z).symm), n⟩
      | li R => obtain ⟨b, e, r⟩ := z; exact ⟨b, e, o.mutL r (fun z => hj (Sum.inl.inj z).symm)⟩
  · cases t with
    | dt d => exact z
    | fr es => obtain ⟨b, e, r, n⟩ := z; exact ⟨b, e, o.mut r (fun z => nomatch z), n⟩
    | br j => exact z
    | sc ns => exact z
    | ob es => obtain ⟨b, e, r, n⟩ := z; exact ⟨b, e, o.mutO r (fun z => nomatch z), n⟩
    | li R => obtain ⟨b, e, r⟩ := z; exact ⟨b, e, o.mutL r (fun z => nomatch z)⟩
theorem Env.ob_at {p : HO} {i : Nat} {v : V} (E : Env K L S0 Γ (.br i :: Θ) σ (v :: τ) S) (hi : Γ[i]? = some (.ob p)) : ∃ a, v = .ref a ∧ S.h a = some p := by
  obtain ⟨w, h1, z, h2⟩ := E.ok
  obtain ⟨a, e, o, n⟩ := h1 i _ hi
  have z' : σ[i]? = some (some v) := z
  rw [z'] at e; cases e
  exact ⟨a, rfl, o.is⟩
/-- the new list under way is changed -/
theorem Env.mutTop {ds : List Dat} {v : V} (E : Env K L S0 Γ (.fr ds :: Θ) σ (v :: τ) S) :
    ∃ a vs, v = .ref a ∧ S.h a = some (.lst vs) ∧ DqAll S.b vs ds ∧ ∀ vs' ds', DqAll S.b vs' ds' → Env K L S0 Γ (.fr ds' :: Θ) σ (v :: τ) ⟨S.b, upd S.h a (.lst vs')⟩ := by
  obtain ⟨w, h1, ⟨a, rfl, o, n0⟩, h2⟩ := E.ok
  obtain ⟨nb, ea, vs, q, p⟩ := id o
  refine ⟨a, vs, rfl, q, p, fun vs' ds' p' => ⟨⟨E.gr.b, fun b u n e => ?_, E.gr.own, fun b n => ?_⟩, sub_mut E.sub nb, E.len, w, fun j c' e => ?_, ⟨a, rfl, ⟨nb, ea, vs', upd_same, p'⟩, n0⟩, h2.imp fun k u t hk z => ?_⟩⟩
  · show upd S.h a (.lst vs') b = some u
    rw [upd_ne (ne_of_none e n0)]; exact E.gr.h b u n e
  · show upd S.h a (.lst vs') b ≠ none
    by_cases z : b = a
    · rw [z, upd_same]; exact fun z => nomatch z
    · rw [upd_ne z]; exact E.gr.dom b n
  · have z := h1 j c' e
    cases c' with
    | no => trivial
    | dt d => exact z
    | ow es => obtain ⟨b, e, r, n⟩ := z; exact ⟨b, e, o.mut r (fun z => nomatch z), n⟩
    | ln es => obtain ⟨b, e, r, n⟩ := z; exact ⟨b, e, o.mut r (fun z => nomatch z), n⟩
    | sc ns => exact z
    | ob pp => obtain ⟨b, e, r, n⟩ := z; exact ⟨b, e, o.mutO r (fun z => nomatch z), n⟩
    | li R => obtain ⟨b, e, r⟩ := z; exact ⟨b, e, o.mutL r (fun z => nomatch z)⟩
  · cases t with
    | dt d => exact z
    | fr es => obtain ⟨b, e, r, n⟩ := z; exact ⟨b, e, o.mut r (fun z => absurd (Sum.inr.inj z) (Nat.ne_of_lt hk)), n⟩
    | br j => exact z
    | sc ns => exact z
    | ob pp => obtain ⟨b, e, r, n⟩ := z; exact ⟨b, e, o.mutO r (fun z => absurd (Sum.inr.inj z) (Nat.ne_of_lt hk)), n⟩
    | li R => obtain ⟨b, e, r⟩ := z; exact ⟨b, e, o.mutL r (fun z => absurd (Sum.inr.inj z) (Nat.ne_of_lt hk))⟩
end
/-! ### a value under way, read as data -/
def rd (Γ : List Cell) : Tmp → Dat → Prop
  | .dt e, d => e = d
  | .fr ds, d => d = .list ds
  | .br i, d => Γ[i]? = some (.dt d) ∨ ∃ ds, d = .list ds ∧ (Γ[i]? = some (.ow ds) ∨ Γ[i]? = some (.ln ds))
  | .sc _, _ => False
  | .ob _, _ => False
  | .li _, _ => False
section
variable {K : PySem.W.Frag} {L : Addr → Prop} {S0 S S' : Hs} {Γ : List Cell} {Θ : List Tmp} {σ : L2.St} {τ : List V} {w : Wh}
theorem Own.dp {k : Sum Nat Nat} {a : Addr} {ds : List Dat} (h : Own w k S a ds) (sub : Same S.b S.h) : Dq S.h (.ref a) (.list ds) := by
  obtain ⟨_, _, vs, q, p⟩ := h
  exact .lst q (dpa_mono sub _ _ p)
theorem Env.rd {t : Tmp} {v : V} {d : Dat} (E : Env K L S0 Γ (t :: Θ) σ (v :: τ) S) (h : rd Γ t d) : Dq S.h v d := by
  obtain ⟨w, h1, z, h2⟩ := E.ok
  cases t with
  | dt e => cases h; exact dp_mono E.sub _ _ z
  | fr ds => cases h; obtain ⟨a, rfl, o, n⟩ := z; exact o.dp E.sub
  | sc ns => exact h.elim
  | ob pp => exact h.elim
  | li R => exact h.elim
  | br i =>
    have z' : σ[i]? = some (some v) := z
    rcases h with h | ⟨ds, rfl, h⟩
    · obtain ⟨u, e, q⟩ := h1 i _ h
      rw [z'] at e; cases e
      exact dp_mono E.sub _ _ q
    · rcases h with h | h
      · obtain ⟨a, e, o, _⟩ := h1 i _ h
        rw [z'] at e; cases e
        exact o.dp E.sub
      · obtain ⟨a, e, o, _⟩ := h1 i _ h
        rw [z'] at e; cases e
        exact o.dp E.sub
theorem Env.dt {v : V} {d : Dat} (E : Env K L S0 Γ (.dt d :: Θ) σ (v :: τ) S) : Dq S.b v d := let ⟨_, z⟩ := E.top; z
end
theorem dp_int {H : Hp} {v : V} {i : Int} (h : Dq H v (.int i)) : v = .int i := by cases h; rfl
theorem dp_bool {H : Hp} {v : V} {i : Bool} (h : Dq H v (.bool i)) : v = .bl i := by cases h; rfl
theorem dp_none {H : Hp} {v : V} (h : Dq H v .none) : v = .non := by cases h; rfl
theorem dp_list {H : Hp} {v : V} {ds : List Dat} (h : Dq H v (.list ds)) : ∃ a xs, v = .ref a ∧ H a = some (.lst xs) ∧ DqAll H xs ds := by cases h with | lst a b => exact ⟨_, _, rfl, a, b⟩
theorem dp_tup {H : Hp} {v : V} {ds : List Dat} (h : Dq H v (.tuple ds)) : ∃ a o xs, v = .ref a ∧ o.dict = none ∧ H a = some (.frz o (.tup xs)) ∧ DqAll H xs ds := by cases h with | tup d a b => exact ⟨_, _, _, rfl, d, a, b⟩
/-! ### judgements over the cells -/
section
variable (K : PySem.W.Frag) (Γ : List Cell) (Θ : List Tmp)
def VE (t : TE) (Q : List Cell → Tmp → Prop) : Prop := ∀ (L : Addr → Prop) (S0 : Hs) (σ : L2.St) (τ : List V) (S : Hs) (Qv : VK), Env K L S0 Γ Θ σ τ S →
  (∀ Γ' S' v c, Env K L S0 Γ' (c :: Θ) σ (v :: τ) S' → Q Γ' c → Qv v S'.h) → t σ S.h Qv
/-- .. with data at the end -/
def VD (t : TE) (Q : List Cell → Dat → Prop) : Prop := ∀ (L : Addr → Prop) (S0 : Hs) (σ : L2.St) (τ : List V) (S : Hs) (Qv : VK), Env K L S0 Γ Θ σ τ S →
  (∀ Γ' S' v d, Env K L S0 Γ' (.dt d :: Θ) σ (v :: τ) S' → Q Γ' d → Qv v S'.h) → t σ S.h Qv
def VT (t : TT) (Q : List Cell → Bool → Prop) : Prop := ∀ (L : Addr → Prop) (S0 : Hs) (σ : L2.St) (τ : List V) (S : Hs) (Qv : Bool → Hp → Prop), Env K L S0 Γ Θ σ τ S →
  (∀ Γ' S' b, Env K L S0 Γ' Θ σ τ S' → Q Γ' b → Qv b S'.h) → t σ S.h Qv
/-- a part of a slice -/
def VO (t : TO) (Q : List Cell → Option Int → Prop) : Prop := ∀ (L : Addr → Prop) (S0 : Hs) (σ : L2.St) (τ : List V) (S : Hs) (Qv : Option Int → Hp → Prop), Env K L S0 Γ Θ σ τ S →
  (∀ Γ' S' b, Env K L S0 Γ' Θ σ τ S' → Q Γ' b → Qv b S'.h) → t σ S.h Qv
structure DE where
  nx : List Cell → Prop
  rt : List Cell → Dat → Prop
  bk : List Cell → Prop := fun _ => False
  ct : List Cell → Prop := fun _ => False
def VS (t : TS) (R : DE) : Prop := ∀ (L : Addr → Prop) (S0 : Hs) (σ : L2.St) (τ : List V) (S : Hs) (D : Ends), Env K L S0 Γ Θ σ τ S →
  (∀ Γ' σ' S', Env K L S0 Γ' Θ σ' τ S' → R.nx Γ' → D.nx σ' S'.h) → (∀ Γ' σ' S' v d, Env K L S0 Γ' Θ σ' τ S' → Dq S'.b v d → R.rt Γ' d → D.rt v S'.h) →
  (∀ Γ' σ' S', Env K L S0 Γ' Θ σ' τ S' → R.bk Γ' → D.bk σ' S'.h) → (∀ Γ' σ' S', Env K L S0 Γ' Θ σ' τ S' → R.ct Γ' → D.ct σ' S'.h) → t D σ S.h
end
/-- what is under way becomes data -/
def Fz (Γ : List Cell) (Q : List Cell → Dat → Prop) : Tmp → Prop
  | .dt d => Q Γ d
  | .fr ds => Q Γ (.list ds)
  | .br i => ∃ ds, Γ[i]? = some (.ow ds) ∧ Q (Γ.set i (.dt (.list ds))) (.list ds)
  | .sc _ => False
  | .ob _ => False
  | .li _ => False
section
variable {K : PySem.W.Frag} {Γ : List Cell} {Θ : List Tmp}
theorem vd_of {t : TE} {Q : List Cell → Dat → Prop} (h : VE K Γ Θ t fun Γ1 c => Fz Γ1 Q c) : VD K Γ Θ t Q := fun L S0 σ τ S Qv E q => h L S0 σ τ S Qv E fun Γ' S' v c E' z => by
  cases c with
  | dt d => exact q Γ' S' v d E' z
  | fr ds =>
    obtain ⟨S2, e, E2⟩ := E'.frzTop
    rw [← e]
    exact q Γ' S2 v _ E2 z
  | br i =>
    obtain ⟨ds, hi, z⟩ := z
    obtain ⟨S2, e, E2⟩ := E'.frzSlot hi
    rw [← e]
    obtain ⟨w, h1, z2, h2⟩ := id E2.ok
    have hl := (List.getElem?_eq_some_iff.mp hi).1
    obtain ⟨u, eu, qu⟩ := h1 i _ (List.getElem?_set_self hl)
    have z2' : σ[i]? = some (some v) := z2
    rw [z2'] at eu; cases eu
    exact q _ S2 v _ (E2.pop.push qu) z
  | sc ns => exact z.elim
  | ob pp => exact z.elim
  | li R => exact z.elim
theorem ve_mono {t : TE} {Q Q' : List Cell → Tmp → Prop} (h : VE K Γ Θ t Q) (f : ∀ Γ c, Q Γ c → Q' Γ c) : VE K Γ Θ t Q' := fun L S0 σ τ S Qv E q => h L S0 σ τ S Qv E fun Γ' S' v c E' z => q Γ' S' v c E' (f _ _ z)
/-! names, constants -/
theorem ve_var {i : Nat} {d : Dat} {Q : List Cell → Tmp → Prop} (h : Γ[i]? = some (.dt d)) (q : Q Γ (.dt d)) : VE K Γ Θ (tVar i) Q := fun L S0 σ τ S Qv E k => by
  obtain ⟨w, h1, h2⟩ := id E.ok
  obtain ⟨v, e, p⟩ := h1 i _ h
  exact ⟨v, e, k Γ S v _ (E.push p) q⟩
theorem ve_own {i : Nat} {c : Cell} {ds : List Dat} {Q : List Cell → Tmp → Prop} (h : Γ[i]? = some c) (hc : c.ls = some ds) (q : Q Γ (.br i)) : VE K Γ Θ (tVar i) Q := fun L S0 σ τ S Qv E k => by
  obtain ⟨a, vs, e, _⟩ := E.mutSlot h hc
  exact ⟨_, e, k Γ S _ _ (E.pushBr e) q⟩
theorem ve_c {v : V} {Q : List Cell → Tmp → Prop} (hs : sc v = true) (q : Q Γ (.dt (vd v))) : VE K Γ Θ (tC v) Q := fun L S0 σ τ S Qv E k => k Γ S v _ (E.push (dp_sc hs)) q
theorem ve_int {i : Int} {Q : List Cell → Tmp → Prop} (q : Q Γ (.dt (.int i))) : VE K Γ Θ (tC (.int i)) Q := ve_c rfl q
theorem ve_bl {i : Bool} {Q : List Cell → Tmp → Prop} (q : Q Γ (.dt (.bool i))) : VE K Γ Θ (tC (.bl i)) Q := ve_c rfl q
theorem ve_non {Q : List Cell → Tmp → Prop} (q : Q Γ (.dt .none)) : VE K Γ Θ (tC .non) Q := ve_c rfl q
theorem ve_str {x : Str} {Q : List Cell → Tmp → Prop} (q : Q Γ (.dt (.str x))) : VE K Γ Θ (tC (.str x)) Q := ve_c rfl q
/-! operators by two values -/
def R2V (K : PySem.W.Frag) (r : R2) (Γ : List Cell) (Θ : List Tmp) (x y : Tmp) (Q : List Cell → Tmp → Prop) : Prop := ∀ (L : Addr → Prop) (S0 : Hs) (σ : L2.St) (τ : List V) (S : Hs) (vx vy : V) (Qv : VK), Env K L S0 Γ (y :: x :: Θ) σ (vy :: vx :: τ) S →
  (∀ Γ' S' v c, Env K L S0 Γ' (c :: Θ) σ (v :: τ) S' → Q Γ' c → Qv v S'.h) → r vx vy S.h Qv
theorem ve_op {r : R2} {ta tb : TE} {Q : List Cell → Tmp → Prop} (h : VE K Γ Θ ta fun Γ1 x => VE K Γ1 (x :: Θ) tb fun Γ2 y => R2V K r Γ2 Θ x y Q) : VE K Γ Θ (tOp r ta tb) Q := fun L S0 σ τ S Qv E k =>
  h L S0 σ τ S _ E fun Γ1 S1 vx x E1 h1 => h1 L S0 σ _ S1 _ E1 fun Γ2 S2 vy y E2 h2 => h2 L S0 σ τ S2 vx vy Qv E2 k
theorem r2_ii {f : Int → Int → Int} {i j : Int} {Q : List Cell → Tmp → Prop} (q : Q Γ (.dt (.int (f i j)))) : R2V K (rI0 fun i j => .int (f i j)) Γ Θ (.dt (.int i)) (.dt (.int j)) Q := fun L S0 σ τ S vx vy Qv E k =>
  ⟨i, j, dp_int E.pop.dt, dp_int E.dt, k Γ S _ _ (E.pop.pop.push (.int _)) q⟩
theorem r2_ib {f : Int → Int → Bool} {i j : Int} {Q : List Cell → Tmp → Prop} (q : Q Γ (.dt (.bool (f i j)))) : R2V K (rI0 fun i j => .bl (f i j)) Γ Θ (.dt (.int i)) (.dt (.int j)) Q := fun L S0 σ τ S vx vy Qv E k =>
  ⟨i, j, dp_int E.pop.dt, dp_int E.dt, k Γ S _ _ (E.pop.pop.push (.bl _)) q⟩
theorem r2_ic {C : Int → Int → Prop} {f : Int → Int → Int} {i j : Int} {Q : List Cell → Tmp → Prop} (hc : C i j) (q : Q Γ (.dt (.int (f i j)))) : R2V K (rI C fun i j => .int (f i j)) Γ Θ (.dt (.int i)) (.dt (.int j)) Q := fun L S0 σ τ S vx vy Qv E k =>
  ⟨i, j, dp_int E.pop.dt, dp_int E.dt, hc, k Γ S _ _ (E.pop.pop.push (.int _)) q⟩
theorem r2_eqD {x y : Tmp} {d e : Dat} {Q : List Cell → Tmp → Prop} (hx : rd Γ x d) (hy : rd Γ y e) (sd : SeqAt.shaped d = true) (se : SeqAt.shaped e = true) (q : Q Γ (.dt (.bool (PyData.eqv d e)))) : R2V K (rEqD K) Γ Θ x y Q := fun L S0 σ τ S vx vy Qv E k =>
  ⟨d, e, dq_dp _ _ (E.pop.rd hx), dq_dp _ _ (E.rd hy), sd, se, k Γ S _ _ (E.pop.pop.push (.bl _)) q⟩
theorem r2_neD {x y : Tmp} {d e : Dat} {Q : List Cell → Tmp → Prop} (hx : rd Γ x d) (hy : rd Γ y e) (sd : SeqAt.shaped d = true) (se : SeqAt.shaped e = true) (q : Q Γ (.dt (.bool (!PyData.eqv d e)))) : R2V K (rNeD K) Γ Θ x y Q := fun L S0 σ τ S vx vy Qv E k =>
  ⟨d, e, dq_dp _ _ (E.pop.rd hx), dq_dp _ _ (E.rd hy), sd, se, k Γ S _ _ (E.pop.pop.push (.bl _)) q⟩
end
end Ld
set_option Elab.async false
set_option linter.all false
set_option maxRecDepth 100000
namespace Ld
open PySem PySem.Spec PyProof.Rows L2 Lx
section
variable {K : PySem.W.Frag} {Γ : List Cell} {Θ : List Tmp}
/-! ### tests -/
theorem vt_mono {t : TT} {Q Q' : List Cell → Bool → Prop} (h : VT K Γ Θ t Q) (f : ∀ Γ b, Q Γ b → Q' Γ b) : VT K Γ Θ t Q' := fun L S0 σ τ S Qv E k => h L S0 σ τ S Qv E fun Γ' S' b E' q => k Γ' S' b E' (f _ _ q)
def AsB (Γ : List Cell) (Q : List Cell → Bool → Prop) : Tmp → Prop
  | .dt (.bool b) => Q Γ b
  | _ => False
theorem asB_ok {L : Addr → Prop} {S0 S : Hs} {σ : L2.St} {τ : List V} {v : V} {c : Tmp} {Q : List Cell → Bool → Prop} (E : Env K L S0 Γ (c :: Θ) σ (v :: τ) S) (h : AsB Γ Q c) : ∃ b, v = .bl b ∧ Q Γ b := by
  cases c with
  | dt d =>
    cases d with
    | bool b => exact ⟨b, dp_bool E.dt, h⟩
    | _ => exact h.elim
  | _ => exact h.elim
theorem vt_B {te : TE} {Q : List Cell → Bool → Prop} (h : VE K Γ Θ te fun Γ1 c => AsB Γ1 Q c) : VT K Γ Θ (tB te) Q := fun L S0 σ τ S Qv E k => h L S0 σ τ S _ E fun Γ' S' v c E' q => by
  obtain ⟨b, e, q⟩ := asB_ok E' q
  exact ⟨b, e, k _ _ _ E'.pop q⟩
theorem vt_test {te : TE} {Q : List Cell → Bool → Prop} (h : VE K Γ Θ te fun Γ1 c => AsB Γ1 Q c) : VT K Γ Θ (tTest te) Q := fun L S0 σ τ S Qv E k => h L S0 σ τ S _ E fun Γ' S' v c E' q => by
  obtain ⟨b, e, q⟩ := asB_ok E' q
  exact ⟨b, e, k _ _ _ E'.pop q⟩
theorem vt_and {t u : TT} {Q : List Cell → Bool → Prop} (h : VT K Γ Θ t fun Γ1 b => (b = true → VT K Γ1 Θ u Q) ∧ (b = false → Q Γ1 false)) : VT K Γ Θ (tAnd t u) Q := fun L S0 σ τ S Qv E k => h L S0 σ τ S _ E fun Γ' S' b E' q => by
  cases b with
  | true => rw [if_pos rfl]; exact q.1 rfl L S0 σ τ S' Qv E' k
  | false => rw [if_neg Bool.false_ne_true]; exact k _ _ _ E' (q.2 rfl)
theorem vt_or {t u : TT} {Q : List Cell → Bool → Prop} (h : VT K Γ Θ t fun Γ1 b => (b = true → Q Γ1 true) ∧ (b = false → VT K Γ1 Θ u Q)) : VT K Γ Θ (tOr t u) Q := fun L S0 σ τ S Qv E k => h L S0 σ τ S _ E fun Γ' S' b E' q => by
  cases b with
  | true => rw [if_pos rfl]; exact k _ _ _ E' (q.1 rfl)
  | false => rw [if_neg Bool.false_ne_true]; exact q.2 rfl L S0 σ τ S' Qv E' k
theorem vt_not {t : TT} {Q : List Cell → Bool → Prop} (h : VT K Γ Θ t fun Γ1 b => Q Γ1 (!b)) : VT K Γ Θ (tNot t) Q := fun L S0 σ τ S Qv E k => h L S0 σ τ S _ E fun Γ' S' b E' q => k _ _ _ E' q
theorem vt_yes {Q : List Cell → Bool → Prop} (h : Q Γ true) : VT K Γ Θ tYes Q := fun L S0 σ τ S Qv E k => k Γ S true E h
theorem ve_ifE {t : TT} {ta tb : TE} {Q : List Cell → Tmp → Prop} (h : VT K Γ Θ t fun Γ1 b => (b = true → VE K Γ1 Θ ta Q) ∧ (b = false → VE K Γ1 Θ tb Q)) : VE K Γ Θ (tIf t ta tb) Q := fun L S0 σ τ S Qv E k => h L S0 σ τ S _ E fun Γ' S' b E' q => by
  cases b with
  | true => rw [if_pos rfl]; exact q.1 rfl L S0 σ τ S' Qv E' k
  | false => rw [if_neg Bool.false_ne_true]; exact q.2 rfl L S0 σ τ S' Qv E' k
theorem ve_andV {ta tb : TE} {Q : List Cell → Tmp → Prop} (h : VE K Γ Θ ta fun Γ1 c => AsB Γ1 (fun Γ1 b => (b = true → VE K Γ1 Θ tb Q) ∧ (b = false → Q Γ1 (.dt (.bool false)))) c) : VE K Γ Θ (tAndV ta tb) Q := fun L S0 σ τ S Qv E k => h L S0 σ τ S _ E fun Γ' S' v c E' q => by
  obtain ⟨b, e, q⟩ := asB_ok E' q
  refine ⟨b, e, ?_⟩
  cases b with
  | true => rw [if_pos rfl]; exact q.1 rfl L S0 σ τ S' Qv E'.pop k
  | false => rw [if_neg Bool.false_ne_true]; exact k _ _ _ _ (E'.pop.push (.bl _)) (q.2 rfl)
theorem ve_orV {ta tb : TE} {Q : List Cell → Tmp → Prop} (h : VE K Γ Θ ta fun Γ1 c => AsB Γ1 (fun Γ1 b => (b = true → Q Γ1 (.dt (.bool true))) ∧ (b = false → VE K Γ1 Θ tb Q)) c) : VE K Γ Θ (tOrV ta tb) Q := fun L S0 σ τ S Qv E k => h L S0 σ τ S _ E fun Γ' S' v c E' q => by
  obtain ⟨b, e, q⟩ := asB_ok E' q
  refine ⟨b, e, ?_⟩
  cases b with
  | true => rw [if_pos rfl]; exact k _ _ _ _ (E'.pop.push (.bl _)) (q.1 rfl)
  | false => rw [if_neg Bool.false_ne_true]; exact q.2 rfl L S0 σ τ S' Qv E'.pop k
theorem ve_notV {ta : TE} {Q : List Cell → Tmp → Prop} (h : VE K Γ Θ ta fun Γ1 c => AsB Γ1 (fun Γ1 b => Q Γ1 (.dt (.bool (!b)))) c) : VE K Γ Θ (tNotV ta) Q := fun L S0 σ τ S Qv E k => h L S0 σ τ S _ E fun Γ' S' v c E' q => by
  obtain ⟨b, e, q⟩ := asB_ok E' q
  exact ⟨b, e, k _ _ _ _ (E'.pop.push (.bl _)) q⟩
theorem ve_chain {r r' : R2} {ta tb tc : TE} {Q : List Cell → Tmp → Prop}
    (h : VE K Γ Θ ta fun Γ1 x => VE K Γ1 (x :: Θ) tb fun Γ2 y => (∃ d, y = .dt d) ∧ R2V K r Γ2 (y :: Θ) x y fun Γ3 z => AsB Γ3 (fun Γ3 b => (b = true → VE K Γ3 (y :: Θ) tc fun Γ4 w => R2V K r' Γ4 Θ y w Q) ∧ (b = false → Q Γ3 (.dt (.bool false)))) z) : VE K Γ Θ (tChain r r' ta tb tc) Q := fun L S0 σ τ S Qv E k =>
  h L S0 σ τ S _ E fun Γ1 S1 vx x E1 h1 => h1 L S0 σ _ S1 _ E1 fun Γ2 S2 vy y E2 ⟨⟨d, ed⟩, h2⟩ => by
    subst ed
    have E3 : Env K L S0 Γ2 (.dt d :: x :: .dt d :: Θ) σ (vy :: vx :: vy :: τ) S2 := by
      obtain ⟨w, g1, g2, g3, g4⟩ := E2.ok
      refine ⟨E2.gr, E2.sub, E2.len, fun a => match w a with
        | some (.inr n) => if n = Θ.length then some (.inr (n + 1)) else some (.inr n)
        | o => o, fun i c e => ?_, g2, ?_, g2, g4.imp fun n u t hn q => ?_⟩
      · have q := g1 i c e
        cases c with
        | no => trivial
        | dt d => exact q
        | ow ds => obtain ⟨a, e, o, n⟩ := q; exact ⟨a, e, ⟨o.nb, by simp only [o.at_], o.is⟩, n⟩
        | ln ds => obtain ⟨a, e, o, n⟩ := q; exact ⟨a, e, ⟨o.nb, by simp only [o.at_], o.is⟩, n⟩
        | sc ns => exact q
        | ob pp => obtain ⟨a, e, o, n⟩ := q; exact ⟨a, e, ⟨o.nb, by simp only [o.at_], o.is⟩, n⟩
        | li R => obtain ⟨a, e, o⟩ := q; exact ⟨a, e, o.reK (fun x ho => by simp only [ho]) fun _ h => h⟩
      · cases x with
        | dt d => exact g3
        | fr ds => obtain ⟨a, e, o, n⟩ := g3; exact ⟨a, e, ⟨o.nb, by simp only [o.at_, if_pos, List.length_cons], o.is⟩, n⟩
        | br i => exact g3
        | sc ns => exact g3
        | ob pp => obtain ⟨a, e, o, n⟩ := g3; exact ⟨a, e, ⟨o.nb, by simp only [o.at_, if_pos, List.length_cons], o.is⟩, n⟩
        | li R => obtain ⟨a, e, o⟩ := g3; exact ⟨a, e, o.reK (fun x ho => by simp only [ho, if_pos, List.length_cons]) fun _ h => h⟩
      · cases t with
        | dt d => exact q
        | fr ds => obtain ⟨a, e, o, m⟩ := q; exact ⟨a, e, ⟨o.nb, by simp only [o.at_, if_neg (Nat.ne_of_lt hn)], o.is⟩, m⟩
        | br i => exact q
        | sc ns => exact q
        | ob pp => obtain ⟨a, e, o, m⟩ := q; exact ⟨a, e, ⟨o.nb, by simp only [o.at_, if_neg (Nat.ne_of_lt hn)], o.is⟩, m⟩
        | li R => obtain ⟨a, e, o⟩ := q; exact ⟨a, e, o.reK (fun x ho => by simp only [ho, if_neg (Nat.ne_of_lt hn)]) fun _ h => h⟩
    refine h2 L S0 σ (vy :: τ) S2 vx vy _ E3 fun Γ3 S3 z c E4 h3 => ?_
    obtain ⟨b, e, q⟩ := asB_ok E4 h3
    refine ⟨b, e, ?_⟩
    cases b with
    | true => rw [if_pos rfl]; exact q.1 rfl L S0 σ (vy :: τ) S3 _ E4.pop fun Γ4 S4 vw w E5 h5 => h5 L S0 σ τ S4 vy vw Qv E5 k
    | false => rw [if_neg Bool.false_ne_true]; exact k _ _ _ _ (E4.pop.pop.push (.bl _)) (q.2 rfl)
/-! ### more operators by values -/
def isNo : Dat → Bool
  | .none => true
  | _ => false
theorem dp_isNo {H : Hp} {v : V} {d : Dat} (h : Dq H v d) : decide (v = .non) = isNo d := by cases h <;> rfl
def rIsN : R2 := fun x y H Q => y = .non ∧ Q (.bl (decide (x = .non))) H
def rNotN : R2 := fun x y H Q => y = .non ∧ Q (.bl (!decide (x = .non))) H
theorem oi_isN {X : Cx} : OpR X (compareOp .Is) rIsN := op_isN
theorem oi_notN {X : Cx} : OpR X (compareOp .IsNot) rNotN := op_notN
theorem r2_isN {x : Tmp} {d : Dat} {Q : List Cell → Tmp → Prop} (hx : rd Γ x d) (q : Q Γ (.dt (.bool (isNo d)))) : R2V K rIsN Γ Θ x (.dt .none) Q := fun L S0 σ τ S vx vy Qv E k =>
  ⟨dp_none E.dt, by rw [dp_isNo (E.pop.rd hx)]; exact k Γ S _ _ (E.pop.pop.push (.bl _)) q⟩
theorem r2_notN {x : Tmp} {d : Dat} {Q : List Cell → Tmp → Prop} (hx : rd Γ x d) (q : Q Γ (.dt (.bool (!isNo d)))) : R2V K rNotN Γ Θ x (.dt .none) Q := fun L S0 σ τ S vx vy Qv E k =>
  ⟨dp_none E.dt, by rw [dp_isNo (E.pop.rd hx)]; exact k Γ S _ _ (E.pop.pop.push (.bl _)) q⟩
def rIsBl : R2 := fun x y H Q => ∃ a b : Bool, x = .bl a ∧ y = .bl b ∧ Q (.bl (decide (a = b))) H
def rNotBl : R2 := fun x y H Q => ∃ a b : Bool, x = .bl a ∧ y = .bl b ∧ Q (.bl (!decide (a = b))) H
theorem r2_isB {a b : Bool} {Q : List Cell → Tmp → Prop} (q : Q Γ (.dt (.bool (decide (a = b))))) : R2V K rIsBl Γ Θ (.dt (.bool a)) (.dt (.bool b)) Q := fun L S0 σ τ S vx vy Qv E k =>
  ⟨a, b, dp_bool E.pop.dt, dp_bool E.dt, k Γ S _ _ (E.pop.pop.push (.bl _)) q⟩
theorem r2_notB {a b : Bool} {Q : List Cell → Tmp → Prop} (q : Q Γ (.dt (.bool (!decide (a = b))))) : R2V K rNotBl Γ Θ (.dt (.bool a)) (.dt (.bool b)) Q := fun L S0 σ τ S vx vy Qv E k =>
  ⟨a, b, dp_bool E.pop.dt, dp_bool E.dt, k Γ S _ _ (E.pop.pop.push (.bl _)) q⟩
/-- x in a flat list or tuple -/
def flD : Dat → Bool
  | .none => true
  | .bool _ => true
  | .int _ => true
  | .str _ => true
  | _ => false
def eqF : Dat → Dat → Bool
  | .none, .none => true
  | .bool a, .bool b => a == b
  | .bool a, .int b => (if a then 1 else 0) == b
  | .int a, .bool b => a == (if b then 1 else 0)
  | .int a, .int b => a == b
  | .str a, .str b => a == b
  | _, _ => false
theorem dq_flat {H : Hp} {v : V} {d : Dat} (h : Dq H v d) (f : flD d = true) : flatV v = true := by
  cases h <;> first | rfl | cases f
theorem dq_eqF {H : Hp} {u v : V} {d e : Dat} (h : Dq H u d) (g : Dq H v e) (f1 : flD d = true) (f2 : flD e = true) : eqV u v = eqF d e := by
  cases h <;> first | (cases g <;> first | rfl | cases f2) | cases f1
theorem dqa_flat {H : Hp} : ∀ {vs : List V} {ds : List Dat}, DqAll H vs ds → ds.all flD = true → vs.all flatV = true
  | _, _, .nil, _ => rfl
  | _, _, .cons h t, f => by
    rw [List.all_cons, Bool.and_eq_true] at f
    rw [List.all_cons, dq_flat h f.1, dqa_flat t f.2, Bool.and_true]
theorem dqa_in {H : Hp} {v : V} {e : Dat} (g : Dq H v e) (f2 : flD e = true) : ∀ {vs : List V} {ds : List Dat}, DqAll H vs ds → ds.all flD = true → inV v vs = ds.any fun d => eqF d e
  | _, _, .nil, _ => rfl
  | _, _, .cons h t, f => by
    rw [List.all_cons, Bool.and_eq_true] at f
    show (eqV _ v || inV v _) = _
    rw [List.any_cons, dq_eqF h g f.1 f2, dqa_in g f2 t f.2]
def SeqD (Γ : List Cell) (x : Tmp) (ds : List Dat) : Prop := rd Γ x (.list ds) ∨ rd Γ x (.tuple ds)
theorem seqD_ok {L : Addr → Prop} {S0 S : Hs} {σ : L2.St} {τ : List V} {v : V} {c : Tmp} {ds : List Dat} (E : Env K L S0 Γ (c :: Θ) σ (v :: τ) S) (h : SeqD Γ c ds) : ∃ a xs, v = .ref a ∧ (SqL K S.h a xs ∨ SqT K S.h a xs) ∧ DqAll S.h xs ds := by
  rcases h with h | h
  · obtain ⟨a, xs, e, q, p⟩ := dp_list (E.rd h)
    exact ⟨a, xs, e, .inl (.of q), p⟩
  · obtain ⟨a, o, xs, e, _, q, p⟩ := dp_tup (E.rd h)
    exact ⟨a, xs, e, .inr (sqt_f q), p⟩
theorem r2_in {x y : Tmp} {e : Dat} {ds : List Dat} {Q : List Cell → Tmp → Prop} (hx : rd Γ x e) (hy : SeqD Γ y ds) (f1 : flD e = true) (f2 : ds.all flD = true) (q : Q Γ (.dt (.bool (ds.any fun d => eqF d e)))) : R2V K (rIn K false) Γ Θ x y Q := fun L S0 σ τ S vx vy Qv E k => by
  obtain ⟨a, xs, ev, h, p⟩ := seqD_ok E hy
  have g := E.pop.rd hx
  refine ⟨a, xs, ev, h, dq_flat g f1, dqa_flat p f2, ?_⟩
  rw [if_neg Bool.false_ne_true, dqa_in g f1 p f2]
  exact k Γ S _ _ (E.pop.pop.push (.bl _)) q
/-- the script's items -/
theorem r2_ixS {i : Int} {ns : List Int} {n : Int} {Q : List Cell → Tmp → Prop} (h : atI ns i = some n) (q : Q Γ (.dt (.int n))) : R2V K (rIxL K) Γ Θ (.sc ns) (.dt (.int i)) Q := fun L S0 σ τ S vx vy Qv E k => by
  obtain ⟨w, a, ea, hs⟩ := E.pop.top
  refine ⟨a, ns.map V.int, i, .int n, ea, dp_int E.dt, E.sub.seq hs, ?_, k Γ S _ _ (E.pop.pop.push (.int _)) q⟩
  unfold atI at h ⊢
  rw [List.length_map]
  cases e : ixN ns.length i with
  | none => rw [e] at h; cases h
  | some j =>
    rw [e] at h
    show (ns.map V.int)[j]? = _
    rw [List.getElem?_map, show ns[j]? = some n from h] <;> rfl
end
end Ld
set_option Elab.async false
set_option linter.all false
set_option maxRecDepth 100000
namespace Ld
open PySem PySem.Spec PyProof.Rows L2 Lx
section
variable {K : PySem.W.Frag} {Γ : List Cell} {Θ : List Tmp}
/-! ### tuples put together -/
theorem dqa_rep {H : Hp} {vs : List V} {ds : List Dat} (h : DqAll H vs ds) : ∀ n : Nat, DqAll H (List.replicate n vs).flatten (List.replicate n ds).flatten
  | 0 => .nil
  | n + 1 => by
    rw [List.replicate_succ, List.replicate_succ, List.flatten_cons, List.flatten_cons]
    exact h.app (dqa_rep h n)
theorem r2_rep {x : Tmp} {ds : List Dat} {j : Int} {Q : List Cell → Tmp → Prop} (hx : x = .dt (.list ds) ∨ x = .fr ds) (h1 : -(2 ^ 63) ≤ j) (h2 : j < 2 ^ 63) (hz : ds.length * j.toNat ≤ sizeLine) (q : Q Γ (.fr (List.replicate j.toNat ds).flatten)) :
    R2V K rRep Γ Θ x (.dt (.int j)) Q := fun L S0 σ τ S vx vy Qv E k => by
  obtain ⟨a, xs, ea, qa, pa⟩ : ∃ a xs, vx = .ref a ∧ S.h a = some (.lst xs) ∧ DqAll S.b xs ds := by
    have E1 := E.pop
    rcases hx with rfl | rfl
    · obtain ⟨a, xs, e, q, p⟩ := dp_list E1.dt
      exact ⟨a, xs, e, E.sub _ _ q, p⟩
    · obtain ⟨w, a, e, o, _⟩ := E1.top
      obtain ⟨_, _, us, q, p⟩ := o
      exact ⟨a, us, e, q, p⟩
  exact ⟨a, j, xs, ea, dp_int E.dt, qa, h1, h2, by rw [pa.len]; exact hz, fun p hp => k Γ _ _ _ (E.pop.pop.newLst hp (dqa_rep pa _)) q⟩
/-! ### a sign -/
theorem ve_un {r : V → Hp → VK → Prop} {f : Int → Int} {ta : TE} {Q : List Cell → Tmp → Prop} (hr : r = rU fun i => .int (f i)) (h : VE K Γ Θ ta fun Γ1 x => ∃ i, x = .dt (.int i) ∧ Q Γ1 (.dt (.int (f i)))) : VE K Γ Θ (tUn r ta) Q := fun L S0 σ τ S Qv E k => h L S0 σ τ S _ E fun Γ1 S1 v x E1 ⟨i, ex, q⟩ => by
  subst ex hr
  exact ⟨i, dp_int E1.dt, k Γ1 S1 _ _ (E1.pop.push (.int _)) q⟩
/-! ### argument lists -/
inductive Arg where
  | dt (d : Dat) | sc (ns : List Int)
def Arg.tmp : Arg → Tmp
  | .dt d => .dt d
  | .sc ns => .sc ns
def Arg.cell : Arg → Cell
  | .dt d => .dt d
  | .sc ns => .sc ns
def ArgOk (K : PySem.W.Frag) (B : Hp) (v : V) : Arg → Prop
  | .dt d => Dq B v d
  | .sc ns => ∃ a, v = .ref a ∧ SqL K B a (ns.map V.int)
inductive ArgsOk (K : PySem.W.Frag) (B : Hp) : List V → List Arg → Prop
  | nil : ArgsOk K B [] []
  | cons {v : V} {vs : List V} {a : Arg} {as : List Arg} : ArgOk K B v a → ArgsOk K B vs as → ArgsOk K B (v :: vs) (a :: as)
theorem ArgsOk.len {B : Hp} : ∀ {vs : List V} {as : List Arg}, ArgsOk K B vs as → vs.length = as.length
  | _, _, .nil => rfl
  | _, _, .cons _ t => by rw [List.length_cons, List.length_cons, t.len]
def VX (K : PySem.W.Frag) (Γ : List Cell) (Θ : List Tmp) (t : TE) (Q : List Cell → Arg → Prop) : Prop := ∀ (L : Addr → Prop) (S0 : Hs) (σ : L2.St) (τ : List V) (S : Hs) (Qv : VK), Env K L S0 Γ Θ σ τ S →
  (∀ Γ' S' v a, Env K L S0 Γ' (a.tmp :: Θ) σ (v :: τ) S' → Q Γ' a → Qv v S'.h) → t σ S.h Qv
def VAX (K : PySem.W.Frag) (Γ : List Cell) (Θ : List Tmp) (t : TA) (Q : List Cell → List Arg → Prop) : Prop := ∀ (L : Addr → Prop) (S0 : Hs) (σ : L2.St) (τ : List V) (S : Hs) (Qv : List V → Hp → Prop), Env K L S0 Γ Θ σ τ S →
  (∀ Γ' S' vs as, Env K L S0 Γ' Θ σ τ S' → ArgsOk K S'.b vs as → Q Γ' as → Qv vs S'.h) → t σ S.h Qv
/-- what is under way becomes an argument -/
def Az (Γ : List Cell) (Q : List Cell → Arg → Prop) : Tmp → Prop
  | .dt d => Q Γ (.dt d)
  | .fr ds => Q Γ (.dt (.list ds))
  | .br i => ∃ ds, Γ[i]? = some (.ow ds) ∧ Q (Γ.set i (.dt (.list ds))) (.dt (.list ds))
  | .sc ns => Q Γ (.sc ns)
  | .ob _ => False
  | .li _ => False
theorem vx_of {t : TE} {Q : List Cell → Arg → Prop} (h : VE K Γ Θ t fun Γ1 c => Az Γ1 Q c) : VX K Γ Θ t Q := fun L S0 σ τ S Qv E q => h L S0 σ τ S Qv E fun Γ' S' v c E' z => by
  cases c with
  | dt d => exact q Γ' S' v (.dt d) E' z
  | fr ds =>
    obtain ⟨S2, e, E2⟩ := E'.frzTop
    rw [← e]
    exact q Γ' S2 v (.dt _) E2 z
  | sc ns => exact q Γ' S' v (.sc ns) E' z
  | ob pp => exact z.elim
  | li R => exact z.elim
  | br i =>
    obtain ⟨ds, hi, z⟩ := z
    obtain ⟨S2, e, E2⟩ := E'.frzSlot hi
    rw [← e]
    obtain ⟨w, h1, z2, h2⟩ := id E2.ok
    have hl := (List.getElem?_eq_some_iff.mp hi).1
    obtain ⟨u, eu, qu⟩ := h1 i _ (List.getElem?_set_self hl)
    have z2' : σ[i]? = some (some v) := z2
    rw [z2'] at eu; cases eu
    exact q _ S2 v (.dt _) (E2.pop.push qu) z
theorem argOk_top {L : Addr → Prop} {S0 S : Hs} {σ : L2.St} {τ : List V} {v : V} {a : Arg} (E : Env K L S0 Γ (a.tmp :: Θ) σ (v :: τ) S) : ArgOk K S.b v a := by
  obtain ⟨w, z⟩ := E.top
  cases a with
  | dt d => exact z
  | sc ns => exact z
theorem vax_nil {Q : List Cell → List Arg → Prop} (q : Q Γ []) : VAX K Γ Θ tNil Q := fun L S0 σ τ S Qv E k => k Γ S [] [] E .nil q
theorem vax_cons {te : TE} {t : TA} {Q : List Cell → List Arg → Prop} (h : VX K Γ Θ te fun Γ1 a => VAX K Γ1 (a.tmp :: Θ) t fun Γ2 as => Q Γ2 (a :: as)) : VAX K Γ Θ (tCons te t) Q := fun L S0 σ τ S Qv E k =>
  h L S0 σ τ S _ E fun Γ1 S1 v a E1 h1 => h1 L S0 σ (v :: τ) S1 _ E1 fun Γ2 S2 vs as E2 p q => k Γ2 S2 (v :: vs) (a :: as) E2.pop (.cons (argOk_top E2) p) q
/-- arguments that are data -/
def dts : List Arg → Option (List Dat)
  | [] => some []
  | .dt d :: as => (dts as).map (d :: ·)
  | .sc _ :: _ => none
theorem dts_ok {B : Hp} : ∀ {vs : List V} {as : List Arg} {ds : List Dat}, ArgsOk K B vs as → dts as = some ds → DqAll B vs ds
  | _, _, _, .nil, h => by cases h; exact .nil
  | _, _, ds, .cons (a := .dt d) (as := as) h t, e => by
    unfold dts at e
    cases q : dts as with
    | none => rw [q] at e; cases e
    | some es =>
      rw [q] at e
      cases e
      exact .cons h (dts_ok t q)
  | _, _, _, .cons (a := .sc _) _ _, e => by cases e
/-! ### displays -/
theorem ve_tup {t : TA} {Q : List Cell → Tmp → Prop} (h : VAX K Γ Θ t fun Γ1 as => ∃ ds, dts as = some ds ∧ ds.length ≤ sizeLine ∧ Q Γ1 (.dt (.tuple ds))) : VE K Γ Θ (tTupF t) Q := fun L S0 σ τ S Qv E k => h L S0 σ τ S _ E fun Γ1 S1 vs as E1 p ⟨ds, e, z, q⟩ => by
  have g := dts_ok p e
  exact ⟨by rw [g.len]; exact z, fun l o hd hl => k Γ1 _ _ _ (E1.newTup hd hl g) q⟩
theorem ve_lst {t : TA} {Q : List Cell → Tmp → Prop} (h : VAX K Γ Θ t fun Γ1 as => ∃ ds, dts as = some ds ∧ ds.length ≤ sizeLine ∧ Q Γ1 (.fr ds)) : VE K Γ Θ (tLst t) Q := fun L S0 σ τ S Qv E k => h L S0 σ τ S _ E fun Γ1 S1 vs as E1 p ⟨ds, e, z, q⟩ => by
  have g := dts_ok p e
  exact ⟨by rw [g.len]; exact z, fun l hl => k Γ1 _ _ _ (E1.newLst hl g) q⟩
/-! ### calls of defs -/
theorem Env.lent {L : Addr → Prop} {S0 S S' : Hs} {σ : L2.St} {τ : List V} {a : Addr} {i : Nat} {c : Cell} {ds zs : List Dat} (E : Env K L S0 Γ Θ σ τ S) (hi : Γ[i]? = some c) (hc : c.ls = some ds) (ha : σ[i]? = some (some (.ref a)))
    (g : Gr (fun b => b = a) S S') (sub : Same S'.b S'.h) (nb : S'.b a = none) (h : ∃ us, S'.h a = some (.lst us) ∧ DqAll S'.b us zs) : Env K L S0 (Γ.set i (c.put zs)) Θ σ τ S' := by
  obtain ⟨w, h1, h2⟩ := E.ok
  have hil := (List.getElem?_eq_some_iff.mp hi).1
  obtain ⟨o, n0⟩ : Own w (.inl i) S a ds ∧ (S0.h a = none ∨ L a) := by
    have z := h1 i c hi
    cases c with
    | no => cases hc
    | dt d => cases hc
    | sc ns => cases hc
    | ob pp => cases hc
    | li R => cases hc
    | ow es => cases hc; obtain ⟨b, e, r, n⟩ := z; rw [ha] at e; cases e; exact ⟨r, .inl n⟩
    | ln es => cases hc; obtain ⟨b, e, r, n⟩ := z; rw [ha] at e; cases e; exact ⟨r, .inr n⟩
  have keep : ∀ {k : Sum Nat Nat} {b : Addr} {es : List Dat}, Own w k S b es → k ≠ .inl i → Own w k S' b es := fun {k b es} r n => by
    have ne : b ≠ a := r.apart o n
    obtain ⟨nb', e, us, q, p⟩ := r
    exact ⟨g.own b nb' (by rw [q]; exact fun z => nomatch z), e, us, g.h b _ ne q, dpa_mono g.b _ _ p⟩
  have keepO : ∀ {k : Sum Nat Nat} {b : Addr} {es : HO}, OwnO w k S b es → k ≠ .inl i → OwnO w k S' b es := fun {k b es} r n => by
    have ne : b ≠ a := (o.apartO r n.symm).symm
    obtain ⟨nb', e, q⟩ := r
    exact ⟨g.own b nb' (by rw [q]; exact fun z => nomatch z), e, g.h b _ ne q⟩
  have keepL : ∀ {k : Sum Nat Nat} {b : Addr} {R : Res} {N : Addr → Prop}, OwnL w k S b R N → k ≠ .inl i → OwnL w k S' b R N := fun {k b R N} r n => by
    obtain ⟨F, q, f⟩ := r
    have ne : ∀ x, F x → x ≠ a := fun x hx e => n (by
      have e1 := o.at_
      rw [← e, (f x hx).2.1] at e1
      exact Option.some.inj e1)
    refine ⟨F, R.frame q g.b fun x hx => ?_, fun x hx => ⟨g.own x (f x hx).1 (R.dom q hx), (f x hx).2⟩⟩
    cases e : S.h x with
    | none => exact absurd e (R.dom q hx)
    | some u => exact g.h x u (ne x hx) e
  refine ⟨E.gr.trans g fun b e => ?_, sub, by rw [List.length_set]; exact E.len, w, fun j c' e => ?_, h2.imp fun k u t hk z => ?_⟩
  · rw [e]; exact n0.symm
  · by_cases hj : i = j
    · subst hj
      rw [List.getElem?_set_self hil] at e
      have z := h1 i c hi
      cases c with
      | no => cases hc
      | dt d => cases hc
      | sc ns => cases hc
      | ob pp => cases hc
      | li R => cases hc
      | ow es => cases e; obtain ⟨b, e, r, n⟩ := z; rw [ha] at e; cases e; exact ⟨_, ha, ⟨nb, o.at_, h⟩, n⟩
      | ln es => cases e; obtain ⟨b, e, r, n⟩ := z; rw [ha] at e; cases e; exact ⟨_, ha, ⟨nb, o.at_, h⟩, n⟩
    · rw [List.getElem?_set_ne hj] at e
      have z := h1 j c' e
      cases c' with
      | no => trivial
      | dt d => obtain ⟨v, e, r⟩ := z; exact ⟨v, e, dp_mono g.b _ _ r⟩
      | ow es => obtain ⟨b, e, r, n⟩ := z; exact ⟨b, e, keep r (fun z => hj (Sum.inl.inj z).symm), n⟩
      | ln es => obtain ⟨b, e, r, n⟩ := z; exact ⟨b, e, keep r (fun z => hj (Sum.inl.inj z).symm), n⟩
      | sc ns => obtain ⟨b, e, r⟩ := z; exact ⟨b, e, g.b.seq r⟩
      | ob pp => obtain ⟨b, e, r, n⟩ := z; exact ⟨b, e, keepO r (fun z => hj (Sum.inl.inj z).symm), n⟩
      | li R => obtain ⟨b, e, r⟩ := z; exact ⟨b, e, keepL r (fun z => hj (Sum.inl.inj z).symm)⟩
  · cases t with
    | dt d => exact dp_mono g.b _ _ z
    | fr es => obtain ⟨b, e, r, n⟩ := z; exact ⟨b, e, keep r (fun z => nomatch z), n⟩
    | br j => exact z
    | sc ns => obtain ⟨b, e, r⟩ := z; exact ⟨b, e, g.b.seq r⟩
    | ob pp => obtain ⟨b, e, r, n⟩ := z; exact ⟨b, e, keepO r (fun z => nomatch z), n⟩
    | li R => obtain ⟨b, e, r⟩ := z; exact ⟨b, e, keepL r (fun z => nomatch z)⟩
theorem Env.own {L : Addr → Prop} {S0 S : Hs} {σ : L2.St} {τ : List V} {i : Nat} {c : Cell} {ds : List Dat} (E : Env K L S0 Γ Θ σ τ S) (hi : Γ[i]? = some c) (hc : c.ls = some ds) : ∃ a, σ[i]? = some (some (.ref a)) ∧ S.b a = none ∧ ∃ us, S.h a = some (.lst us) ∧ DqAll S.b us ds := by
  obtain ⟨w, h1, h2⟩ := E.ok
  have z := h1 i c hi
  cases c with
  | no => cases hc
  | dt d => cases hc
  | sc ns => cases hc
  | ob pp => cases hc
  | li R => cases hc
  | ow es => cases hc; obtain ⟨b, e, r, n⟩ := z; exact ⟨b, e, r.nb, r.is⟩
  | ln es => cases hc; obtain ⟨b, e, r, n⟩ := z; exact ⟨b, e, r.nb, r.is⟩
/-- slot i holds a list of one's own or a lent one -/
def IsLs (Γ : List Cell) (i : Nat) (ds : List Dat) : Prop := ∃ c, Γ[i]? = some c ∧ c.ls = some ds
/-- .. what it holds is changed -/
def putC (Γ : List Cell) (i : Nat) (ds : List Dat) : List Cell := match Γ[i]? with
  | some c => Γ.set i (c.put ds)
  | none => Γ
theorem putC_eq {i : Nat} {c : Cell} {ds : List Dat} (h : Γ[i]? = some c) : putC Γ i ds = Γ.set i (c.put ds) := by unfold putC; rw [h]
/-! ### built-ins by one value, two values -/
def C1V (K : PySem.W.Frag) (r : List V → Hp → VK → Prop) (Γ : List Cell) (Θ : List Tmp) (x : Tmp) (Q : List Cell → Tmp → Prop) : Prop := ∀ (L : Addr → Prop) (S0 : Hs) (σ : L2.St) (τ : List V) (S : Hs) (vx : V) (Qv : VK), Env K L S0 Γ (x :: Θ) σ (vx :: τ) S →
  (∀ Γ' S' v c, Env K L S0 Γ' (c :: Θ) σ (v :: τ) S' → Q Γ' c → Qv v S'.h) → r [vx] S.h Qv
def C2V (K : PySem.W.Frag) (r : List V → Hp → VK → Prop) (Γ : List Cell) (Θ : List Tmp) (x y : Tmp) (Q : List Cell → Tmp → Prop) : Prop := ∀ (L : Addr → Prop) (S0 : Hs) (σ : L2.St) (τ : List V) (S : Hs) (vx vy : V) (Qv : VK), Env K L S0 Γ (y :: x :: Θ) σ (vy :: vx :: τ) S →
  (∀ Γ' S' v c, Env K L S0 Γ' (c :: Θ) σ (v :: τ) S' → Q Γ' c → Qv v S'.h) → r [vx, vy] S.h Qv
theorem ve_c1 {r : List V → Hp → VK → Prop} {ta : TE} {Q : List Cell → Tmp → Prop} (h : VE K Γ Θ ta fun Γ1 x => C1V K r Γ1 Θ x Q) : VE K Γ Θ (tCB r (tCons ta tNil)) Q := fun L S0 σ τ S Qv E k =>
  h L S0 σ τ S _ E fun Γ1 S1 vx x E1 h1 => h1 L S0 σ τ S1 vx Qv E1 k
theorem ve_c2 {r : List V → Hp → VK → Prop} {ta tb : TE} {Q : List Cell → Tmp → Prop} (h : VE K Γ Θ ta fun Γ1 x => VE K Γ1 (x :: Θ) tb fun Γ2 y => C2V K r Γ2 Θ x y Q) : VE K Γ Θ (tCB r (tCons ta (tCons tb tNil))) Q := fun L S0 σ τ S Qv E k =>
  h L S0 σ τ S _ E fun Γ1 S1 vx x E1 h1 => h1 L S0 σ _ S1 _ E1 fun Γ2 S2 vy y E2 h2 => h2 L S0 σ τ S2 vx vy Qv E2 k
def rLenSeq (K : PySem.W.Frag) : List V → Hp → VK → Prop := fun xs H Q => ∃ p ys, xs = [.ref p] ∧ (SqL K H p ys ∨ SqT K H p ys) ∧ Q (.int ys.length) H
theorem cl_len {X : Cx} : CallR X (.builtin "len") (rLenSeq X.K) := call_len_seq
theorem c1_len {x : Tmp} {ds : List Dat} {Q : List Cell → Tmp → Prop} (hx : SeqD Γ x ds) (q : Q Γ (.dt (.int ds.length))) : C1V K (rLenSeq K) Γ Θ x Q := fun L S0 σ τ S vx Qv E k => by
  obtain ⟨a, xs, e, h, p⟩ := seqD_ok E hx
  exact ⟨a, xs, by rw [e], h, by rw [p.len]; exact k Γ S _ _ (E.pop.push (.int _)) q⟩
theorem c1_lenS {ns : List Int} {Q : List Cell → Tmp → Prop} (q : Q Γ (.dt (.int ns.length))) : C1V K (rLenSeq K) Γ Θ (.sc ns) Q := fun L S0 σ τ S vx Qv E k => by
  obtain ⟨w, a, ea, hs⟩ := E.top
  exact ⟨a, _, by rw [ea], .inl (E.sub.seq hs), by rw [List.length_map]; exact k Γ S _ _ (E.pop.push (.int _)) q⟩
def rMx2 : List V → Hp → VK → Prop := fun xs H Q => ∃ i j, xs = [.int i, .int j] ∧ Q (.int (if j > i then j else i)) H
def rMn2 : List V → Hp → VK → Prop := fun xs H Q => ∃ i j, xs = [.int i, .int j] ∧ Q (.int (if j < i then j else i)) H
theorem cl_min2 {X : Cx} (hc : X.calm = true) : CallR X (.builtin "min") rMn2 := call_min2 hc
theorem c2_max {i j : Int} {Q : List Cell → Tmp → Prop} (q : Q Γ (.dt (.int (max i j)))) : C2V K rMx2 Γ Θ (.dt (.int i)) (.dt (.int j)) Q := fun L S0 σ τ S vx vy Qv E k =>
  ⟨i, j, by rw [dp_int E.dt, dp_int E.pop.dt], by
    rw [show (if j > i then j else i) = max i j by split <;> omega]
    exact k Γ S _ _ (E.pop.pop.push (.int _)) q⟩
theorem c2_min {i j : Int} {Q : List Cell → Tmp → Prop} (q : Q Γ (.dt (.int (min i j)))) : C2V K rMn2 Γ Θ (.dt (.int i)) (.dt (.int j)) Q := fun L S0 σ τ S vx vy Qv E k =>
  ⟨i, j, by rw [dp_int E.dt, dp_int E.pop.dt], by
    rw [show (if j < i then j else i) = min i j by split <;> omega]
    exact k Γ S _ _ (E.pop.pop.push (.int _)) q⟩
theorem intsL {L : Addr → Prop} {S0 S : Hs} {σ : L2.St} {τ : List V} {v : V} {c : Tmp} {ns : List Int} (E : Env K L S0 Γ (c :: Θ) σ (v :: τ) S) (h : rd Γ c (.list (ns.map .int))) : ∃ a, v = .ref a ∧ SqL K S.h a (ns.map V.int) := by
  obtain ⟨a, xs, e, q, p⟩ := dp_list (E.rd h)
  rw [dpa_ints p] at q
  exact ⟨a, e, .of q⟩
theorem c1_sum {x : Tmp} {ns : List Int} {Q : List Cell → Tmp → Prop} (hx : rd Γ x (.list (ns.map .int))) (q : Q Γ (.dt (.int ns.sum))) : C1V K (L2.rSum K) Γ Θ x Q := fun L S0 σ τ S vx Qv E k => by
  obtain ⟨a, e, h⟩ := intsL E hx
  exact ⟨a, ns, by rw [e], h, k Γ S _ _ (E.pop.push (.int _)) q⟩
theorem boolsL {L : Addr → Prop} {S0 S : Hs} {σ : L2.St} {τ : List V} {v : V} {c : Tmp} {ns : List Bool} (E : Env K L S0 Γ (c :: Θ) σ (v :: τ) S) (h : rd Γ c (.list (ns.map .bool))) : ∃ a, v = .ref a ∧ SqL K S.h a (ns.map V.bl) := by
  obtain ⟨a, xs, e, q, p⟩ := dp_list (E.rd h)
  rw [dpa_bools p] at q
  exact ⟨a, e, .of q⟩
theorem c1_all {x : Tmp} {ns : List Bool} {Q : List Cell → Tmp → Prop} (hx : rd Γ x (.list (ns.map .bool))) (q : Q Γ (.dt (.bool (ns.all id)))) : C1V K (L2.rAll K) Γ Θ x Q := fun L S0 σ τ S vx Qv E k => by
  obtain ⟨a, e, h⟩ := boolsL E hx
  exact ⟨a, ns, by rw [e], h, k Γ S _ _ (E.pop.push (.bl _)) q⟩
def rInt1 : List V → Hp → VK → Prop := fun xs H Q => (∃ i, xs = [.int i] ∧ Q (.int i) H) ∨ ∃ k, xs = [.bl k] ∧ Q (.int (if k then 1 else 0)) H
theorem c1_intB {b : Bool} {Q : List Cell → Tmp → Prop} (q : Q Γ (.dt (.int (if b then 1 else 0)))) : C1V K rInt1 Γ Θ (.dt (.bool b)) Q := fun L S0 σ τ S vx Qv E k =>
  .inr ⟨b, by rw [dp_bool E.dt], k Γ S _ _ (E.pop.push (.int _)) q⟩
theorem c1_intI {b : Int} {Q : List Cell → Tmp → Prop} (q : Q Γ (.dt (.int b))) : C1V K rInt1 Γ Θ (.dt (.int b)) Q := fun L S0 σ τ S vx Qv E k =>
  .inl ⟨b, by rw [dp_int E.dt], k Γ S _ _ (E.pop.push (.int _)) q⟩
def rListOf (K : PySem.W.Frag) : List V → Hp → VK → Prop := fun xs H Q => ∃ p ys, xs = [.ref p] ∧ (SqL K H p ys ∨ SqT K H p ys) ∧ ∀ l, H l = none → Q (.ref l) (upd H l (.lst ys))
theorem rdB_l {L : Addr → Prop} {S0 S : Hs} {σ : L2.St} {τ : List V} {v : V} {c : Tmp} {ds : List Dat} (E : Env K L S0 Γ (c :: Θ) σ (v :: τ) S) (h : rd Γ c (.list ds)) : ∃ a us, v = .ref a ∧ S.h a = some (.lst us) ∧ DqAll S.b us ds := by
  obtain ⟨w, h1, z, h2⟩ := E.ok
  cases c with
  | dt e => cases h; obtain ⟨a, xs, e, q, p⟩ := dp_list (show Dq S.b v (.list ds) from z); exact ⟨a, xs, e, E.sub _ _ q, p⟩
  | fr es => cases h; obtain ⟨a, e, o, _⟩ := z; obtain ⟨_, _, us, q, p⟩ := o; exact ⟨a, us, e, q, p⟩
  | sc ns => exact h.elim
  | ob pp => exact h.elim
  | li R => exact h.elim
  | br i =>
    have z' : σ[i]? = some (some v) := z
    rcases h with h | ⟨es, e, h⟩
    · obtain ⟨u, e, q⟩ := h1 i _ h
      rw [z'] at e; cases e
      obtain ⟨a, xs, e, q, p⟩ := dp_list q
      exact ⟨a, xs, e, E.sub _ _ q, p⟩
    · cases e
      rcases h with h | h
      · obtain ⟨a, e, o, _⟩ := h1 i _ h
        rw [z'] at e; cases e
        obtain ⟨_, _, us, q, p⟩ := o
        exact ⟨a, us, rfl, q, p⟩
      · obtain ⟨a, e, o, _⟩ := h1 i _ h
        rw [z'] at e; cases e
        obtain ⟨_, _, us, q, p⟩ := o
        exact ⟨a, us, rfl, q, p⟩
theorem c1_listL {x : Tmp} {ds : List Dat} {Q : List Cell → Tmp → Prop} (hx : rd Γ x (.list ds)) (q : Q Γ (.fr ds)) : C1V K (rListOf K) Γ Θ x Q := fun L S0 σ τ S vx Qv E k => by
  obtain ⟨a, us, e, h, p⟩ := rdB_l E hx
  exact ⟨a, us, by rw [e], .inl (.of h), fun l hl => k Γ _ _ _ (E.pop.newLst hl p) q⟩
theorem c1_listT {ds : List Dat} {Q : List Cell → Tmp → Prop} (q : Q Γ (.fr ds)) : C1V K (rListOf K) Γ Θ (.dt (.tuple ds)) Q := fun L S0 σ τ S vx Qv E k => by
  obtain ⟨a, o, us, e, _, h, p⟩ := dp_tup E.dt
  exact ⟨a, us, by rw [e], .inr (sqt_f (E.sub _ _ h)), fun l hl => k Γ _ _ _ (E.pop.newLst hl p) q⟩
theorem c1_tupL {x : Tmp} {ds : List Dat} {Q : List Cell → Tmp → Prop} (hx : rd Γ x (.list ds)) (q : Q Γ (.dt (.tuple ds))) : C1V K (rTupOfF K) Γ Θ x Q := fun L S0 σ τ S vx Qv E k => by
  obtain ⟨a, us, e, h, p⟩ := rdB_l E hx
  exact ⟨a, us, by rw [e], .inl ⟨.of h, fun l o hd hl => k Γ _ _ _ (E.pop.newTup hd hl p) q⟩⟩
theorem c1_tupT {ds : List Dat} {Q : List Cell → Tmp → Prop} (q : Q Γ (.dt (.tuple ds))) : C1V K (rTupOfF K) Γ Θ (.dt (.tuple ds)) Q := fun L S0 σ τ S vx Qv E k => by
  obtain ⟨a, o, us, e, hd, h, p⟩ := dp_tup E.dt
  exact ⟨a, us, by rw [e], .inr ⟨sqt_f (E.sub _ _ h), k Γ S _ _ (E.pop.push (.tup hd h p)) q⟩⟩
/-! ### len(set(..)), reversed copies, slices -/
theorem ve_lenSet {ta : TE} {Q : List Cell → Tmp → Prop} (h : VE K Γ Θ ta fun Γ1 x => ∃ ns : List Int, rd Γ1 x (.list (ns.map .int)) ∧ ns.Nodup ∧ ns.length ≤ 4000 ∧ Q Γ1 (.dt (.int ns.length))) : VE K Γ Θ (RZ.tLenSetI K ta) Q := fun L S0 σ τ S Qv E k => h L S0 σ τ S _ E fun Γ1 S1 v x E1 ⟨ns, hx, h1, h2, q⟩ => by
  obtain ⟨a, e, h⟩ := intsL E1 hx
  exact ⟨a, ns, e, h, h1, h2, k Γ1 S1 _ _ (E1.pop.push (.int _)) q⟩
theorem ve_revL {ta : TE} {Q : List Cell → Tmp → Prop} (h : VE K Γ Θ ta fun Γ1 x => ∃ ds, rd Γ1 x (.list ds) ∧ Q Γ1 (.fr ds.reverse)) : VE K Γ Θ (tRevL K ta) Q := fun L S0 σ τ S Qv E k => h L S0 σ τ S _ E fun Γ1 S1 v x E1 ⟨ds, hx, q⟩ => by
  obtain ⟨a, us, e, h, p⟩ := rdB_l E1 hx
  exact ⟨a, us, e, .of h, fun l hl => k Γ1 _ _ _ (E1.pop.newLst hl p.rev) q⟩
theorem vo_none {Q : List Cell → Option Int → Prop} (q : Q Γ none) : VO K Γ Θ tNoPart Q := fun L S0 σ τ S Qv E k => k Γ S none E q
theorem vo_some {te : TE} {Q : List Cell → Option Int → Prop} (h : VE K Γ Θ te fun Γ1 x => ∃ i, x = .dt (.int i) ∧ Q Γ1 (some i)) : VO K Γ Θ (tPart te) Q := fun L S0 σ τ S Qv E k => h L S0 σ τ S _ E fun Γ1 S1 v x E1 ⟨i, ex, q⟩ => by
  subst ex
  exact ⟨i, dp_int E1.dt, k Γ1 S1 (some i) E1.pop q⟩
def cutD (xs : List Dat) (lo hi : Option Int) : List Dat := (xs.drop (HT.sIx xs.length 0 lo)).take (HT.sIx xs.length xs.length hi - HT.sIx xs.length 0 lo)
theorem dqa_cut {H : Hp} {vs : List V} {ds : List Dat} (h : DqAll H vs ds) (lo hi : Option Int) : DqAll H (cutV vs lo hi) (cutD ds lo hi) := by
  unfold cutV cutD
  rw [h.len]
  exact (h.drop _).take _
theorem ve_slL {te : TE} {tl th : TO} {Q : List Cell → Tmp → Prop} (h : VE K Γ Θ te fun Γ1 x => VO K Γ1 (x :: Θ) tl fun Γ2 lo => VO K Γ2 (x :: Θ) th fun Γ3 hi => ∃ ds, rd Γ3 x (.list ds) ∧ Q Γ3 (.fr (cutD ds lo hi))) : VE K Γ Θ (tSl (rSlL K) te tl th) Q := fun L S0 σ τ S Qv E k =>
  h L S0 σ τ S _ E fun Γ1 S1 v x E1 h1 => h1 L S0 σ _ S1 _ E1 fun Γ2 S2 lo E2 h2 => h2 L S0 σ _ S2 _ E2 fun Γ3 S3 hi E3 ⟨ds, hx, q⟩ => by
    obtain ⟨a, us, e, h, p⟩ := rdB_l E3 hx
    exact ⟨a, us, e, .of h, fun l hl => k Γ3 _ _ _ (E3.pop.newLst hl (dqa_cut p lo hi)) q⟩
theorem cutD_whole {ds : List Dat} {lo hi : Option Int} (h : HT.sIx ds.length 0 lo = 0 ∧ HT.sIx ds.length ds.length hi = ds.length) : cutD ds lo hi = ds := by
  unfold cutD
  rw [h.1, h.2, List.drop_zero, Nat.sub_zero, List.take_length]
theorem ve_slT {te : TE} {tl th : TO} {Q : List Cell → Tmp → Prop} (h : VE K Γ Θ te fun Γ1 x => VO K Γ1 (x :: Θ) tl fun Γ2 lo => VO K Γ2 (x :: Θ) th fun Γ3 hi => ∃ ds, x = .dt (.tuple ds) ∧ Q Γ3 (.dt (.tuple (cutD ds lo hi)))) : VE K Γ Θ (tSl (rSlF K) te tl th) Q := fun L S0 σ τ S Qv E k =>
  h L S0 σ τ S _ E fun Γ1 S1 v x E1 h1 => h1 L S0 σ _ S1 _ E1 fun Γ2 S2 lo E2 h2 => h2 L S0 σ _ S2 _ E2 fun Γ3 S3 hi E3 ⟨ds, hx, q⟩ => by
    subst hx
    obtain ⟨a, o, us, e, hd, h, p⟩ := dp_tup E3.dt
    refine ⟨a, us, e, sqt_f (E3.sub _ _ h), fun w => ?_, fun _ l o hd hl => k Γ3 _ _ _ (E3.pop.newTup hd hl (dqa_cut p lo hi)) q⟩
    rw [p.len] at w
    rw [cutD_whole w] at q
    exact k Γ3 S3 _ _ (E3.pop.push (.tup hd h p)) q
/-- t.index(x) -/
theorem ve_tidx {ta te : TE} {Q : List Cell → Tmp → Prop}
    (h : VE K Γ Θ ta fun Γ1 x => ∃ ds, x = .dt (.tuple ds) ∧ VE K Γ1 (x :: Θ) te fun Γ2 y => ∃ d j z, rd Γ2 y d ∧ flD d = true ∧ ds.all flD = true ∧ ds[j]? = some z ∧ eqF z d = true ∧ (∀ (m : Nat) z', m < j → ds[m]? = some z' → eqF z' d = false) ∧ Q Γ2 (.dt (.int (j : Nat)))) :
    VE K Γ Θ (tTIdx ta te) Q := fun L S0 σ τ S Qv E k => h L S0 σ τ S _ E fun Γ1 S1 vx x E1 ⟨ds, ex, h1⟩ => by
  subst ex
  obtain ⟨a, o, us, ea, hd, hu, pu⟩ := dp_tup E1.dt
  subst ea
  refine ⟨⟨a, o, us, rfl, hd, E1.sub _ _ hu⟩, h1 L S0 σ _ S1 _ E1 fun Γ2 S2 vy y E2 ⟨d, j, z, hy, f1, f2, hj, hz, hno, q⟩ => ?_⟩
  obtain ⟨a', o', zs, ea, hd', hs, p⟩ := dp_tup E2.pop.dt
  cases ea
  have p' := dpa_mono E2.sub _ _ p
  have gy := E2.rd hy
  obtain ⟨v, hv, gv⟩ := p'.get hj
  have fz : flD z = true := List.all_eq_true.mp f2 z (List.mem_of_getElem? hj)
  refine ⟨vy, rfl, a, o', zs, j, v, rfl, hd', E2.sub _ _ hs, dq_flat gy f1, dqa_flat p' f2, hv, (dq_eqF gv gy fz f1).trans hz, fun m z' hm hm' => ?_, k Γ2 S2 _ _ (E2.pop.pop.push (.int _)) q⟩
  obtain ⟨d', hd', gd'⟩ := p'.getV hm'
  rw [dq_eqF gd' gy (List.all_eq_true.mp f2 d' (List.mem_of_getElem? hd')) f1]
  exact hno m d' hm hd'
/-! ### methods of a list in a slot -/
theorem ve_append {i : Nat} {te : TE} {Q : List Cell → Tmp → Prop} (h0 : ∃ ds, IsLs Γ i ds) (h : VX K Γ Θ te fun Γ1 a => ∃ d ds, a = .dt d ∧ IsLs Γ1 i ds ∧ ds.length < sizeLine ∧ Q (putC Γ1 i (ds ++ [d])) (.dt .none)) : VE K Γ Θ (tBM K "list" rAppend (tVar i) (tCons te tNil)) Q := fun L S0 σ τ S Qv E k => by
  obtain ⟨ds0, c0, hc0, hl0⟩ := h0
  obtain ⟨a, ea, _, us, hu, _⟩ := E.own hc0 hl0
  refine ⟨_, ea, .inl ⟨rfl, us, .of hu⟩, h L S0 σ τ S _ E fun Γ1 S1 v x E1 ⟨d, ds, ex, ⟨c, hc, hl⟩, hz, q⟩ => ?_⟩
  subst ex
  obtain ⟨a', vs, ea', hv, p, mk⟩ := E1.pop.mutSlot hc hl
  rw [ea] at ea'; cases ea'
  have hd : Dq S1.b v d := E1.dt
  rw [putC_eq hc] at q
  exact ⟨a, vs, v, rfl, rfl, hv, by rw [p.len]; exact hz, k _ _ _ _ ((mk _ _ (p.app (.one hd))).push .non) q⟩
def rInsert : V → List V → Hp → VK → Prop := fun x vs H Q => ∃ (l : Addr) (xs : List V) (i : Int) (y : V), x = .ref l ∧ vs = [.int i, y] ∧ H l = some (.lst xs) ∧ xs.length < sizeLine ∧ 0 ≤ i ∧ i < 2 ^ 63 ∧ Q .non (upd H l (.lst (xs.take i.toNat ++ [y] ++ xs.drop i.toNat)))
theorem ve_insert {i : Nat} {ti te : TE} {Q : List Cell → Tmp → Prop} (h0 : ∃ ds, IsLs Γ i ds)
    (h : VX K Γ Θ ti fun Γ1 b => VX K Γ1 (b.tmp :: Θ) te fun Γ2 a => ∃ j d ds, b = .dt (.int j) ∧ a = .dt d ∧ IsLs Γ2 i ds ∧ ds.length < sizeLine ∧ 0 ≤ j ∧ j < 2 ^ 63 ∧ Q (putC Γ2 i (ds.take j.toNat ++ [d] ++ ds.drop j.toNat)) (.dt .none)) :
    VE K Γ Θ (tBM K "list" rInsert (tVar i) (tCons ti (tCons te tNil))) Q := fun L S0 σ τ S Qv E k => by
  obtain ⟨ds0, c0, hc0, hl0⟩ := h0
  obtain ⟨a, ea, _, us, hu, _⟩ := E.own hc0 hl0
  refine ⟨_, ea, .inl ⟨rfl, us, .of hu⟩, h L S0 σ τ S _ E fun Γ1 S1 vj b E1 h1 => h1 L S0 σ _ S1 _ E1 fun Γ2 S2 v x E2 ⟨j, d, ds, eb, ex, ⟨c, hc, hl⟩, hz, hj0, hj1, q⟩ => ?_⟩
  subst ex eb
  obtain ⟨a', vs, ea', hv, p, mk⟩ := E2.pop.pop.mutSlot hc hl
  rw [ea] at ea'; cases ea'
  have hd : Dq S2.b v d := E2.dt
  have ej : vj = .int j := dp_int (show Dq S2.b vj (.int j) from E2.pop.dt)
  rw [putC_eq hc] at q
  exact ⟨a, vs, j, v, rfl, by rw [ej], hv, by rw [p.len]; exact hz, hj0, hj1, k _ _ _ _ ((mk _ _ (((p.take _).app (.one hd)).app (p.drop _))).push .non) q⟩
theorem ve_extend {i : Nat} {te : TE} {Q : List Cell → Tmp → Prop} (h0 : ∃ ds, IsLs Γ i ds) (h : VX K Γ Θ te fun Γ1 a => ∃ es ds, a = .dt (.list es) ∧ IsLs Γ1 i ds ∧ ds.length + es.length ≤ sizeLine ∧ Q (putC Γ1 i (ds ++ es)) (.dt .none)) : VE K Γ Θ (tBM K "list" rExtend (tVar i) (tCons te tNil)) Q := fun L S0 σ τ S Qv E k => by
  obtain ⟨ds0, c0, hc0, hl0⟩ := h0
  obtain ⟨a, ea, _, us, hu, _⟩ := E.own hc0 hl0
  refine ⟨_, ea, .inl ⟨rfl, us, .of hu⟩, h L S0 σ τ S _ E fun Γ1 S1 v x E1 ⟨es, ds, ex, ⟨c, hc, hl⟩, hz, q⟩ => ?_⟩
  subst ex
  obtain ⟨a', vs, ea', hv, p, mk⟩ := E1.pop.mutSlot hc hl
  rw [ea] at ea'; cases ea'
  obtain ⟨b, zs, eb, hb, pb⟩ := dp_list (show Dq S1.b v (.list es) from E1.dt)
  rw [putC_eq hc] at q
  exact ⟨a, b, vs, zs, rfl, by rw [eb], hv, E1.sub _ _ hb, by rw [p.len, pb.len]; exact hz, k _ _ _ _ ((mk _ _ (p.app pb)).push .non) q⟩
/-- l.index(x), flat -/
theorem ve_indexL {ta te : TE} {Q : List Cell → Tmp → Prop}
    (h : VE K Γ Θ ta fun Γ1 x => (∃ ds, rd Γ1 x (.list ds)) ∧ VE K Γ1 (x :: Θ) te fun Γ2 y => ∃ ds d j z, rd Γ2 x (.list ds) ∧ rd Γ2 y d ∧ flD d = true ∧ ds.all flD = true ∧ ds[j]? = some z ∧ eqF z d = true ∧ (∀ (m : Nat) z', m < j → ds[m]? = some z' → eqF z' d = false) ∧ Q Γ2 (.dt (.int (j : Nat)))) :
    VE K Γ Θ (tBM K "list" (rIndex K) ta (tCons te tNil)) Q := fun L S0 σ τ S Qv E k => h L S0 σ τ S _ E fun Γ1 S1 vx x E1 ⟨⟨ds0, hx0⟩, h1⟩ => by
  obtain ⟨a, us, ea, hu, _⟩ := rdB_l E1 hx0
  subst ea
  refine ⟨.inl ⟨rfl, us, .of hu⟩, h1 L S0 σ _ S1 _ E1 fun Γ2 S2 vy y E2 ⟨ds, d, j, z, hx, hy, f1, f2, hj, hz, hno, q⟩ => ?_⟩
  obtain ⟨a', zs, ea, hs, p⟩ := dp_list (E2.pop.rd hx)
  cases ea
  have gy := E2.rd hy
  obtain ⟨v, hv, gv⟩ := p.get hj
  have fz : flD z = true := List.all_eq_true.mp f2 z (List.mem_of_getElem? hj)
  refine ⟨a, zs, vy, j, v, rfl, rfl, .of hs, dq_flat gy f1, dqa_flat p f2, hv, (dq_eqF gv gy fz f1).trans hz, fun m z' hm hm' => ?_, k Γ2 S2 _ _ (E2.pop.pop.push (.int _)) q⟩
  obtain ⟨d', hd', gd'⟩ := p.getV hm'
  rw [dq_eqF gd' gy (List.all_eq_true.mp f2 d' (List.mem_of_getElem? hd')) f1]
  exact hno m d' hm hd'
end
end Ld
set_option Elab.async false
set_option linter.all false
set_option maxRecDepth 100000
namespace Ld
open PySem PySem.Spec PyProof.Rows L2 Lx
/-! ### statements: what is under way are the sources of the loops around -/
def srcT (ss : List Dat) : List Tmp := ss.map .dt
theorem nb_src {i : Nat} {ss : List Dat} : ∀ t ∈ srcT ss, t ≠ Tmp.br i := fun t ht e => by
  obtain ⟨d, _, rfl⟩ := List.mem_map.mp ht
  cases e
def VSs (K : PySem.W.Frag) (Γ : List Cell) (t : TS) (R : DE) : Prop := ∀ ss : List Dat, VS K Γ (srcT ss) t R
section
variable {K : PySem.W.Frag} {Γ : List Cell} {Θ : List Tmp}
abbrev DE.wn (R : DE) (n : List Cell → Prop) : DE := { R with nx := n }
theorem ss_seq {t u : TS} {R : DE} (h : VSs K Γ t (R.wn fun Γ' => VSs K Γ' u R)) : VSs K Γ (tSeq t u) R := fun ss L S0 σ τ S D E kn kr kb kc =>
  h ss L S0 σ τ S { D with nx := u D } E (fun Γ' σ' S' E' q => q ss L S0 σ' τ S' D E' kn kr kb kc) kr kb kc
theorem ss_next {R : DE} (h : R.nx Γ) : VSs K Γ tNext R := fun ss L S0 σ τ S D E kn kr kb kc => kn Γ σ S E h
theorem ss_cont {R : DE} (h : R.ct Γ) : VSs K Γ tCont R := fun ss L S0 σ τ S D E kn kr kb kc => kc Γ σ S E h
theorem ss_ret {te : TE} {R : DE} (h : ∀ ss, VD K Γ (srcT ss) te R.rt) : VSs K Γ (tRet te) R := fun ss L S0 σ τ S D E kn kr kb kc =>
  h ss L S0 σ τ S D.rt E fun Γ' S' v d E' q => kr Γ' σ S' v d E'.pop E'.dt q
theorem ss_retN {R : DE} (h : R.rt Γ .none) : VSs K Γ tRetN R := fun ss L S0 σ τ S D E kn kr kb kc => kr Γ σ S .non .none E .non h
theorem ss_drop {te : TE} {R : DE} (h : ∀ ss, VE K Γ (srcT ss) te fun Γ1 _ => R.nx Γ1) : VSs K Γ (tDrop te) R := fun ss L S0 σ τ S D E kn kr kb kc =>
  h ss L S0 σ τ S _ E fun Γ' S' v c E' q => kn Γ' σ S' E'.pop q
theorem ss_if {c : TT} {t u : TS} {R : DE} (h : ∀ ss, VT K Γ (srcT ss) c fun Γ1 b => (b = true → VSs K Γ1 t R) ∧ (b = false → VSs K Γ1 u R)) : VSs K Γ (tIfS c t u) R := fun ss L S0 σ τ S D E kn kr kb kc =>
  h ss L S0 σ τ S _ E fun Γ' S' b E' q => by
    cases b with
    | true => rw [if_pos rfl]; exact q.1 rfl ss L S0 σ τ S' D E' kn kr kb kc
    | false => rw [if_neg Bool.false_ne_true]; exact q.2 rfl ss L S0 σ τ S' D E' kn kr kb kc
/-- a stored value's cell -/
def Sto (Γ : List Cell) (i : Nat) (Q : List Cell → Prop) : Tmp → Prop
  | .dt d => Q (Γ.set i (.dt d))
  | .fr ds => Q (Γ.set i (.ow ds))
  | .br j => ∃ ds, Γ[j]? = some (.ow ds) ∧ Q ((Γ.set j (.dt (.list ds))).set i (.dt (.list ds)))
  | .sc _ => False
  | .ob p => Q (Γ.set i (.ob p))
  | .li R => Q (Γ.set i (.li R))
theorem ss_set {i : Nat} {te : TE} {R : DE} (h : ∀ ss, VE K Γ (srcT ss) te fun Γ1 c => Sto Γ1 i R.nx c) : VSs K Γ (tAsg te (gName i)) R := fun ss L S0 σ τ S D E kn kr kb kc =>
  h ss L S0 σ τ S _ E fun Γ' S' v c E' q => by
    cases c with
    | dt d => exact kn _ _ S' (E'.pop.setDt nb_src E'.dt) q
    | fr ds => exact kn _ _ S' (E'.setFr nb_src) q
    | sc ns => exact q.elim
    | ob pp => exact kn _ _ S' (E'.setOb nb_src) q
    | li R => exact kn _ _ S' (E'.setLi nb_src) q
    | br j =>
      obtain ⟨ds, hj, q⟩ := q
      obtain ⟨S2, e, E2⟩ := E'.frzSlot hj
      obtain ⟨w, h1, z2, h2⟩ := id E2.ok
      obtain ⟨u, eu, qu⟩ := h1 j _ (List.getElem?_set_self (List.getElem?_eq_some_iff.mp hj).1)
      have z2' : σ[j]? = some (some v) := z2
      rw [z2'] at eu; cases eu
      show D.nx _ S'.h
      rw [← e]
      exact kn _ _ S2 (E2.pop.setDt nb_src qu) q
end
section
variable {K : PySem.W.Frag} {Γ : List Cell} {Θ : List Tmp} {L : Addr → Prop} {S0 S : Hs} {σ : L2.St} {τ : List V}
/-- what is second is taken out -/
theorem Env.swap {x y : Tmp} {u v : V} (E : Env K L S0 Γ (y :: x :: Θ) σ (v :: u :: τ) S) : Env K L S0 Γ (x :: y :: Θ) σ (u :: v :: τ) S := by
  obtain ⟨w, g1, g3, g2, g4⟩ := E.ok
  refine ⟨E.gr, E.sub, E.len, fun a => match w a with
    | some (.inr n) => if n = Θ.length then some (.inr (n + 1)) else if n = Θ.length + 1 then some (.inr Θ.length) else some (.inr n)
    | o => o, fun i c e => ?_, ?_, ?_, g4.imp fun n t q hn z => ?_⟩
  · have q := g1 i c e
    cases c with
    | no => trivial
    | dt d => exact q
    | ow ds => obtain ⟨a, e, o, n⟩ := q; exact ⟨a, e, ⟨o.nb, by simp only [o.at_], o.is⟩, n⟩
    | ln ds => obtain ⟨a, e, o, n⟩ := q; exact ⟨a, e, ⟨o.nb, by simp only [o.at_], o.is⟩, n⟩
    | sc ns => exact q
    | ob pp => obtain ⟨a, e, o, n⟩ := q; exact ⟨a, e, ⟨o.nb, by simp only [o.at_], o.is⟩, n⟩
    | li R => obtain ⟨a, e, o⟩ := q; exact ⟨a, e, o.reK (fun x ho => by simp only [ho]) fun _ h => h⟩
  · cases x with
    | dt d => exact g2
    | fr ds => obtain ⟨a, e, o, n⟩ := g2; exact ⟨a, e, ⟨o.nb, by simp only [o.at_, if_pos, List.length_cons], o.is⟩, n⟩
    | br i => exact g2
    | sc ns => exact g2
    | ob pp => obtain ⟨a, e, o, n⟩ := g2; exact ⟨a, e, ⟨o.nb, by simp only [o.at_, if_pos, List.length_cons], o.is⟩, n⟩
    | li R => obtain ⟨a, e, o⟩ := g2; exact ⟨a, e, o.reK (fun x ho => by simp only [ho, if_pos, List.length_cons]) fun _ h => h⟩
  · cases y with
    | dt d => exact g3
    | fr ds => obtain ⟨a, e, o, n⟩ := g3; exact ⟨a, e, ⟨o.nb, by simp only [o.at_, List.length_cons, if_neg (Nat.succ_ne_self _), if_pos], o.is⟩, n⟩
    | br i => exact g3
    | sc ns => exact g3
    | ob pp => obtain ⟨a, e, o, n⟩ := g3; exact ⟨a, e, ⟨o.nb, by simp only [o.at_, List.length_cons, if_neg (Nat.succ_ne_self _), if_pos], o.is⟩, n⟩
    | li R => obtain ⟨a, e, o⟩ := g3; exact ⟨a, e, o.reK (fun x ho => by simp only [ho, List.length_cons, if_neg (Nat.succ_ne_self _), if_pos]) fun _ h => h⟩
  · cases q with
    | dt d => exact z
    | fr ds => obtain ⟨a, e, o, m⟩ := z; exact ⟨a, e, ⟨o.nb, by simp only [o.at_, if_neg (Nat.ne_of_lt hn), if_neg (Nat.ne_of_lt (Nat.lt_succ_of_lt hn))], o.is⟩, m⟩
    | br i => exact z
    | sc ns => exact z
    | ob pp => obtain ⟨a, e, o, m⟩ := z; exact ⟨a, e, ⟨o.nb, by simp only [o.at_, if_neg (Nat.ne_of_lt hn), if_neg (Nat.ne_of_lt (Nat.lt_succ_of_lt hn))], o.is⟩, m⟩
    | li R => obtain ⟨a, e, o⟩ := z; exact ⟨a, e, o.reK (fun x ho => by simp only [ho, if_neg (Nat.ne_of_lt hn), if_neg (Nat.ne_of_lt (Nat.lt_succ_of_lt hn))]) fun _ h => h⟩
/-- data or a new list, stored -/
def St1 (Γ : List Cell) (i : Nat) : Tmp → Option (List Cell)
  | .dt d => some (Γ.set i (.dt d))
  | .fr ds => some (Γ.set i (.ow ds))
  | .ob p => some (Γ.set i (.ob p))
  | .li R => some (Γ.set i (.li R))
  | _ => none
theorem Env.st1 {i : Nat} {c : Tmp} {v : V} {Γ' : List Cell} (E : Env K L S0 Γ (c :: Θ) σ (v :: τ) S) (hb : ∀ t ∈ Θ, t ≠ .br i) (h : St1 Γ i c = some Γ') : Env K L S0 Γ' Θ (σ.set i (some v)) τ S := by
  cases c with
  | dt d => cases h; exact E.pop.setDt hb E.dt
  | fr ds => cases h; exact E.setFr hb
  | br j => cases h
  | sc ns => cases h
  | ob pp => cases h; exact E.setOb hb
  | li R => cases h; exact E.setLi hb
end
section
variable {K : PySem.W.Frag} {Γ : List Cell} {Θ : List Tmp}
/-- a, b = x, y -/
theorem ss_par {i j : Nat} {ta tb : TE} {R : DE} (h : ∀ ss, VE K Γ (srcT ss) ta fun Γ1 x => VE K Γ1 (x :: srcT ss) tb fun Γ2 y => (∀ k, x ≠ .br k) ∧ ∃ Γ3 Γ4, St1 Γ2 i x = some Γ3 ∧ St1 Γ3 j y = some Γ4 ∧ R.nx Γ4) : VSs K Γ (tPar i j (tCons ta (tCons tb tNil))) R := fun ss L S0 σ τ S D E kn kr kb kc =>
  h ss L S0 σ τ S _ E fun Γ1 S1 u x E1 h1 => h1 L S0 σ _ S1 _ E1 fun Γ2 S2 v y E2 ⟨nx, Γ3, Γ4, e3, e4, q⟩ => by
    refine ⟨u, v, rfl, ?_⟩
    have ny : y ≠ .br i := fun z => by subst z; cases e4
    exact kn Γ4 _ S2 (((E2.swap).st1 (fun t ht => by
      rcases List.mem_cons.mp ht with rfl | ht
      · exact ny
      · exact nb_src t ht) e3).st1 nb_src e4) q
theorem ss_par3 {i j l : Nat} {ta tb tc : TE} {R : DE} (h : ∀ ss, VE K Γ (srcT ss) ta fun Γ1 x => VE K Γ1 (x :: srcT ss) tb fun Γ2 y => VE K Γ2 (y :: x :: srcT ss) tc fun Γ3 z => ∃ Γ4 Γ5 Γ6, St1 Γ3 i x = some Γ4 ∧ St1 Γ4 j y = some Γ5 ∧ St1 Γ5 l z = some Γ6 ∧ R.nx Γ6) :
    VSs K Γ (tPar3 i j l (tCons ta (tCons tb (tCons tc tNil)))) R := fun ss L S0 σ τ S D E kn kr kb kc =>
  h ss L S0 σ τ S _ E fun Γ1 S1 u x E1 h1 => h1 L S0 σ _ S1 _ E1 fun Γ2 S2 v y E2 h2 => h2 L S0 σ _ S2 _ E2 fun Γ3 S3 w z E3 ⟨Γ4, Γ5, Γ6, e4, e5, e6, q⟩ => by
    refine ⟨u, v, w, rfl, ?_⟩
    have ny : ∀ k, y ≠ .br k := fun k z => by subst z; cases e5
    have nz : ∀ k, z ≠ .br k := fun k q => by subst q; cases e6
    -- z :: y :: x  ->  x first
    obtain ⟨wd, g1, gz, gy, gx, g4⟩ := id E3.ok
    have E4 : Env K L S0 Γ3 (y :: x :: srcT ss) σ (v :: u :: τ) S3 := E3.pop
    -- store z last: keep it by storing x, y under it
    have a1 : Env K L S0 Γ3 (y :: z :: x :: srcT ss) σ (v :: w :: u :: τ) S3 := E3.swap
    have a2 : ∃ E' : True, Env K L S0 Γ3 (x :: z :: y :: srcT ss) σ (u :: w :: v :: τ) S3 := by
      -- rotate by hand: the word w over the three places
      refine ⟨trivial, E3.gr, E3.sub, E3.len, fun a => match wd a with
        | some (.inr n) => if n = ss.length then some (.inr (n + 2)) else if n = ss.length + 1 then some (.inr ss.length) else if n = ss.length + 2 then some (.inr (ss.length + 1)) else some (.inr n)
        | o => o, fun i c e => ?_, ?_, ?_, ?_, g4.imp fun n t q hn z => ?_⟩
      · have q := g1 i c e
        cases c with
        | no => trivial
        | dt d => exact q
        | ow ds => obtain ⟨a, e, o, n⟩ := q; exact ⟨a, e, ⟨o.nb, by simp only [o.at_], o.is⟩, n⟩
        | ln ds => obtain ⟨a, e, o, n⟩ := q; exact ⟨a, e, ⟨o.nb, by simp only [o.at_], o.is⟩, n⟩
        | sc ns => exact q
        | ob pp => obtain ⟨a, e, o, n⟩ := q; exact ⟨a, e, ⟨o.nb, by simp only [o.at_], o.is⟩, n⟩
        | li R => obtain ⟨a, e, o⟩ := q; exact ⟨a, e, o.reK (fun x ho => by simp only [ho]) fun _ h => h⟩
      · cases x with
        | dt d => exact gx
        | fr ds => obtain ⟨a, e, o, n⟩ := gx; exact ⟨a, e, ⟨o.nb, by simp [o.at_, srcT] <;> omega, o.is⟩, n⟩
        | br i => exact gx
        | sc ns => exact gx
        | ob pp => obtain ⟨a, e, o, n⟩ := gx; exact ⟨a, e, ⟨o.nb, by simp [o.at_, srcT] <;> omega, o.is⟩, n⟩
        | li R => obtain ⟨a, e, o⟩ := gx; exact ⟨a, e, o.reK (fun x ho => by simp [ho, srcT] <;> omega) fun _ h => h⟩
      · cases z with
        | dt d => exact gz
        | fr ds => obtain ⟨a, e, o, n⟩ := gz; exact ⟨a, e, ⟨o.nb, by simp [o.at_, srcT] <;> omega, o.is⟩, n⟩
        | br i => exact gz
        | sc ns => exact gz
        | ob pp => obtain ⟨a, e, o, n⟩ := gz; exact ⟨a, e, ⟨o.nb, by simp [o.at_, srcT] <;> omega, o.is⟩, n⟩
        | li R => obtain ⟨a, e, o⟩ := gz; exact ⟨a, e, o.reK (fun x ho => by simp [ho, srcT] <;> omega) fun _ h => h⟩
      · cases y with
        | dt d => exact gy
        | fr ds => obtain ⟨a, e, o, n⟩ := gy; exact ⟨a, e, ⟨o.nb, by simp [o.at_, srcT] <;> omega, o.is⟩, n⟩
        | br i => exact gy
        | sc ns => exact gy
        | ob pp => obtain ⟨a, e, o, n⟩ := gy; exact ⟨a, e, ⟨o.nb, by simp [o.at_, srcT] <;> omega, o.is⟩, n⟩
        | li R => obtain ⟨a, e, o⟩ := gy; exact ⟨a, e, o.reK (fun x ho => by simp [ho, srcT] <;> omega) fun _ h => h⟩
      · have hn' : n < ss.length := by simpa [srcT] using hn
        cases q with
        | dt d => exact z
        | fr ds => obtain ⟨a, e, o, m⟩ := z; exact ⟨a, e, ⟨o.nb, by simp only [o.at_, if_neg (Nat.ne_of_lt hn'), if_neg (show n ≠ ss.length + 1 by omega), if_neg (show n ≠ ss.length + 2 by omega)], o.is⟩, m⟩
        | br i => exact z
        | sc ns => exact z
        | ob pp => obtain ⟨a, e, o, m⟩ := z; exact ⟨a, e, ⟨o.nb, by simp only [o.at_, if_neg (Nat.ne_of_lt hn'), if_neg (show n ≠ ss.length + 1 by omega), if_neg (show n ≠ ss.length + 2 by omega)], o.is⟩, m⟩
        | li R => obtain ⟨a, e, o⟩ := z; exact ⟨a, e, o.reK (fun x ho => by simp only [ho, if_neg (Nat.ne_of_lt hn'), if_neg (show n ≠ ss.length + 1 by omega), if_neg (show n ≠ ss.length + 2 by omega)]) fun _ h => h⟩
    obtain ⟨_, a2⟩ := a2
    have a3 := a2.st1 (Γ' := Γ4) (fun t ht => by
      rcases List.mem_cons.mp ht with rfl | ht
      · exact nz i
      · rcases List.mem_cons.mp ht with rfl | ht
        · exact ny i
        · exact nb_src t ht) e4
    have a4 := (a3.swap).st1 (Γ' := Γ5) (fun t ht => by
      rcases List.mem_cons.mp ht with rfl | ht
      · exact nz j
      · exact nb_src t ht) e5
    exact kn Γ6 _ S3 (a4.st1 nb_src e6) q
/-- xs[i] = e, a list of one's own -/
theorem ss_setL {j : Nat} {te ti : TE} {R : DE} (h : ∀ ss, VX K Γ (srcT ss) te fun Γ1 a => (∃ ds, IsLs Γ1 j ds) ∧ VE K Γ1 (a.tmp :: srcT ss) ti fun Γ2 y => ∃ d i ds k, a = .dt d ∧ y = .dt (.int i) ∧ IsLs Γ2 j ds ∧ ixN ds.length i = some k ∧ R.nx (putC Γ2 j (ds.set k d))) :
    VSs K Γ (tAsg te (gSub (tVar j) ti rSetL)) R := fun ss L S0 σ τ S D E kn kr kb kc => h ss L S0 σ τ S _ E fun Γ1 S1 v a E1 ⟨⟨ds0, c0, hc0, hl0⟩, h1⟩ => by
  obtain ⟨l, el, _⟩ := E1.own hc0 hl0
  refine ⟨_, el, h1 L S0 σ _ S1 _ E1 fun Γ2 S2 vi y E2 ⟨d, i, ds, k, ea, ey, ⟨c, hc, hl⟩, hk, q⟩ => ?_⟩
  subst ea ey
  obtain ⟨l', vs, el', hv, p, mk⟩ := E2.pop.pop.mutSlot hc hl
  rw [el] at el'; cases el'
  have hd : Dq S2.b v d := E2.pop.dt
  rw [putC_eq hc] at q
  exact ⟨l, vs, i, k, rfl, dp_int E2.dt, hv, by rw [p.len]; exact hk, kn _ _ _ (mk _ _ (p.set hd k)) q⟩
theorem dqa_one {H : Hp} {v : V} {d : Dat} (h : DqAll H [v] [d]) : Dq H v d := by cases h with | cons a _ => exact a
theorem dqa_two {H : Hp} {u v : V} {d e : Dat} (h : DqAll H [u, v] [d, e]) : Dq H u d ∧ Dq H v e := by cases h with | cons a b => exact ⟨a, dqa_one b⟩
theorem src_l {K : PySem.W.Frag} {S : Hs} {a : Addr} {ds : List Dat} (sub : Same S.b S.h) (h : Dq S.b (.ref a) (.list ds)) : ∃ ys, SqL K S.h a ys ∧ DqAll S.b ys ds := by
  obtain ⟨b, ys, eb, hy, py⟩ := dp_list h
  cases eb
  exact ⟨ys, SqL.of (sub _ _ hy), py⟩
theorem src_t {K : PySem.W.Frag} {S : Hs} {a : Addr} {ds : List Dat} (sub : Same S.b S.h) (h : Dq S.b (.ref a) (.tuple ds)) : ∃ ys, SqT K S.h a ys ∧ DqAll S.b ys ds := by
  obtain ⟨b, o, ys, eb, _, hy, py⟩ := dp_tup h
  cases eb
  exact ⟨ys, sqt_f (sub _ _ hy), py⟩
/-- an item that a loop gives: data, or a pair that was just made -/
def Itm (H : Hp) (v : V) (d : Dat) : Bool → Prop
  | false => Dq H v d
  | true => ∃ a xs ds, v = .ref a ∧ d = .tuple ds ∧ H a = some (.tup xs) ∧ DqAll H xs ds
/-! ### what a loop walks -/
structure Dw (K : PySem.W.Frag) (J : It) (srcs : List Dat) (τ1 : List V) (pr : Bool) (ds : List Dat) : Prop where
  go : ∀ (S : Hs) i, Same S.b S.h → DqAll S.b τ1 srcs → i < ds.length → J.go i S.h
  stop : ∀ (S : Hs), Same S.b S.h → DqAll S.b τ1 srcs → J.stop ds.length S.h
  yld : ∀ (S : Hs) i x H', Same S.b S.h → DqAll S.b τ1 srcs → i < ds.length → J.yld i S.h x H' → ∃ S' d, S'.h = H' ∧ Gr L0 S S' ∧ Same S'.b S'.h ∧ ds[i]? = some d ∧ Itm S'.b x d pr
def VI (K : PySem.W.Frag) (Γ : List Cell) (Θ : List Tmp) (wi : TI) (Q : List Cell → Bool → List Dat → Prop) : Prop := ∀ (L : Addr → Prop) (S0 : Hs) (σ : L2.St) (τ : List V) (S : Hs) (R : It → Hp → Prop), Env K L S0 Γ Θ σ τ S →
  (∀ Γ' srcs τ1 S' J pr ds, Env K L S0 Γ' (srcT srcs ++ Θ) σ (τ1 ++ τ) S' → τ1.length = srcs.length → Dw K J srcs τ1 pr ds → Q Γ' pr ds → R J S'.h) → wi σ S.h R
theorem srcs_ok {L : Addr → Prop} {S0 S : Hs} {σ : L2.St} {τ : List V} {w : Wh} : ∀ {srcs : List Dat} {τ1 : List V}, TmpsOk K S0 w S σ (srcT srcs ++ Θ) (τ1 ++ τ) → τ1.length = srcs.length → DqAll S.b τ1 srcs
  | [], [], _, _ => .nil
  | d :: ds, v :: vs, h, e => .cons h.1 (srcs_ok (L := L) h.2 (by simpa using e))
  | [], _ :: _, _, e => by cases e
  | _ :: _, [], _, e => by cases e
theorem Env.srcs {L : Addr → Prop} {S0 S : Hs} {σ : L2.St} {τ τ1 : List V} {srcs : List Dat} (E : Env K L S0 Γ (srcT srcs ++ Θ) σ (τ1 ++ τ) S) (e : τ1.length = srcs.length) : DqAll S.b τ1 srcs := by
  obtain ⟨w, _, h⟩ := E.ok
  exact srcs_ok (L := L) h e
theorem Env.unsrc {L : Addr → Prop} {S0 S : Hs} {σ : L2.St} {τ : List V} : ∀ {srcs : List Dat} {τ1 : List V}, Env K L S0 Γ (srcT srcs ++ Θ) σ (τ1 ++ τ) S → τ1.length = srcs.length → Env K L S0 Γ Θ σ τ S
  | [], [], E, _ => E
  | d :: ds, v :: vs, E, e => Env.unsrc (srcs := ds) (τ1 := vs) E.pop (by simpa using e)
  | [], _ :: _, _, e => by cases e
  | _ :: _, [], _, e => by cases e
/-- a list -/
theorem vi_list {te : TE} {Q : List Cell → Bool → List Dat → Prop} (h : VD K Γ Θ te fun Γ1 d => ∃ ds, d = .list ds ∧ Q Γ1 false ds) : VI K Γ Θ (iList K te) Q := fun L S0 σ τ S R E k => h L S0 σ τ S _ E fun Γ1 S1 v d E1 ⟨ds, ed, q⟩ => by
  subst ed
  obtain ⟨a, xs, ev, hx, p⟩ := dp_list E1.dt
  subst ev
  refine ⟨a, rfl, ⟨xs, .of (E1.sub _ _ hx)⟩, k Γ1 [.list ds] [.ref a] S1 _ false ds E1 rfl ⟨fun S i sub hs hi => ?_, fun S sub hs => ?_, fun S i x H' sub hs hi y => ?_⟩ q⟩
  · obtain ⟨ys, hy', py⟩ := src_l (K := K) sub (dqa_one hs)
    obtain ⟨z, hz, _⟩ := py.get (List.getElem?_eq_getElem hi)
    exact ⟨ys, z, hy', hz⟩
  · obtain ⟨ys, hy', py⟩ := src_l (K := K) sub (dqa_one hs)
    exact ⟨ys, hy', Nat.le_of_eq py.len⟩
  · obtain ⟨ys, hy', py⟩ := src_l (K := K) sub (dqa_one hs)
    obtain ⟨rfl, y⟩ := y
    obtain ⟨d, hd, gd⟩ := py.getV (y ys hy')
    exact ⟨S, d, rfl, Gr.refl _ _, sub, hd, gd⟩
theorem vi_tup {te : TE} {Q : List Cell → Bool → List Dat → Prop} (h : VD K Γ Θ te fun Γ1 d => ∃ ds, d = .tuple ds ∧ Q Γ1 false ds) : VI K Γ Θ (iTup K te) Q := fun L S0 σ τ S R E k => h L S0 σ τ S _ E fun Γ1 S1 v d E1 ⟨ds, ed, q⟩ => by
  subst ed
  obtain ⟨a, o, xs, ev, _, hx, p⟩ := dp_tup E1.dt
  subst ev
  refine ⟨a, rfl, ⟨xs, sqt_f (E1.sub _ _ hx)⟩, k Γ1 [.tuple ds] [.ref a] S1 _ false ds E1 rfl ⟨fun S i sub hs hi => ?_, fun S sub hs => ?_, fun S i x H' sub hs hi y => ?_⟩ q⟩
  · obtain ⟨ys, hy', py⟩ := src_t (K := K) sub (dqa_one hs)
    obtain ⟨z, hz, _⟩ := py.get (List.getElem?_eq_getElem hi)
    exact ⟨ys, z, hy', hz⟩
  · obtain ⟨ys, hy', py⟩ := src_t (K := K) sub (dqa_one hs)
    exact ⟨ys, hy', Nat.le_of_eq py.len⟩
  · obtain ⟨ys, hy', py⟩ := src_t (K := K) sub (dqa_one hs)
    obtain ⟨rfl, y⟩ := y
    obtain ⟨d, hd, gd⟩ := py.getV (y ys hy')
    exact ⟨S, d, rfl, Gr.refl _ _, sub, hd, gd⟩
def rngD (lo hi : Int) : List Dat := (List.range (hi - lo).toNat).map fun i => .int (lo + (i : Nat))
theorem rngD_len {lo hi : Int} : (rngD lo hi).length = (hi - lo).toNat := by unfold rngD; rw [List.length_map, List.length_range]
theorem rngD_at {lo hi : Int} {i : Nat} (h : i < (hi - lo).toNat) : (rngD lo hi)[i]? = some (.int (lo + (i : Nat))) := by
  unfold rngD
  rw [List.getElem?_map, List.getElem?_eq_getElem (by rw [List.length_range]; exact h), List.getElem_range] <;> rfl
theorem dw_rng {lo : Int} {hi : Int} : Dw K (Itr lo (hi - lo).toNat) [] [] false (rngD lo hi) :=
  ⟨fun S i _ _ h => by rw [rngD_len] at h; exact h, fun S _ _ => by rw [rngD_len]; exact Nat.le_refl _, fun S i x H' sub _ hi y => by
    obtain ⟨rfl, rfl⟩ := y
    rw [rngD_len] at hi
    exact ⟨S, _, rfl, Gr.refl _ _, sub, rngD_at hi, .int _⟩⟩
theorem vi_rng1 {te : TE} {Q : List Cell → Bool → List Dat → Prop} (h : VE K Γ Θ te fun Γ1 x => ∃ n, x = .dt (.int n) ∧ -(2 ^ 62) ≤ n ∧ n < 2 ^ 62 ∧ Q Γ1 false (rngD 0 n)) : VI K Γ Θ (iRng1 (tCons te tNil)) Q := fun L S0 σ τ S R E k => h L S0 σ τ S _ E fun Γ1 S1 v x E1 ⟨n, ex, h1, h2, q⟩ => by
  subst ex
  refine ⟨n, by rw [dp_int E1.dt], h1, h2, ?_⟩
  have w := dw_rng (K := K) (lo := 0) (hi := n)
  rw [Int.sub_zero] at w
  exact k Γ1 [] [] S1 _ false _ E1.pop rfl w q
theorem vi_rng2 {ta tb : TE} {Q : List Cell → Bool → List Dat → Prop} (h : VE K Γ Θ ta fun Γ1 x => VE K Γ1 (x :: Θ) tb fun Γ2 y => ∃ m n, x = .dt (.int m) ∧ y = .dt (.int n) ∧ (-(2 ^ 62) ≤ m ∧ m < 2 ^ 62 ∧ -(2 ^ 62) ≤ n ∧ n < 2 ^ 62) ∧ Q Γ2 false (rngD m n)) :
    VI K Γ Θ (iRng2 (tCons ta (tCons tb tNil))) Q := fun L S0 σ τ S R E k => h L S0 σ τ S _ E fun Γ1 S1 u x E1 h1 => h1 L S0 σ _ S1 _ E1 fun Γ2 S2 v y E2 ⟨m, n, ex, ey, hb, q⟩ => by
  subst ex ey
  exact ⟨m, n, by rw [dp_int E2.dt, dp_int E2.pop.dt], hb, k Γ2 [] [] S2 _ false _ E2.pop.pop rfl dw_rng q⟩
def enumD (xs : List Dat) : List Dat := xs.zipIdx.map fun p => .tuple [.int (p.2 : Nat), p.1]
theorem enumD_len {xs : List Dat} : (enumD xs).length = xs.length := by unfold enumD; rw [List.length_map, List.length_zipIdx]
theorem enumD_at {xs : List Dat} {i : Nat} {d : Dat} (h : xs[i]? = some d) : (enumD xs)[i]? = some (.tuple [.int (i : Nat), d]) := by
  unfold enumD
  rw [List.getElem?_map, List.getElem?_zipIdx, h]
  show some (PyData.tuple [.int ((0 + i : Nat) : Int), d]) = _
  rw [Nat.zero_add]
/-- a new pair -/
theorem gr_pair {S : Hs} {T : Addr} {x y : V} {d e : Dat} (sub : Same S.b S.h) (hT : S.h T = none) (hx : Dq S.b x d) (hy : Dq S.b y e) :
    ∃ S' : Hs, S'.h = upd S.h T (.tup [x, y]) ∧ Gr L0 S S' ∧ Same S'.b S'.h ∧ Itm S'.b (.ref T) (.tuple [d, e]) true := by
  have g := gr_newB (o := .tup [x, y]) hT sub
  exact ⟨⟨upd S.b T (.tup [x, y]), upd S.h T (.tup [x, y])⟩, rfl, g, sub_newB hT sub, T, _, _, rfl, rfl, upd_same, .cons (dp_mono g.b _ _ hx) (.cons (dp_mono g.b _ _ hy) .nil)⟩
theorem vi_enum {te : TE} {Q : List Cell → Bool → List Dat → Prop} (h : VD K Γ Θ te fun Γ1 d => ∃ ds, d = .list ds ∧ Q Γ1 true (enumD ds)) : VI K Γ Θ (iEnum K (tCons te tNil)) Q := fun L S0 σ τ S R E k => h L S0 σ τ S _ E fun Γ1 S1 v d E1 ⟨ds, ed, q⟩ => by
  subst ed
  obtain ⟨a, xs, ev, hx, p⟩ := dp_list E1.dt
  subst ev
  refine ⟨a, xs, rfl, .of (E1.sub _ _ hx), k Γ1 [.list ds] [.ref a] S1 _ true (enumD ds) E1 rfl ⟨fun S i sub hs hi => ?_, fun S sub hs => ?_, fun S i x H' sub hs hi y => ?_⟩ q⟩
  · obtain ⟨ys, hy', py⟩ := src_l (K := K) sub (dqa_one hs)
    rw [enumD_len] at hi
    obtain ⟨z, hz, _⟩ := py.get (List.getElem?_eq_getElem hi)
    exact ⟨ys, z, hy', hz⟩
  · obtain ⟨ys, hy', py⟩ := src_l (K := K) sub (dqa_one hs)
    exact ⟨ys, hy', by rw [enumD_len]; exact Nat.le_of_eq py.len⟩
  · obtain ⟨ys, hy', py⟩ := src_l (K := K) sub (dqa_one hs)
    rw [enumD_len] at hi
    obtain ⟨T, z, rfl, hT, rfl, y⟩ := y
    obtain ⟨d, hd, gd⟩ := py.getV (y ys hy')
    obtain ⟨S', e1, g1, s1, q1⟩ := gr_pair sub hT (.int (i : Nat)) gd
    exact ⟨S', _, e1, g1, s1, enumD_at hd, q1⟩
def zipD (xs ys : List Dat) : List Dat := (xs.zip ys).map fun p => .tuple [p.1, p.2]
theorem zipD_len {xs ys : List Dat} : (zipD xs ys).length = min xs.length ys.length := by unfold zipD; rw [List.length_map, List.length_zip]
theorem zipD_at {xs ys : List Dat} {i : Nat} {d e : Dat} (h : xs[i]? = some d) (h' : ys[i]? = some e) : (zipD xs ys)[i]? = some (.tuple [d, e]) := by
  unfold zipD
  rw [List.getElem?_map, List.zip_eq_zipWith, List.getElem?_zipWith, h, h'] <;> rfl
theorem vi_zip {ta tb : TE} {Q : List Cell → Bool → List Dat → Prop} (h : VD K Γ Θ ta fun Γ1 d => VD K Γ1 (.dt d :: Θ) tb fun Γ2 e => ∃ ds es, d = .list ds ∧ e = .list es ∧ Q Γ2 true (zipD ds es)) : VI K Γ Θ (iZip K (tCons ta (tCons tb tNil))) Q := fun L S0 σ τ S R E k =>
  h L S0 σ τ S _ E fun Γ1 S1 u d E1 h1 => h1 L S0 σ _ S1 _ E1 fun Γ2 S2 v e E2 ⟨ds, es, ed, ee, q⟩ => by
  subst ed ee
  obtain ⟨b, zs, eb, hb, pb⟩ := dp_list E2.dt
  obtain ⟨a, xs, ea, hx, p⟩ := dp_list E2.pop.dt
  subst ea eb
  refine ⟨a, b, xs, zs, rfl, .of (E2.sub _ _ hx), .of (E2.sub _ _ hb), k Γ2 [.list es, .list ds] [.ref b, .ref a] S2 _ true (zipD ds es) E2 rfl ⟨fun S i sub hs hi => ?_, fun S sub hs => ?_, fun S i x H' sub hs hi y => ?_⟩ q⟩
  · obtain ⟨ws, hw', pw⟩ := src_l (K := K) sub (dqa_two hs).1
    obtain ⟨ys, hy', py⟩ := src_l (K := K) sub (dqa_two hs).2
    rw [zipD_len] at hi
    have i1 : i < ds.length := by omega
    have i2 : i < es.length := by omega
    obtain ⟨z, hz, _⟩ := py.get (List.getElem?_eq_getElem i1)
    obtain ⟨z', hz', _⟩ := pw.get (List.getElem?_eq_getElem i2)
    exact ⟨ys, ws, z, z', hy', hw', hz, hz'⟩
  · obtain ⟨ws, hw', pw⟩ := src_l (K := K) sub (dqa_two hs).1
    obtain ⟨ys, hy', py⟩ := src_l (K := K) sub (dqa_two hs).2
    refine ⟨ys, ws, hy', hw', ?_⟩
    rw [zipD_len, py.len, pw.len]
    omega
  · obtain ⟨ws, hw', pw⟩ := src_l (K := K) sub (dqa_two hs).1
    obtain ⟨ys, hy', py⟩ := src_l (K := K) sub (dqa_two hs).2
    obtain ⟨T, z, z', rfl, hT, rfl, y1, y2⟩ := y
    obtain ⟨d, hd, gd⟩ := py.getV (y1 ys hy')
    obtain ⟨e, he, ge⟩ := pw.getV (y2 ws hw')
    obtain ⟨S', e1, g1, s1, q1⟩ := gr_pair sub hT gd ge
    exact ⟨S', _, e1, g1, s1, zipD_at hd he, q1⟩
/-! ### targets -/
def VG (K : PySem.W.Frag) (pr : Bool) (Γ : List Cell) (g : TG) (d : Dat) (Q : List Cell → Prop) : Prop := ∀ (L : Addr → Prop) (S0 : Hs) (Θ : List Tmp) (σ : L2.St) (τ : List V) (S : Hs) (v : V) (R : L2.St → Hp → Prop), (∀ i, ∀ t ∈ Θ, t ≠ Tmp.br i) → Env K L S0 Γ Θ σ τ S → Itm S.b v d pr →
  (∀ Γ' σ', Env K L S0 Γ' Θ σ' τ S → Q Γ' → R σ' S.h) → g v σ S.h R
theorem vg_name {i : Nat} {d : Dat} {Q : List Cell → Prop} (q : Q (Γ.set i (.dt d))) : VG K false Γ (gName i) d Q := fun L S0 Θ σ τ S v R nb E hd k => k _ _ (E.setDt (nb i) hd) q
theorem vg_pair {pr : Bool} {i j : Nat} {x y : Dat} {Q : List Cell → Prop} (q : Q ((Γ.set i (.dt x)).set j (.dt y))) : VG K pr Γ (gTup K 2 (gCons (gName i) (gCons (gName j) gNil))) (.tuple [x, y]) Q := fun L S0 Θ σ τ S v R nb E hd k => by
  obtain ⟨a, xs, e, h, p⟩ : ∃ a xs, v = .ref a ∧ SqT K S.h a xs ∧ DqAll S.b xs [x, y] := by
    cases pr with
    | false =>
      obtain ⟨a, o, xs, e, _, h, p⟩ := dp_tup (show Dq S.b v (.tuple [x, y]) from hd)
      exact ⟨a, xs, e, sqt_f (E.sub _ _ h), p⟩
    | true =>
      obtain ⟨a, xs, ds, e, e2, h, p⟩ := hd
      cases e2
      exact ⟨a, xs, e, .of (E.sub _ _ h), p⟩
  cases p with
  | cons p1 p =>
    cases p with
    | cons p2 p =>
      cases p
      exact ⟨a, _, e, h, rfl, _, _, rfl, _, _, rfl, rfl, k _ _ ((E.setDt (nb i) p1).setDt (nb j) p2) q⟩
/-- a, b = e -/
theorem ss_asgG {te : TE} {g : TG} {R : DE} (h : ∀ ss, VD K Γ (srcT ss) te fun Γ1 d => VG K false Γ1 g d R.nx) : VSs K Γ (tAsg te g) R := fun ss L S0 σ τ S D E kn kr kb kc =>
  h ss L S0 σ τ S _ E fun Γ' S' v d E' q => q L S0 (srcT ss) σ τ S' v _ (fun i => nb_src) E'.pop E'.dt fun Γ2 σ2 E2 z => kn Γ2 σ2 S' E2 z
/-! ### for, while -/
theorem ss_for {wi : TI} {g : TG} {tb : TS} {R : DE} (P : Nat → List Cell → Prop)
    (h : ∀ ss, VI K Γ (srcT ss) wi fun Γ1 pr ds => P 0 Γ1 ∧ (∀ i d Γ2, ds[i]? = some d → P i Γ2 → VG K pr Γ2 g d fun Γ3 => VSs K Γ3 tb ⟨P (i + 1), R.rt, R.nx, P (i + 1)⟩) ∧ ∀ Γ2, P ds.length Γ2 → R.nx Γ2) : VSs K Γ (tFor wi g tb) R := fun ss L S0 σ τ S D E kn kr kb kc =>
  h ss L S0 σ τ S _ E fun Γ1 srcs τ1 S1 J pr ds E1 hl w ⟨h0, hs, hd⟩ => by
    have nbr : ∀ i, ∀ t ∈ srcT srcs ++ srcT ss, t ≠ Tmp.br i := fun i t ht => (List.mem_append.mp ht).elim (nb_src t) (nb_src t)
    refine ⟨fun i m σ H => m = ds.length - i ∧ i ≤ ds.length ∧ ∃ Γ2 S2, S2.h = H ∧ Env K L S0 Γ2 (srcT srcs ++ srcT ss) σ (τ1 ++ τ) S2 ∧ P i Γ2, ⟨_, rfl, Nat.zero_le _, Γ1, S1, rfl, E1, h0⟩, ?_⟩
    rintro i m σ2 H ⟨rfl, hi, Γ2, S2, rfl, E2, p⟩
    have dq := E2.srcs hl
    by_cases hlt : i < ds.length
    · refine .inr ⟨w.go S2 i E2.sub dq hlt, fun σ3 H3 => ∃ Γ3 S3, S3.h = H3 ∧ Env K L S0 Γ3 (srcT srcs ++ srcT ss) σ3 (τ1 ++ τ) S3 ∧ P (i + 1) Γ3, fun σ' H' ⟨Γ3, S3, e, E3, p3⟩ => ⟨_, by omega, rfl, hlt, Γ3, S3, e, E3, p3⟩, fun x H' y => ?_⟩
      obtain ⟨S3, d, e3, g3, s3, hd3, q3⟩ := w.yld S2 i x H' E2.sub dq hlt y
      subst e3
      refine hs i d Γ2 hd3 p L S0 _ σ2 _ S3 x _ nbr (E2.grow g3 s3) q3 fun Γ4 σ4 E4 q4 => ?_
      have es : srcT srcs ++ srcT ss = srcT (srcs ++ ss) := by unfold srcT; rw [List.map_append]
      rw [es] at E4
      refine q4 (srcs ++ ss) L S0 σ4 _ S3 _ E4 (fun Γ' σ' S' E' q => ?_) (fun Γ' σ' S' v d E' hv q => ?_) (fun Γ' σ' S' E' q => ?_) (fun Γ' σ' S' E' q => ?_)
      · rw [← es] at E'; exact ⟨Γ', S', rfl, E', q⟩
      · rw [← es] at E'; exact kr Γ' σ' S' v d (E'.unsrc hl) hv q
      · rw [← es] at E'; exact kn Γ' σ' S' (E'.unsrc hl) q
      · rw [← es] at E'; exact ⟨Γ', S', rfl, E', q⟩
    · have e : i = ds.length := by omega
      subst e
      exact .inl ⟨w.stop S2 E2.sub dq, kn Γ2 σ2 S2 (E2.unsrc hl) (hd Γ2 p)⟩
end
end Ld
set_option Elab.async false
set_option linter.all false
set_option maxRecDepth 100000
namespace Ld
open PySem PySem.Spec PyProof.Rows L2 Lx
/-! ### comprehensions -/
def clr : List Nat → List Cell → List Cell
  | [], Γ => Γ
  | v :: vs, Γ => (clr vs Γ).set v .no
theorem clr_len {Γ : List Cell} : ∀ vs : List Nat, (clr vs Γ).length = Γ.length
  | [] => rfl
  | v :: vs => by unfold clr; rw [List.length_set, clr_len vs]
theorem clr_at {Γ : List Cell} {i : Nat} {c : Cell} : ∀ {vs : List Nat}, (clr vs Γ)[i]? = some c → c = Cell.no ∨ Γ[i]? = some c
  | [], h => .inr h
  | v :: vs, h => by
    unfold clr at h
    by_cases e : v = i
    · subst e
      rw [List.getElem?_set_self (by
        have := (List.getElem?_eq_some_iff.mp h).1
        rw [List.length_set] at this; exact this)] at h
      cases h
      exact .inl rfl
    · rw [List.getElem?_set_ne e] at h
      exact clr_at h
theorem wipe_ne {σ : L2.St} {i : Nat} : ∀ {vs : List Nat}, i ∉ vs → (wipe σ vs)[i]? = σ[i]?
  | [], _ => rfl
  | v :: vs, h => by
    unfold wipe
    rw [List.getElem?_set_ne (fun e => h (by rw [e]; exact List.mem_cons_self))]
    exact wipe_ne fun z => h (List.mem_cons_of_mem _ z)
theorem wipe_at {σ : L2.St} {i : Nat} : ∀ {vs : List Nat}, i ∈ vs → i < σ.length → (wipe σ vs)[i]? = some none
  | [], h, _ => by cases h
  | v :: vs, h, hl => by
    unfold wipe
    by_cases e : v = i
    · subst e
      exact List.getElem?_set_self (by rw [wipe_length]; exact hl)
    · rw [List.getElem?_set_ne e]
      exact wipe_at ((List.mem_cons.mp h).resolve_left (fun z => e z.symm)) hl
theorem wipe_eq {σ σ' : L2.St} {vs : List Nat} (hl : σ'.length = σ.length) (h : ∀ i, i ∉ vs → σ'[i]? = σ[i]?) : wipe σ' vs = wipe σ vs := by
  refine List.ext_getElem? fun i => ?_
  by_cases hi : i ∈ vs
  · by_cases hlt : i < σ.length
    · rw [wipe_at hi hlt, wipe_at hi (by rw [hl]; exact hlt)]
    · rw [List.getElem?_eq_none (by rw [wipe_length]; omega), List.getElem?_eq_none (by rw [wipe_length]; omega)]
  · rw [wipe_ne hi, wipe_ne hi]; exact h i hi
theorem wipe_set {σ : L2.St} {vs : List Nat} {j : Nat} {x : Option V} (hj : j ∈ vs) : wipe ((wipe σ vs).set j x) vs = wipe σ vs := by
  refine (wipe_eq (σ' := (wipe σ vs).set j x) (σ := σ) (by rw [List.length_set, wipe_length]) fun i hi => ?_)
  rw [List.getElem?_set_ne (fun e => hi (by rw [← e]; exact hj)), wipe_ne hi]
theorem wipe_set2 {σ : L2.St} {vs : List Nat} {i j : Nat} {x y : Option V} (hi : i ∈ vs) (hj : j ∈ vs) : wipe (((wipe σ vs).set i x).set j y) vs = wipe σ vs := by
  refine (wipe_eq (σ := σ) (by rw [List.length_set, List.length_set, wipe_length]) fun k hk => ?_)
  rw [List.getElem?_set_ne (fun e => hk (by rw [← e]; exact hj)), List.getElem?_set_ne (fun e => hk (by rw [← e]; exact hi)), wipe_ne hk]
def NB (vs : List Nat) (Θ : List Tmp) : Prop := ∀ t ∈ Θ, ∀ v ∈ vs, t ≠ Tmp.br v
theorem nb_nil {vs : List Nat} : NB vs [] := fun t h => by cases h
theorem nb_srcT {vs : List Nat} {ss : List Dat} : NB vs (srcT ss) := fun t h v _ => nb_src t h
theorem nb_dt {vs : List Nat} {d : Dat} {Θ : List Tmp} (h : NB vs Θ) : NB vs (.dt d :: Θ) := fun t ht v hv => by
  rcases List.mem_cons.mp ht with rfl | ht
  · exact fun z => nomatch z
  · exact h t ht v hv
theorem nb_fr {vs : List Nat} {d : List Dat} {Θ : List Tmp} (h : NB vs Θ) : NB vs (.fr d :: Θ) := fun t ht v hv => by
  rcases List.mem_cons.mp ht with rfl | ht
  · exact fun z => nomatch z
  · exact h t ht v hv
theorem nb_sc {vs : List Nat} {d : List Int} {Θ : List Tmp} (h : NB vs Θ) : NB vs (.sc d :: Θ) := fun t ht v hv => by
  rcases List.mem_cons.mp ht with rfl | ht
  · exact fun z => nomatch z
  · exact h t ht v hv
theorem nb_br {vs : List Nat} {i : Nat} {Θ : List Tmp} (hi : i ∉ vs) (h : NB vs Θ) : NB vs (.br i :: Θ) := fun t ht v hv => by
  rcases List.mem_cons.mp ht with rfl | ht
  · intro z; cases z; exact hi hv
  · exact h t ht v hv
theorem nb_arg {vs : List Nat} {a : Arg} {Θ : List Tmp} (h : NB vs Θ) : NB vs (a.tmp :: Θ) := by
  cases a with
  | dt d => exact nb_dt h
  | sc ns => exact nb_sc h
theorem nb_app {vs : List Nat} {Θ Θ' : List Tmp} (h : NB vs Θ) (h' : NB vs Θ') : NB vs (Θ ++ Θ') := fun t ht v hv => (List.mem_append.mp ht).elim (fun z => h t z v hv) fun z => h' t z v hv
section
variable {K : PySem.W.Frag} {Γ : List Cell} {Θ : List Tmp} {L : Addr → Prop} {S0 S : Hs} {σ σ' : L2.St} {τ : List V}
/-- slots that nothing is known of may hold anything -/
theorem Env.reslot {vs : List Nat} (E : Env K L S0 Γ Θ σ τ S) (hl : σ'.length = σ.length) (h : ∀ i, i ∉ vs → σ'[i]? = σ[i]?) (hn : ∀ v ∈ vs, Γ[v]? = some .no) (nb : NB vs Θ) : Env K L S0 Γ Θ σ' τ S := by
  obtain ⟨w, h1, h2⟩ := E.ok
  refine ⟨E.gr, E.sub, hl.trans E.len, w, fun i c e => ?_, h2.imp' fun k v t hk hm q => ?_⟩
  · by_cases hi : i ∈ vs
    · rw [hn i hi] at e; cases e; trivial
    · rw [h i hi]; exact h1 i c e
  · cases t with
    | dt d => exact q
    | fr ds => exact q
    | sc ns => exact q
    | ob pp => exact q
    | li R => exact q
    | br i =>
      show σ'[i]? = some (some v)
      rw [h i (fun hi => nb _ hm i hi rfl)]; exact q
theorem Env.wiped {vs : List Nat} (E : Env K L S0 Γ Θ σ τ S) (hn : ∀ v ∈ vs, Γ[v]? = some .no) (nb : NB vs Θ) : Env K L S0 Γ Θ (wipe σ vs) τ S := E.reslot (wipe_length _ _) (fun i hi => wipe_ne hi) hn nb
theorem Env.unwiped {vs : List Nat} (E : Env K L S0 Γ Θ (wipe σ vs) τ S) (hn : ∀ v ∈ vs, Γ[v]? = some .no) (nb : NB vs Θ) : Env K L S0 Γ Θ σ τ S := E.reslot (wipe_length _ _).symm (fun i hi => (wipe_ne hi).symm) hn nb
theorem Env.under {t : Tmp} {v : V} : ∀ {srcs : List Dat} {τ1 : List V}, Env K L S0 Γ (t :: (srcT srcs ++ Θ)) σ (v :: (τ1 ++ τ)) S → τ1.length = srcs.length → Env K L S0 Γ (t :: Θ) σ (v :: τ) S
  | [], [], E, _ => E
  | d :: ds, u :: us, E, e => Env.under (srcs := ds) (τ1 := us) (Env.swap E).pop (by simpa using e)
  | [], _ :: _, _, e => by cases e
  | _ :: _, [], _, e => by cases e
end
/-- what a comprehension's target does to the cells -/
structure TgI (K : PySem.W.Frag) (pr : Bool) (g : TG) (vs : List Nat) (d : Dat) (f : List Cell → List Cell) : Prop where
  run : ∀ (L : Addr → Prop) (S0 : Hs) (Γ : List Cell) (Θ : List Tmp) (σ : L2.St) (τ : List V) (S : Hs) (v : V) (R : L2.St → Hp → Prop), NB vs Θ → Env K L S0 Γ Θ (wipe σ vs) τ S → Itm S.b v d pr →
    (∀ σ', Env K L S0 (f Γ) Θ σ' τ S → wipe σ' vs = wipe σ vs → R σ' S.h) → g v (wipe σ vs) S.h R
theorem tg_name {K : PySem.W.Frag} {j : Nat} {vs : List Nat} {d : Dat} (hj : j ∈ vs) : TgI K false (gName j) vs d fun Γ => Γ.set j (.dt d) := ⟨fun L S0 Γ Θ σ τ S v R nb E hd k => k _ (E.setDt (fun t ht => nb t ht j hj) hd) (wipe_set hj)⟩
theorem tg_pair {K : PySem.W.Frag} {pr : Bool} {i j : Nat} {vs : List Nat} {x y : Dat} (hi : i ∈ vs) (hj : j ∈ vs) : TgI K pr (gTup K 2 (gCons (gName i) (gCons (gName j) gNil))) vs (.tuple [x, y]) fun Γ => (Γ.set i (.dt x)).set j (.dt y) := ⟨fun L S0 Γ Θ σ τ S v R nb E hd k => by
  obtain ⟨a, xs, e, h, p⟩ : ∃ a xs, v = .ref a ∧ SqT K S.h a xs ∧ DqAll S.b xs [x, y] := by
    cases pr with
    | false =>
      obtain ⟨a, o, xs, e, _, h, p⟩ := dp_tup (show Dq S.b v (.tuple [x, y]) from hd)
      exact ⟨a, xs, e, sqt_f (E.sub _ _ h), p⟩
    | true =>
      obtain ⟨a, xs, ds, e, e2, h, p⟩ := hd
      cases e2
      exact ⟨a, xs, e, .of (E.sub _ _ h), p⟩
  cases p with
  | cons p1 p =>
    cases p with
    | cons p2 p =>
      cases p
      exact ⟨a, _, e, h, rfl, _, _, rfl, _, _, rfl, rfl, k _ ((E.setDt (fun t ht => nb t ht i hi) p1).setDt (fun t ht => nb t ht j hj) p2) (wipe_set2 hi hj)⟩⟩
/-! ### a def -/
theorem args_cells {K : PySem.W.Frag} {L : Addr → Prop} {S0 S : Hs} {w : Wh} : ∀ {vs : List V} {as : List Arg} (j : Nat), ArgsOk K S.b vs as → ∀ i c, (as.map Arg.cell)[i]? = some c → SlotOk K L S0 w S (j + i) ((vs.map some)[i]?) c
  | _, _, _, .nil, i, c, e => by simp at e
  | _, _, j, .cons (v := v) (a := a) h t, 0, c, e => by
    cases e
    cases a with
    | dt d => exact ⟨v, rfl, h⟩
    | sc ns => obtain ⟨b, rfl, q⟩ := h; exact ⟨b, rfl, q⟩
  | _, _, j, .cons h t, i + 1, c, e => by
    have := args_cells (K := K) (L := L) (S0 := S0) (S := S) (w := w) (j + 1) t i c e
    rw [show j + (i + 1) = j + 1 + i by omega]
    exact this
def cells0 (N : List Str) (cs : List Cell) : List Cell := cs ++ List.replicate (N.length - cs.length) .no
theorem start_at {N : List Str} {vs : List V} {i : Nat} (h : i < vs.length) : (L2.start N vs)[i]? = (vs.map some)[i]? := by
  unfold L2.start
  rw [List.getElem?_append_left (by rw [List.length_map]; exact h)]
theorem env_start {K : PySem.W.Frag} {N : List Str} {vs : List V} {as : List Arg} {B H : Hp} (sub : Same B H) (h : ArgsOk K B vs as) (hl : vs.length ≤ N.length) : Env K L0 ⟨B, H⟩ (cells0 N (as.map Arg.cell)) [] (L2.start N vs) [] ⟨B, H⟩ := by
  refine ⟨Gr.refl _ _, sub, ?_, fun _ => none, fun i c e => ?_, trivial⟩
  · unfold L2.start cells0
    rw [List.length_append, List.length_append, List.length_map, List.length_map, List.length_replicate, List.length_replicate, h.len]
  · unfold cells0 at e
    by_cases hi : i < (as.map Arg.cell).length
    · rw [List.getElem?_append_left hi] at e
      rw [start_at (by rw [h.len]; rw [List.length_map] at hi; exact hi)]
      have := args_cells (K := K) (L := L0) (S0 := ⟨B, H⟩) (S := ⟨B, H⟩) (w := fun _ => none) 0 h i c e
      rw [Nat.zero_add] at this
      exact this
    · rw [List.getElem?_append_right (by omega)] at e
      have e2 := List.mem_of_getElem? e
      rw [List.mem_replicate] at e2
      rw [e2.2]
      trivial
section
variable {P : Program} {w : World} {K : PySem.W.Frag} {mg : Str → Option Value} {base : Heap}
abbrev Bx (P : Program) (w : World) (K : PySem.W.Frag) (mg : Str → Option Value) (base : Heap) (N : List Str) (qual : Str) (st : Stmt) (f : Addr) (cdv : Value) (A : Around) (outer : List PySem.Env) (s : Shared) (H : Hp) (E : XK) : Cx := (cxOf CX0 P w K mg base N qual (defScope st) f cdv A outer s H E).nox
/-- a def that changes the list that is its second argument -/
theorem env_startT {N : List Str} {v0 : V} {t : Addr} {rest : List V} {a0 : Arg} {as : List Arg} {zs : List Dat} {B H : Hp} (sub : Same B H) (h0 : ArgOk K B v0 a0) (h : ArgsOk K B rest as) (nb : B t = none) (hz : ∃ us, H t = some (.lst us) ∧ DqAll B us zs) (hl : rest.length + 2 ≤ N.length) :
    Env K (fun a => a = t) ⟨B, H⟩ (cells0 N (a0.cell :: .ln zs :: as.map Arg.cell)) [] (L2.start N (v0 :: .ref t :: rest)) [] ⟨B, H⟩ := by
  refine ⟨Gr.refl _ _, sub, ?_, fun a => if a = t then some (.inl 1) else none, fun i c e => ?_, trivial⟩
  · unfold L2.start cells0
    simp only [List.length_append, List.length_map, List.length_replicate, List.length_cons, h.len]
  · unfold cells0 at e
    by_cases hi : i < (a0.cell :: .ln zs :: as.map Arg.cell).length
    · rw [List.getElem?_append_left hi] at e
      rw [start_at (by simp only [List.length_cons, List.length_map, h.len] at hi ⊢; exact hi)]
      match i, e with
      | 0, e =>
        cases e
        cases a0 with
        | dt d => exact ⟨v0, rfl, h0⟩
        | sc ns => obtain ⟨b, rfl, q⟩ := h0; exact ⟨b, rfl, q⟩
      | 1, e =>
        cases e
        exact ⟨t, rfl, ⟨nb, if_pos rfl, hz⟩, rfl⟩
      | i + 2, e =>
        have := args_cells (K := K) (L := fun a => a = t) (S0 := ⟨B, H⟩) (S := ⟨B, H⟩) (w := fun a => if a = t then some (.inl 1) else none) 2 h i c e
        have e3 : 2 + i = i + 2 := Nat.add_comm 2 i
        rw [e3] at this
        exact this
    · rw [List.getElem?_append_right (by omega)] at e
      have e2 := List.mem_of_getElem? e
      rw [List.mem_replicate] at e2
      rw [e2.2]
      trivial
end
end Ld
set_option Elab.async false
set_option linter.all false
set_option maxRecDepth 100000
namespace Ld
open PySem PySem.Spec PyProof.Rows L2 Lx
/-! ### isinstance of data -/
def tyN : Dat → String
  | .none => "NoneType"
  | .bool _ => "bool"
  | .int _ => "int"
  | .str _ => "str"
  | .list _ => "list"
  | .tuple _ => "tuple"
  | .dict _ => "dict"
theorem dq_ty {K : PySem.W.Frag} {H : Hp} {v : V} {d : Dat} (h : Dq H v d) : TyX K H v (.type (tyN d)) := by
  cases h with
  | non => exact .base .non
  | bl b => exact .base (.bl b)
  | int i => exact .base (.int i)
  | str x => exact .base (.str x)
  | lst h _ => exact .base (.lst h)
  | tup hd h _ => exact .fTuple h
section
variable {K : PySem.W.Frag} {Γ : List Cell} {Θ : List Tmp}
theorem ve_isi {ta : TE} {n : String} {Q : List Cell → Tmp → Prop} (h : VE K Γ Θ ta fun Γ1 x => ∃ d b, rd Γ1 x d ∧ kitB (tyN d) n = some b ∧ Q Γ1 (.dt (.bool b))) : VE K Γ Θ (tCB (rIsi K) (tCons ta (tCons (tC (.ty n)) tNil))) Q := fun L S0 σ τ S Qv E k => h L S0 σ τ S _ E fun Γ1 S1 v x E1 ⟨d, b, hd, hb, q⟩ =>
  ⟨v, .ty n, _, _, b, rfl, .ty n, dq_ty (E1.rd hd), kit_ty hb, k Γ1 S1 _ _ (E1.pop.push (.bl b)) q⟩
end
section
variable {K : PySem.W.Frag} {Γ : List Cell} {Θ : List Tmp}
/-! ### what is under way, by its form -/
theorem fz_dt {d : Dat} {Q : List Cell → Dat → Prop} (q : Q Γ d) : Fz Γ Q (.dt d) := q
theorem fz_fr {d : List Dat} {Q : List Cell → Dat → Prop} (q : Q Γ (.list d)) : Fz Γ Q (.fr d) := q
theorem fz_br {i : Nat} {ds : List Dat} {Q : List Cell → Dat → Prop} (h : Γ[i]? = some (.ow ds)) (q : Q (Γ.set i (.dt (.list ds))) (.list ds)) : Fz Γ Q (.br i) := ⟨ds, h, q⟩
theorem az_dt {d : Dat} {Q : List Cell → Arg → Prop} (q : Q Γ (.dt d)) : Az Γ Q (.dt d) := q
theorem az_sc {d : List Int} {Q : List Cell → Arg → Prop} (q : Q Γ (.sc d)) : Az Γ Q (.sc d) := q
theorem az_fr {d : List Dat} {Q : List Cell → Arg → Prop} (q : Q Γ (.dt (.list d))) : Az Γ Q (.fr d) := q
theorem az_br {i : Nat} {ds : List Dat} {Q : List Cell → Arg → Prop} (h : Γ[i]? = some (.ow ds)) (q : Q (Γ.set i (.dt (.list ds))) (.dt (.list ds))) : Az Γ Q (.br i) := ⟨ds, h, q⟩
theorem asb {b : Bool} {Q : List Cell → Bool → Prop} (q : Q Γ b) : AsB Γ Q (.dt (.bool b)) := q
theorem sto_dt {i : Nat} {d : Dat} {Q : List Cell → Prop} (q : Q (Γ.set i (.dt d))) : Sto Γ i Q (.dt d) := q
theorem sto_fr {i : Nat} {d : List Dat} {Q : List Cell → Prop} (q : Q (Γ.set i (.ow d))) : Sto Γ i Q (.fr d) := q
theorem sto_br {i j : Nat} {ds : List Dat} {Q : List Cell → Prop} (h : Γ[j]? = some (.ow ds)) (q : Q ((Γ.set j (.dt (.list ds))).set i (.dt (.list ds)))) : Sto Γ i Q (.br j) := ⟨ds, h, q⟩
theorem rd_dt {d : Dat} : rd Γ (.dt d) d := rfl
theorem rd_fr {ds : List Dat} : rd Γ (.fr ds) (.list ds) := rfl
theorem rd_ow {i : Nat} {ds : List Dat} (h : Γ[i]? = some (.ow ds)) : rd Γ (.br i) (.list ds) := .inr ⟨ds, rfl, .inl h⟩
theorem rd_ln {i : Nat} {ds : List Dat} (h : Γ[i]? = some (.ln ds)) : rd Γ (.br i) (.list ds) := .inr ⟨ds, rfl, .inr h⟩
theorem sq_l {x : Tmp} {ds : List Dat} (h : rd Γ x (.list ds)) : SeqD Γ x ds := .inl h
theorem sq_t {ds : List Dat} : SeqD Γ (.dt (.tuple ds)) ds := .inr rfl
theorem isl_ow {i : Nat} {ds : List Dat} (h : Γ[i]? = some (.ow ds)) : IsLs Γ i ds := ⟨_, h, rfl⟩
theorem isl_ln {i : Nat} {ds : List Dat} (h : Γ[i]? = some (.ln ds)) : IsLs Γ i ds := ⟨_, h, rfl⟩
theorem b2 {A B : Prop} {b : Bool} (h1 : b = true → A) (h2 : b = false → B) : (b = true → A) ∧ (b = false → B) := ⟨h1, h2⟩
theorem r2_eqS {ns : List Int} {y : Tmp} {e : Dat} {Q : List Cell → Tmp → Prop} (hy : rd Γ y e) (sd : SeqAt.shaped (.list (ns.map .int)) = true) (se : SeqAt.shaped e = true) (q : Q Γ (.dt (.bool (PyData.eqv (.list (ns.map .int)) e)))) : R2V K (rEqD K) Γ Θ (.sc ns) y Q := fun L S0 σ τ S vx vy Qv E k => by
  obtain ⟨w, a, ea, hs⟩ := E.pop.top
  have dpi : ∀ ns : List Int, DpAll K S.h (ns.map V.int) (ns.map PyData.int) := fun ns => by
    induction ns with
    | nil => exact .nil
    | cons n ns ih => exact .cons (.int n) ih
  exact ⟨_, e, by rw [ea]; exact .lst (E.sub.seq hs) (dpi ns), dq_dp _ _ (E.rd hy), sd, se, k Γ S _ _ (E.pop.pop.push (.bl _)) q⟩
theorem ve_scr {i : Nat} {ns : List Int} {Q : List Cell → Tmp → Prop} (h : Γ[i]? = some (.sc ns)) (q : Q Γ (.sc ns)) : VE K Γ Θ (tVar i) Q := fun L S0 σ τ S Qv E k => by
  obtain ⟨w, h1, h2⟩ := id E.ok
  obtain ⟨a, e, p⟩ := h1 i _ h
  exact ⟨_, e, k Γ S (.ref a) (.sc ns) ⟨E.gr, E.sub, E.len, w, h1, ⟨a, rfl, p⟩, h2⟩ q⟩
end
/-! ### a def of the text, a def that keeps its promise -/
structure Df (K : PySem.W.Frag) (mg : Str → Option Value) (x : Str) (st : Stmt) (ps : List Str) (f : Addr) (fd : FuncData) : Prop where
  F : Fun K x x st f fd
  g : mg x = some (.ref f)
  b : Binds K fd ps []
structure Cal (P : Program) (w : World) (K : PySem.W.Frag) (mg : Str → Option Value) (base : Heap) (k : Nat) (x : Str) (ps : List Str) (sp : Sp) (f : Addr) (fd : FuncData) : Prop where
  G : FnOk P w K mg base CX0 k f fd ps sp
  g : mg x = some (.ref f)
  kp : PySem.W.keepIn K (.ref f) = true
  b : Binds K fd ps []
theorem Df.cal {P : Program} {w : World} {K : PySem.W.Frag} {mg : Str → Option Value} {base : Heap} {k : Nat} {x : Str} {st : Stmt} {ps : List Str} {sp : Sp} {f : Addr} {fd : FuncData} (D : Df K mg x st ps f fd) (G : FnOk P w K mg base CX0 k f fd ps sp) : Cal P w K mg base k x ps sp f fd := ⟨G, D.g, D.F.kp, D.b⟩
end Ld
set_option Elab.async false
set_option linter.all false
set_option maxRecDepth 100000
namespace PySem
open Sem (wp)
open Builtin Builtin.Str
end PySem
namespace Ld
open PySem PySem.Spec PyProof.Rows L2 Lx
/-! ### enumerate(tuple) -/
def IteT (K : PySem.W.Frag) (a : Addr) : It :=
  ⟨fun i H => ∃ (xs : List V) (x : V), SqT K H a xs ∧ xs[i]? = some x, fun i H v H' => ∃ T x, v = .ref T ∧ H T = none ∧ H' = upd H T (.tup [.int (i : Nat), x]) ∧ ∀ xs, SqT K H a xs → xs[i]? = some x, fun i H => ∃ xs : List V, SqT K H a xs ∧ xs.length ≤ i⟩
def iEnumT (K : PySem.W.Frag) (ta : TA) : TI := fun σ H R => ta σ H fun vs H1 => ∃ a xs, vs = [.ref a] ∧ SqT K H1 a xs ∧ R (IteT K a) H1
section
variable {K : PySem.W.Frag} {Γ : List Cell} {Θ : List Tmp}
theorem vi_enumT {te : TE} {Q : List Cell → Bool → List Dat → Prop} (h : VD K Γ Θ te fun Γ1 d => ∃ ds, d = .tuple ds ∧ Q Γ1 true (enumD ds)) : VI K Γ Θ (iEnumT K (tCons te tNil)) Q := fun L S0 σ τ S R E k => h L S0 σ τ S _ E fun Γ1 S1 v d E1 ⟨ds, ed, q⟩ => by
  subst ed
  obtain ⟨a, o, xs, ev, _, hx, p⟩ := dp_tup E1.dt
  subst ev
  refine ⟨a, xs, rfl, sqt_f (E1.sub _ _ hx), k Γ1 [.tuple ds] [.ref a] S1 _ true (enumD ds) E1 rfl ⟨fun S i sub hs hi => ?_, fun S sub hs => ?_, fun S i x H' sub hs hi y => ?_⟩ q⟩
  · obtain ⟨ys, hy', py⟩ := src_t (K := K) sub (dqa_one hs)
    rw [enumD_len] at hi
    obtain ⟨z, hz, _⟩ := py.get (List.getElem?_eq_getElem hi)
    exact ⟨ys, z, hy', hz⟩
  · obtain ⟨ys, hy', py⟩ := src_t (K := K) sub (dqa_one hs)
    exact ⟨ys, hy', by rw [enumD_len]; exact Nat.le_of_eq py.len⟩
  · obtain ⟨ys, hy', py⟩ := src_t (K := K) sub (dqa_one hs)
    rw [enumD_len] at hi
    obtain ⟨T, z, rfl, hT, rfl, y⟩ := y
    obtain ⟨d, hd, gd⟩ := py.getV (y ys hy')
    obtain ⟨S', e1, g1, s1, q1⟩ := gr_pair sub hT (.int (i : Nat)) gd
    exact ⟨S', _, e1, g1, s1, enumD_at hd, q1⟩
end
/-! ### sorted of a tuple of ints -/
end Ld
set_option Elab.async false
set_option linter.all false
set_option maxRecDepth 100000
namespace Ld
open PySem PySem.Spec PyProof.Rows L2 Lx
/-! ### promises with a ghost -/
def spG {α : Type} (K : PySem.W.Frag) (A : α → List Arg) (pre : α → Prop) (post : α → Dat → Prop) : Sp := fun vs H Q _ => ∃ (B : Hp) (x : α), Same B H ∧ ArgsOk K B vs (A x) ∧ pre x ∧
  ∀ v S' d, Gr L0 ⟨B, H⟩ S' → Same S'.b S'.h → Dq S'.b v d → post x d → Q v S'.h
abbrev spF {α : Type} (K : PySem.W.Frag) (A : α → List Arg) (pre : α → Prop) (g : α → Dat) : Sp := spG K A pre fun x d => d = g x
def spW {α : Type} (K : PySem.W.Frag) (A : α → Arg × List Arg) (pre : α → List Dat → Prop) (post : α → List Dat → List Dat → Dat → Prop) : Sp := fun vs H Q _ => ∃ (B : Hp) (v0 : V) (t : Addr) (rest : List V) (x : α) (zs : List Dat), vs = v0 :: .ref t :: rest ∧ Same B H ∧ ArgsOk K B (v0 :: rest) ((A x).1 :: (A x).2) ∧
  B t = none ∧ (∃ us, H t = some (.lst us) ∧ DqAll B us zs) ∧ pre x zs ∧
  ∀ v S' zs' d, Gr (fun a => a = t) ⟨B, H⟩ S' → Same S'.b S'.h → S'.b t = none → (∃ us, S'.h t = some (.lst us) ∧ DqAll S'.b us zs') → Dq S'.b v d → post x zs zs' d → Q v S'.h
section
variable {K : PySem.W.Frag} {Γ : List Cell} {Θ : List Tmp}
theorem ve_callG {α : Type} {A : α → List Arg} {pre : α → Prop} {post : α → Dat → Prop} {X : XK} {t : TA} {Q : List Cell → Tmp → Prop} (h : VAX K Γ Θ t fun Γ1 as => ∃ x, as = A x ∧ pre x ∧ ∀ d, post x d → Q Γ1 (.dt d)) : VE K Γ Θ (tCall (spG K A pre post) [] X t) Q := fun L S0 σ τ S Qv E k => h L S0 σ τ S _ E fun Γ1 S1 vs as E1 p ⟨x, ex, hp, q⟩ => by
  show spG K A pre post (vs ++ []) S1.h Qv X
  rw [List.append_nil]
  subst ex
  exact ⟨S1.b, x, E1.sub, p, hp, fun v S' d g s hd hq => k Γ1 S' v _ ((E1.grow g s).push hd) (q d hq)⟩
theorem ve_callF {α : Type} {A : α → List Arg} {pre : α → Prop} {g : α → Dat} {X : XK} {t : TA} {Q : List Cell → Tmp → Prop} (h : VAX K Γ Θ t fun Γ1 as => ∃ x, as = A x ∧ pre x ∧ Q Γ1 (.dt (g x))) : VE K Γ Θ (tCall (spF K A pre g) [] X t) Q :=
  ve_callG fun L S0 σ τ S Qv E k => h L S0 σ τ S Qv E fun Γ1 S1 vs as E1 p ⟨x, ex, hp, q⟩ => k Γ1 S1 vs as E1 p ⟨x, ex, hp, fun d hd => by rw [hd]; exact q⟩
theorem ve_callW {α : Type} {A : α → Arg × List Arg} {pre : α → List Dat → Prop} {post : α → List Dat → List Dat → Dat → Prop} {X : XK} {t0 : TE} {i : Nat} {t : TA} {Q : List Cell → Tmp → Prop}
    (h : VX K Γ Θ t0 fun Γ1 a0 => (∃ ds, IsLs Γ1 i ds) ∧ VAX K Γ1 (a0.tmp :: Θ) t fun Γ2 as => ∃ x zs, IsLs Γ2 i zs ∧ (a0, as) = A x ∧ pre x zs ∧ ∀ zs' d, post x zs zs' d → Q (putC Γ2 i zs') (.dt d)) :
    VE K Γ Θ (tCall (spW K A pre post) [] X (tCons t0 (tCons (tVar i) t))) Q := fun L S0 σ τ S Qv E k => h L S0 σ τ S _ E fun Γ1 S1 v0 a0 E1 ⟨⟨ds, c1, hc1, hl1⟩, h1⟩ => by
  obtain ⟨a, ea, _⟩ := E1.own hc1 hl1
  refine ⟨_, ea, h1 L S0 σ (v0 :: τ) S1 _ E1 fun Γ2 S2 vs as E2 p ⟨x, zs, ⟨c, hc, hl⟩, ex, hp, q⟩ => ?_⟩
  obtain ⟨a', ea', nb, us, hu, pu⟩ := E2.own hc hl
  rw [ea] at ea'; cases ea'
  show spW K A pre post ((v0 :: .ref a :: vs) ++ []) S2.h Qv X
  rw [List.append_nil]
  refine ⟨S2.b, v0, a, vs, x, zs, rfl, E2.sub, ?_, nb, ⟨us, hu, pu⟩, hp, fun v S' zs' d g s nb' hz hd hq => ?_⟩
  · rw [← ex]; exact .cons (argOk_top E2) p
  · have q' := q zs' d hq
    rw [putC_eq hc] at q'
    exact k _ S' v _ ((E2.pop.lent hc hl ea g s nb' hz).push hd) q'
/-- a comprehension over items of one kind -/
theorem ve_lcT {α : Type} (inj : α → Dat) (xs : List α) (p : α → Bool) (v : α → Dat) {wi : TI} {g : TG} {tt : TT} {te : TE} {vs : List Nat} {Q : List Cell → Tmp → Prop} (nb : NB vs Θ)
    (h : VI K Γ Θ wi fun Γ1 pr ds => ds = xs.map inj ∧ (∀ v ∈ vs, Γ1[v]? = some Cell.no) ∧ xs.length < sizeLine ∧ (∀ a, a ∈ xs → ∃ f, TgI K pr g vs (inj a) f ∧ ∀ acc srcs, VT K (f Γ1) (.fr acc :: (srcT srcs ++ Θ)) tt fun Γ3 b =>
      b = p a ∧ (b = true → VD K Γ3 (.fr acc :: (srcT srcs ++ Θ)) te fun Γ4 y => y = v a ∧ clr vs Γ4 = Γ1) ∧ (b = false → clr vs Γ3 = Γ1)) ∧ Q Γ1 (.fr ((xs.filter p).map v))) : VE K Γ Θ (tLc wi g tt te vs) Q := fun L S0 σ τ S Qv E k =>
  h L S0 σ τ S _ E fun Γ1 srcs τ1 S1 J pr ds E1 hl w ⟨eds, hn, hsz, hs, hq⟩ => fun D hD => by
    have nbs : NB vs (srcT srcs ++ Θ) := nb_app nb_srcT nb
    have hls : ds.length = xs.length := by rw [eds, List.length_map]
    have E1w : Env K L S0 Γ1 (.fr [] :: (srcT srcs ++ Θ)) (wipe σ vs) (.ref D :: (τ1 ++ τ)) ⟨S1.b, upd S1.h D (.lst [])⟩ := (E1.newLst hD .nil).wiped hn (nb_fr nbs)
    refine ⟨fun i m H => m = ds.length - i ∧ i ≤ ds.length ∧ ∃ S2, S2.h = H ∧ Env K L S0 Γ1 (.fr (((xs.take i).filter p).map v) :: (srcT srcs ++ Θ)) (wipe σ vs) (.ref D :: (τ1 ++ τ)) S2, ⟨_, rfl, Nat.zero_le _, _, rfl, E1w⟩, ?_⟩
    rintro i m H ⟨rfl, hi, S2, rfl, E2⟩
    have dq := E2.pop.srcs hl
    by_cases hlt : i < ds.length
    · refine .inr ⟨w.go S2 i E2.sub dq hlt, fun H3 => ∃ S3, S3.h = H3 ∧ Env K L S0 Γ1 (.fr (((xs.take (i + 1)).filter p).map v) :: (srcT srcs ++ Θ)) (wipe σ vs) (.ref D :: (τ1 ++ τ)) S3,
        fun H' ⟨S3, e, E3⟩ => ⟨_, by omega, rfl, hlt, S3, e, E3⟩, fun x H' y => ?_⟩
      obtain ⟨S3, d, e3, g3, s3, hd3, q3⟩ := w.yld S2 i x H' E2.sub dq hlt y
      subst e3
      obtain ⟨a, ha, ead⟩ : ∃ a, xs[i]? = some a ∧ inj a = d := by
        rw [eds, List.getElem?_map] at hd3
        exact Option.map_eq_some_iff.mp hd3
      subst ead
      obtain ⟨f, tg, hf⟩ := hs a (List.mem_of_getElem? ha)
      refine tg.run L S0 Γ1 _ σ _ S3 x _ (nb_fr nbs) (E2.grow g3 s3) q3 fun σ3 E3 ew => ⟨ew, ?_⟩
      refine hf _ srcs L S0 σ3 _ S3 _ E3 fun Γ4 S4 b E4 ⟨eb, q4⟩ => ?_
      have fin : ∀ {Γ5 : List Cell} {acc5 : List Dat} {S5 : Hs}, Env K L S0 Γ5 (.fr acc5 :: (srcT srcs ++ Θ)) σ3 (.ref D :: (τ1 ++ τ)) S5 → clr vs Γ5 = Γ1 → Env K L S0 Γ1 (.fr acc5 :: (srcT srcs ++ Θ)) (wipe σ vs) (.ref D :: (τ1 ++ τ)) S5 := fun {Γ5 acc5 S5} E5 p5 => by
        rw [← ew, ← p5]
        exact (E5.forget (clr_len vs) fun i c e => clr_at e).wiped (by rw [p5]; exact hn) (nb_fr nbs)
      have tk : xs.take (i + 1) = xs.take i ++ [a] := by rw [List.take_add_one, ha] <;> rfl
      cases b with
      | true =>
        rw [if_pos rfl]
        refine q4.1 rfl L S0 σ3 _ S4 _ E4 fun Γ5 S5 u y E5 ⟨ey, p5⟩ => ?_
        obtain ⟨a', us, ea, hu, pu, mk⟩ := E5.swap.mutTop
        cases ea
        have hv : Dq S5.b u y := E5.dt
        have le : us.length ≤ xs.length := by
          rw [pu.len, List.length_map]
          exact Nat.le_trans (List.length_filter_le _ _) (by rw [List.length_take]; omega)
        refine ⟨us, hu, by omega, ⟨S5.b, upd S5.h D (.lst (us ++ [u]))⟩, rfl, ?_⟩
        have := fin (Env.pop (Env.swap (mk (us ++ [u]) _ (pu.app (.one hv))))) p5
        rw [tk, List.filter_append, List.map_append, List.filter_cons, if_pos eb.symm, List.filter_nil, List.map_singleton, ← ey]
        exact this
      | false =>
        rw [if_neg Bool.false_ne_true]
        refine ⟨S4, rfl, ?_⟩
        have := fin E4 (q4.2 rfl)
        rw [tk, List.filter_append, List.map_append, List.filter_cons, if_neg (by rw [← eb]; exact Bool.false_ne_true), List.filter_nil, List.map_nil, List.append_nil]
        exact this
    · have e : i = ds.length := by omega
      subst e
      rw [hls, List.take_length] at E2
      exact .inl ⟨w.stop S2 E2.sub dq, k Γ1 S2 _ _ ((E2.under hl).unwiped hn (nb_fr nb)) hq⟩
end
section
variable {P : Program} {w : World} {K : PySem.W.Frag} {mg : Str → Option Value} {base : Heap}
theorem ok_G {α : Type} {x qual : Str} {st : Stmt} {f : Addr} {fd : FuncData} {N ps : List Str} {k : Nat} {Ar : α → List Arg} {pre : α → Prop} {post : α → Dat → Prop} (F : Fun K x qual st f fd) (Sc : FnScope N ps (defScope st)) (hl : ∀ x, (Ar x).length = ps.length) (hN : ps.length ≤ N.length)
    (hb : ∀ (cdv : Value) (A : Around) (outer : List PySem.Env) (s : Shared) (H : Hp) (E : XK), Room k (A.deeper (envOfC qual (defScope st) s.heap.objs.size f cdv)) →
      ∃ t, PSs (Bx P w K mg base N qual st f cdv A outer s H E) (defBody st) t ∧ ∀ x, pre x → VSs K (cells0 N ((Ar x).map Arg.cell)) t ⟨fun _ => post x .none, fun _ d => post x d, fun _ => False, fun _ => False⟩) : FnOk P w K mg base CX0 (k + 1) f fd ps (spG K Ar pre post) := by
  refine F.ok Sc (fun vs H Q E h => ?_) (fun cdv A outer s H vs Q E hr h => ?_)
  · obtain ⟨B, x, _, p, hp, _⟩ := h
    rw [p.len, hl x]
  · obtain ⟨t, ht, hv⟩ := hb cdv A outer s H E hr
    obtain ⟨B, x, sub, p, hp, q⟩ := h
    have hlv : vs.length ≤ N.length := by rw [p.len, hl x]; exact hN
    refine ⟨t, ht, ?_⟩
    refine hv x hp [] L0 ⟨B, H⟩ (L2.start N vs) [] ⟨B, H⟩ _ (env_start sub p hlv) (fun Γ' σ' S' E' z => ?_) (fun Γ' σ' S' v d E' hd z => ?_) (fun Γ' σ' S' E' z => z.elim) (fun Γ' σ' S' E' z => z.elim)
    · exact q .non S' .none E'.gr E'.sub .non z
    · exact q v S' d E'.gr E'.sub hd z
theorem ok_W {α : Type} {x qual : Str} {st : Stmt} {f : Addr} {fd : FuncData} {N ps : List Str} {k : Nat} {Ar : α → Arg × List Arg} {pre : α → List Dat → Prop} {post : α → List Dat → List Dat → Dat → Prop} (F : Fun K x qual st f fd) (Sc : FnScope N ps (defScope st)) (hl : ∀ x, (Ar x).2.length + 2 = ps.length) (hN : ps.length ≤ N.length)
    (hb : ∀ (cdv : Value) (A : Around) (outer : List PySem.Env) (s : Shared) (H : Hp) (E : XK), Room k (A.deeper (envOfC qual (defScope st) s.heap.objs.size f cdv)) →
      ∃ t, PSs (Bx P w K mg base N qual st f cdv A outer s H E) (defBody st) t ∧ ∀ x zs, pre x zs → VSs K (cells0 N ((Ar x).1.cell :: .ln zs :: (Ar x).2.map Arg.cell)) t
        ⟨fun Γ => ∃ zs', Γ[1]? = some (.ln zs') ∧ post x zs zs' .none, fun Γ d => ∃ zs', Γ[1]? = some (.ln zs') ∧ post x zs zs' d, fun _ => False, fun _ => False⟩) : FnOk P w K mg base CX0 (k + 1) f fd ps (spW K Ar pre post) := by
  refine F.ok Sc (fun vs H Q E h => ?_) (fun cdv A outer s H vs Q E hr h => ?_)
  · obtain ⟨B, v0, t, rest, x, zs, rfl, _, p, _, _, hp, _⟩ := h
    have := hl x
    have := p.len
    simp only [List.length_cons] at *
    omega
  · obtain ⟨tr, ht, hv⟩ := hb cdv A outer s H E hr
    obtain ⟨B, v0, t, rest, x, zs, rfl, sub, p, nb, hz, hp, q⟩ := h
    obtain ⟨p0, p1⟩ : ArgOk K B v0 (Ar x).1 ∧ ArgsOk K B rest (Ar x).2 := by cases p with | cons a b => exact ⟨a, b⟩
    have hlv := hl x
    have hle := p1.len
    refine ⟨tr, ht, ?_⟩
    have fin : ∀ {Γ' : List Cell} {σ' : L2.St} {S' : Hs} {v : V} {d : Dat}, Env K (fun a => a = t) ⟨B, H⟩ Γ' [] σ' [] S' → Dq S'.b v d → (∃ zs', Γ'[1]? = some (.ln zs') ∧ post x zs zs' d) → Q v S'.h := fun {Γ' σ' S' v d} E' hd ⟨zs', h1, z⟩ => by
      obtain ⟨wd, g1, _⟩ := E'.ok
      obtain ⟨b, _, o, hb⟩ := g1 1 _ h1
      cases hb
      exact q v S' zs' d E'.gr E'.sub o.nb o.is hd z
    refine hv x zs hp [] (fun a => a = t) ⟨B, H⟩ _ [] ⟨B, H⟩ _ (env_startT sub p0 p1 nb hz (by omega)) (fun Γ' σ' S' E' z => ?_) (fun Γ' σ' S' v d E' hd z => fin E' hd z) (fun Γ' σ' S' E' z => z.elim) (fun Γ' σ' S' E' z => z.elim)
    exact fin E' .non z
end
end Ld
namespace Ld
open PySem PySem.Spec PyProof.Rows L2 Lx
/-- a module's whole number -/
structure GlobI (K : PySem.W.Frag) (mg : Str → Option Value) (x : Str) (n : Int) : Prop where
  u : ∃ t, mg x = some (.int n t)
end Ld
namespace Ld
open PySem PySem.Spec PyProof.Rows L2 Lx
section
variable {K : PySem.W.Frag} {Γ : List Cell} {Θ : List Tmp}
theorem c1_allF {ds : List Dat} (bs : List Bool) {Q : List Cell → Tmp → Prop} (h : ds = bs.map .bool) (q : Q Γ (.dt (.bool (bs.all id)))) : C1V K (L2.rAll K) Γ Θ (.fr ds) Q := c1_all (ns := bs) (by rw [h]; exact rd_fr) q
end
end Ld
set_option Elab.async false
set_option linter.all false
set_option maxRecDepth 100000
namespace Ld
open PySem PySem.Spec PyProof.Rows L2 Lx
section
variable {X : Cx} {K : PySem.W.Frag}
theorem ix_listK (e : X.K = K) : IxR X (rIxL K) := e ▸ ix_list
theorem cl_lenK (e : X.K = K) : CallR X (.builtin "len") (rLenSeq K) := e ▸ cl_len
theorem sl_listK (e : X.K = K) : SlR X (rSlL K) := e ▸ sl_list
theorem sl_tupFK (e : X.K = K) : SlR X (rSlF K) := e ▸ sl_tupF
theorem pi_listK {tg l : Expr} {tl : TE} (e : X.K = K) (hl : PE X l tl) : PI X tg l (iList K tl) := e ▸ pi_list hl
theorem pg_tupK {es : List Expr} {k : Nat} {t : TGs} {n : Nat} {pos : Pos} (e : X.K = K) (hc : X.calm = true) (h : PGs X es t)
    (hn : (assignEach es X.env).length = n := by rfl) (hst : (assignEach es X.env).findIdx? (·.1) = none := by rfl) : PG X (.Tuple es k pos) (gTup K n t) := e ▸ pg_tup hc h hn hst
end
end Ld
set_option Elab.async false
set_option linter.all false
set_option maxRecDepth 100000
namespace Sh
open PySem PySem.Spec PyProof.Rows L2 Lx Ld
/-! ### data of rows -/
abbrev iL (ns : List Int) : List Dat := ns.map .int
def oD : Option Int → Dat
  | none => .none
  | some i => .int i
abbrev oL (row : List (Option Int)) : List Dat := row.map oD
def nums (row : List (Option Int)) : List Int := row.filterMap id
def gr (ns : List Int) : List Int := ns.zipIdx.map fun p => (((ns.take p.2).filter fun o => decide (o > p.1)).length : Nat)
def RowOk (r : List (Option Int)) : Prop := r.length ≤ 24 ∧ (nums r).Nodup
def tL (ll : List (List Int)) : List Dat := ll.map fun l => .tuple (iL l)
def asc (ns : List Int) : List Int := ns.mergeSort fun a b => decide (a ≤ b)
theorem kb_ii : kitB "int" "int" = some true := by decide +kernel
theorem kb_ib : kitB "int" "bool" = some false := by decide +kernel
theorem kb_tt : kitB "tuple" "tuple" = some true := by decide +kernel
theorem kb_ll : kitB "list" "list" = some true := by decide +kernel
theorem gl_le {n : Nat} (h : n ≤ 100000) : n ≤ sizeLine := by
  have : 100000 < sizeLine := by decide +kernel
  omega
theorem gl_lt {n : Nat} (h : n ≤ 100000) : n < sizeLine := by
  have : 100000 < sizeLine := by decide +kernel
  omega
theorem nums_eq : ∀ row : List (Option Int), (row.filter fun o => !isNo (oD o)).map oD = iL (nums row)
  | [] => rfl
  | none :: r => nums_eq r
  | some i :: r => by
    show PyData.int i :: ((r.filter fun o => !isNo (oD o)).map oD) = PyData.int i :: iL (nums r)
    rw [nums_eq r]
theorem nums_len (row : List (Option Int)) : (nums row).length ≤ row.length := List.length_filterMap_le _ _
theorem cut_to (ds : List Dat) (n : Nat) : Ld.cutD ds none (some (n : Int)) = ds.take n := by
  unfold Ld.cutD
  rw [HT.sIx_none, HT.sIx_nat, List.drop_zero, Nat.sub_zero, List.take_eq_take_iff]
  omega
theorem ixN_at {n j : Nat} (hj : j < n) : ixN n (j : Int) = some j := by
  unfold ixN
  rw [if_pos (by omega), if_pos (by omega), Int.toNat_natCast]
theorem atI_nat {α : Type} {xs : List α} {j : Nat} {x : α} (h : xs[j]? = some x) : atI xs (j : Int) = some x := by
  have hj := (List.getElem?_eq_some_iff.mp h).1
  unfold atI
  rw [ixN_at hj]
  exact h
theorem take_snoc {α : Type} {r : List α} {i : Nat} {o : α} (h : r[i]? = some o) : r.take (i + 1) = r.take i ++ [o] := by rw [List.take_add_one, h] <;> rfl
/-! ### sorting -/
end Sh
namespace Sh
open PySem PySem.Spec PyProof.Rows L2 Lx Ld
theorem oL_some (ns : List Int) : oL (ns.map some) = iL ns := by
  show List.map oD (List.map some ns) = _
  rw [List.map_map]
  rfl
theorem nums_some : ∀ ns : List Int, nums (ns.map some) = ns
  | [] => rfl
  | n :: ns => by
    show n :: nums (ns.map some) = _
    rw [nums_some ns]
end Sh
namespace Sh
theorem fil_true {α : Type} (xs : List α) : xs.filter (fun _ => true) = xs := List.filter_eq_self.mpr fun _ _ => rfl
end Sh
namespace Sh
open PySem PySem.Spec PyProof.Rows L2 Lx Ld
section
variable {K : PySem.W.Frag} {Γ : List Cell} {Θ : List Tmp}
theorem eqv_ii (i j : Int) : PyData.eqv (.int i) (.int j) = decide (i = j) := by
  simp [PyData.eqv, BEq.beq]
theorem r2_eqI {i j : Int} {Q : List Cell → Tmp → Prop} (q : Q Γ (.dt (.bool (decide (i = j))))) : R2V K (rEqD K) Γ Θ (.dt (.int i)) (.dt (.int j)) Q := r2_eqD rd_dt rd_dt rfl rfl (by rw [eqv_ii]; exact q)
theorem r2_neI {i j : Int} {Q : List Cell → Tmp → Prop} (q : Q Γ (.dt (.bool (!decide (i = j))))) : R2V K (rNeD K) Γ Θ (.dt (.int i)) (.dt (.int j)) Q := r2_neD rd_dt rd_dt rfl rfl (by rw [eqv_ii]; exact q)
end
theorem enum_iL (x : List Int) : enumD (iL x) = x.zipIdx.map fun p => PyData.tuple [.int p.2, .int p.1] := by
  unfold enumD
  rw [List.zipIdx_map, List.map_map]
  rfl
theorem iL_take (x : List Int) (n : Nat) : (iL x).take n = iL (x.take n) := List.map_take.symm
end Sh
namespace Sh
open PySem PySem.Spec PyProof.Rows L2 Lx Ld
end Sh
namespace Sh
open PySem PySem.Spec PyProof.Rows L2 Lx Ld
/-! ### data that are compared -/
def Shp (n : Nat) (d : Dat) : Prop := d.canLay0 = true ∧ d.depth ≤ n
theorem shp_all {n : Nat} : ∀ {ds : List Dat}, (∀ d ∈ ds, Shp n d) → PyData.canLayAll0 ds = true ∧ PyData.depthAll ds ≤ n
  | [], _ => ⟨by simp only [PyData.canLayAll0], by simp only [PyData.depthAll]; exact Nat.zero_le _⟩
  | d :: ds, h => by
    have h1 := h d (by simp)
    have h2 := shp_all fun e he => h e (List.mem_cons_of_mem _ he)
    refine ⟨by simp only [PyData.canLayAll0, h1.1, h2.1]; rfl, ?_⟩
    simp only [PyData.depthAll]
    have := h1.2
    have := h2.2
    omega
theorem shp_list {n : Nat} {ds : List Dat} (h : ∀ d ∈ ds, Shp n d) : Shp (n + 1) (.list ds) := by
  have := shp_all h
  refine ⟨by simp only [PyData.canLay0]; exact this.1, ?_⟩
  have := this.2
  simp only [PyData.depth]
  omega
theorem shp_int (i : Int) : Shp 1 (.int i) := ⟨by simp only [PyData.canLay0], by simp [PyData.depth]⟩
theorem shp_ok {n : Nat} {d : Dat} (h : Shp n d) (l : n ≤ 64) : SeqAt.shaped d = true := by
  show (d.canLay0 && decide (d.depth ≤ 64)) = true
  rw [h.1, decide_eq_true (Nat.le_trans h.2 l)]
  rfl
theorem shp_iL (ns : List Int) : ∀ d ∈ iL ns, Shp 1 d := fun d h => by
  obtain ⟨i, _, rfl⟩ := List.mem_map.mp h
  exact shp_int i
theorem shp_li (ns : List Int) : Shp 2 (.list (iL ns)) := shp_list (shp_iL ns)
theorem eqv_li (xs ys : List Int) : PyData.eqvAll (iL xs) (iL ys) = decide (xs = ys) := by
  induction xs generalizing ys with
  | nil => cases ys <;> simp [PyData.eqvAll]
  | cons x xs ih =>
    cases ys with
    | nil => simp [PyData.eqvAll]
    | cons y ys =>
      show PyData.eqvAll (.int x :: iL xs) (.int y :: iL ys) = _
      simp only [PyData.eqvAll, ih, eqv_ii]
      by_cases h : x = y <;> simp [h]
theorem eqv_l (xs ys : List Int) : PyData.eqv (.list (iL xs)) (.list (iL ys)) = decide (xs = ys) := by
  simp only [PyData.eqv, eqv_li]
section
variable {K : PySem.W.Frag} {Γ : List Cell} {Θ : List Tmp}
theorem r2_eqSL {ns ys : List Int} {y : Tmp} {Q : List Cell → Tmp → Prop} (hy : rd Γ y (.list (iL ys))) (q : Q Γ (.dt (.bool (decide (ns = ys))))) : R2V K (rEqD K) Γ Θ (.sc ns) y Q := r2_eqS hy (shp_ok (shp_li _) (by decide)) (shp_ok (shp_li _) (by decide)) (by rw [eqv_l]; exact q)
end
theorem atI_in {α : Type} {xs : List α} {i : Int} (h0 : 0 ≤ i) (h1 : i < xs.length) : ∃ x, atI xs i = some x ∧ x ∈ xs := by
  obtain ⟨n, rfl⟩ := Int.eq_ofNat_of_zero_le h0
  have hn : n < xs.length := by omega
  exact ⟨xs[n], atI_nat (List.getElem?_eq_getElem hn), List.getElem_mem _⟩
end Sh
namespace Sh
open PySem PySem.Spec PyProof.Rows L2 Lx Ld
def cntG (l : List Int) (a : Int) : Nat := (l.filter fun o => decide (o > a)).length
end Sh
namespace Sh
open PySem PySem.Spec PyProof.Rows L2 Lx Ld
theorem rng0_len {m : Nat} : (rngD 0 (m : Int)).length = m := by rw [rngD_len]; omega
theorem rng0 {m i : Nat} {d : Dat} (h : (rngD 0 (m : Int))[i]? = some d) : i < m ∧ d = .int (i : Int) := by
  have hi := (List.getElem?_eq_some_iff.mp h).1
  rw [rngD_len] at hi
  rw [rngD_at hi] at h
  exact ⟨by omega, by cases h; rw [Int.zero_add]⟩
end Sh
namespace Sh
end Sh
namespace Sh
end Sh
set_option Elab.async false
set_option linter.all false
set_option maxRecDepth 100000
namespace Sh
open PySem PySem.Spec PyProof.Rows L2 Lx Ld
end Sh
set_option Elab.async false
set_option linter.all false
set_option maxRecDepth 100000
namespace Sh
open PySem PySem.Spec PyProof.Rows L2 Lx Ld
/-! ### counts and rows: there and back -/
def gc (l : List Int) (x : Int) : Nat := cntG (l.takeWhile fun y => y != x) x
theorem take_idx (x : Int) : ∀ l : List Int, l.take (l.idxOf x) = l.takeWhile fun y => y != x
  | [] => rfl
  | y :: l => by
    rw [List.idxOf_cons, List.takeWhile_cons]
    by_cases h : y = x
    · subst h
      simp
    · have : (y == x) = false := by simp [h]
      rw [this]
      simp [h, take_idx x l]
theorem tw_out {x : Int} (R : List Int) : ∀ {A : List Int}, x ∉ A → ((A ++ R).takeWhile fun y => y != x) = A ++ R.takeWhile fun y => y != x
  | [], _ => rfl
  | y :: A, h => by
    have h1 : y ≠ x := fun z => h (by simp [z])
    rw [List.cons_append, List.takeWhile_cons, tw_out R fun z => h (List.mem_cons_of_mem _ z)]
    simp [h1]
theorem cntG_app (A B : List Int) (x : Int) : cntG (A ++ B) x = cntG A x + cntG B x := by
  unfold cntG
  rw [List.filter_append, List.length_append]
end Sh
namespace Sh
open PySem PySem.Spec PyProof.Rows L2 Lx Ld
section
variable {K : PySem.W.Frag} {Γ : List Cell} {Θ : List Tmp}
theorem eqF_ii (a b : Int) : eqF (.int a) (.int b) = decide (a = b) := by simp [eqF, BEq.beq]
theorem iL_fl (ns : List Int) : (iL ns).all flD = true := by simp [flD]
theorem idx_at {ns : List Int} {n : Int} (h : n ∈ ns) : (iL ns)[ns.idxOf n]? = some (.int n) := by
  have hi := List.idxOf_lt_length_iff.mpr h
  rw [List.getElem?_map, List.getElem?_eq_getElem hi]
  simp
theorem idx_no {ns : List Int} {n : Int} {m : Nat} {z : Dat} (hm : m < ns.idxOf n) (hz : (iL ns)[m]? = some z) : eqF z (.int n) = false := by
  rw [List.getElem?_map] at hz
  obtain ⟨k, hk, rfl⟩ := Option.map_eq_some_iff.mp hz
  rw [eqF_ii]
  refine decide_eq_false fun e => ?_
  subst e
  obtain ⟨hl, e2⟩ := List.getElem?_eq_some_iff.mp hk
  have := List.not_of_lt_findIdx (xs := ns) (p := (· == k)) (i := m) hm
  simp [e2] at this
theorem ve_indexI {ta te : TE} {Q : List Cell → Tmp → Prop}
    (h : VE K Γ Θ ta fun Γ1 x => (∃ ds, rd Γ1 x (.list ds)) ∧ VE K Γ1 (x :: Θ) te fun Γ2 y => ∃ ns n, rd Γ2 x (.list (iL ns)) ∧ y = .dt (.int n) ∧ n ∈ ns ∧ Q Γ2 (.dt (.int (ns.idxOf n : Nat)))) :
    VE K Γ Θ (tBM K "list" (rIndex K) ta (tCons te tNil)) Q := ve_indexL (ve_mono h fun Γ1 x ⟨h1, h2⟩ => ⟨h1, ve_mono h2 fun Γ2 y ⟨ns, n, g1, g2, g3, g4⟩ => by
  subst g2
  exact ⟨iL ns, .int n, ns.idxOf n, .int n, g1, rd_dt, rfl, iL_fl ns, idx_at g3, by rw [eqF_ii]; simp, fun m z hm hz => idx_no hm hz, g4⟩⟩)
theorem ve_tidxI {ta te : TE} {Q : List Cell → Tmp → Prop}
    (h : VE K Γ Θ ta fun Γ1 x => ∃ ns, x = .dt (.tuple (iL ns)) ∧ VE K Γ1 (x :: Θ) te fun Γ2 y => ∃ n, y = .dt (.int n) ∧ n ∈ ns ∧ Q Γ2 (.dt (.int (ns.idxOf n : Nat)))) :
    VE K Γ Θ (tTIdx ta te) Q := ve_tidx (ve_mono h fun Γ1 x ⟨ns, hx, h2⟩ => ⟨iL ns, hx, ve_mono h2 fun Γ2 y ⟨n, g2, g3, g4⟩ => by
  subst g2
  exact ⟨.int n, ns.idxOf n, .int n, rd_dt, rfl, iL_fl ns, idx_at g3, by rw [eqF_ii]; simp, fun m z hm hz => idx_no hm hz, g4⟩⟩)
end
end Sh
namespace Sh
open PySem PySem.Spec PyProof.Rows L2 Lx Ld
end Sh
namespace Sh
end Sh
namespace Sh
end Sh
set_option Elab.async false
set_option linter.all false
set_option maxRecDepth 100000
namespace Ld
open PySem PySem.Spec PyProof.Rows L2 Lx
def spV {α : Type} (K : PySem.W.Frag) (A : α → List Arg) (pre : α → List Dat → Prop) (post : α → List Dat → List Dat → Dat → Prop) : Sp := fun vs H Q _ => ∃ (B : Hp) (t : Addr) (rest : List V) (x : α) (zs : List Dat), vs = .ref t :: rest ∧ Same B H ∧ ArgsOk K B rest (A x) ∧
  B t = none ∧ (∃ us, H t = some (.lst us) ∧ DqAll B us zs) ∧ pre x zs ∧
  ∀ v S' zs' d, Gr (fun a => a = t) ⟨B, H⟩ S' → Same S'.b S'.h → S'.b t = none → (∃ us, S'.h t = some (.lst us) ∧ DqAll S'.b us zs') → Dq S'.b v d → post x zs zs' d → Q v S'.h
section
variable {K : PySem.W.Frag} {Γ : List Cell} {Θ : List Tmp}
theorem ve_callV {α : Type} {A : α → List Arg} {pre : α → List Dat → Prop} {post : α → List Dat → List Dat → Dat → Prop} {X : XK} {i : Nat} {t : TA} {Q : List Cell → Tmp → Prop} (h0 : ∃ ds, IsLs Γ i ds)
    (h : VAX K Γ Θ t fun Γ2 as => ∃ x zs, IsLs Γ2 i zs ∧ as = A x ∧ pre x zs ∧ ∀ zs' d, post x zs zs' d → Q (putC Γ2 i zs') (.dt d)) :
    VE K Γ Θ (tCall (spV K A pre post) [] X (tCons (tVar i) t)) Q := fun L S0 σ τ S Qv E k => by
  obtain ⟨ds, c1, hc1, hl1⟩ := h0
  obtain ⟨a, ea, _⟩ := E.own hc1 hl1
  refine ⟨_, ea, h L S0 σ τ S _ E fun Γ2 S2 vs as E2 p ⟨x, zs, ⟨c, hc, hl⟩, ex, hp, q⟩ => ?_⟩
  obtain ⟨a', ea', nb, us, hu, pu⟩ := E2.own hc hl
  rw [ea] at ea'; cases ea'
  show spV K A pre post ((.ref a :: vs) ++ []) S2.h Qv X
  rw [List.append_nil]
  subst ex
  refine ⟨S2.b, a, vs, x, zs, rfl, E2.sub, p, nb, ⟨us, hu, pu⟩, hp, fun v S' zs' d g s nb' hz hd hq => ?_⟩
  have q' := q zs' d hq
  rw [putC_eq hc] at q'
  exact k _ S' v _ ((E2.lent hc hl ea g s nb' hz).push hd) q'
/-- xs.remove(n), whole numbers -/
theorem ve_remove {i : Nat} {te : TE} {Q : List Cell → Tmp → Prop} (h0 : ∃ ds, IsLs Γ i ds) (h : VE K Γ Θ te fun Γ1 y => ∃ (ns : List Int) (n : Int), y = .dt (.int n) ∧ IsLs Γ1 i (ns.map .int) ∧ n ∈ ns ∧ Q (putC Γ1 i ((ns.erase n).map .int)) (.dt .none)) : VE K Γ Θ (tBM K "list" rRemI (tVar i) (tCons te tNil)) Q := fun L S0 σ τ S Qv E k => by
  obtain ⟨ds0, c0, hc0, hl0⟩ := h0
  obtain ⟨a, ea, _, us, hu, _⟩ := E.own hc0 hl0
  refine ⟨_, ea, .inl ⟨rfl, us, .of hu⟩, h L S0 σ τ S _ E fun Γ1 S1 v y E1 ⟨ns, n, ey, ⟨c, hc, hl⟩, hm, q⟩ => ?_⟩
  subst ey
  have ev : v = .int n := dp_int E1.dt
  obtain ⟨a', vs, ea', hv, p, mk⟩ := E1.pop.mutSlot hc hl
  rw [ea] at ea'; cases ea'
  have evs := dpa_ints p
  subst evs
  rw [putC_eq hc] at q
  have hi := List.idxOf_lt_length_iff.mpr hm
  have e1 : ns.eraseIdx (ns.idxOf n) = ns.erase n := (List.erase_eq_eraseIdx_of_idxOf rfl).symm
  refine ⟨a, ns, n, ns.idxOf n, rfl, by rw [ev], hv, by rw [List.getElem?_eq_getElem hi]; simp, fun m hmi e => ?_, ?_⟩
  · obtain ⟨h1, h2⟩ := List.getElem?_eq_some_iff.mp e
    have := List.not_of_lt_findIdx (xs := ns) (p := (· == n)) (i := m) hmi
    simp [h2] at this
  · rw [e1]
    exact k _ _ _ _ ((mk _ _ (dpa_of_ints _)).push .non) q
end
end Ld
namespace Sh
open PySem PySem.Spec PyProof.Rows L2 Lx Ld
theorem eqv_ss (a b : Str) : PyData.eqv (.str a) (.str b) = decide (a = b) := by
  simp [PyData.eqv, BEq.beq]
end Sh
namespace Ld
open PySem PySem.Spec PyProof.Rows L2 Lx
end Ld
namespace Sh
open PySem PySem.Spec PyProof.Rows L2 Lx Ld
theorem kb_ss : kitB "str" "str" = some true := by decide +kernel
def wd (l : Bool) : Str := if l then "light" else "heavy"
def sg (l : Bool) : Int := if l then 1 else -1
theorem wd_l (l : Bool) : decide (wd l = ("light" : Str)) = l := by cases l <;> decide +kernel
theorem wd_s (l : Bool) : SeqAt.shaped (.str (wd l)) = true := by cases l <;> decide +kernel
theorem light_s : SeqAt.shaped (.str "light") = true := by decide +kernel
section
variable {K : PySem.W.Frag} {Γ : List Cell} {Θ : List Tmp}
theorem r2_eqW {l : Bool} {Q : List Cell → Tmp → Prop} (q : Q Γ (.dt (.bool l))) : R2V K (rEqD K) Γ Θ (.dt (.str (wd l))) (.dt (.str "light")) Q := r2_eqD rd_dt rd_dt (wd_s l) light_s (by rw [eqv_ss, wd_l]; exact q)
end
def tm (l : Bool) (xs : List Int) : List Int := xs.map (sg l * ·)
end Sh
set_option Elab.async false
set_option linter.all false
set_option maxRecDepth 100000
set_option maxHeartbeats 2000000
namespace Ld
open PySem PySem.Spec PyProof.Rows L2 Lx
/-- a tuple at a, a list at b, as they stand at each turn; the items in new pairs -/
def ItzM (K : PySem.W.Frag) (a b : Addr) : It := ⟨fun i H => ∃ (xs ys : List V) (x y : V), SqT K H a xs ∧ SqL K H b ys ∧ xs[i]? = some x ∧ ys[i]? = some y, fun i H v H' => ∃ T x y, v = .ref T ∧ H T = none ∧ H' = upd H T (.tup [x, y]) ∧ (∀ xs, SqT K H a xs → xs[i]? = some x) ∧ ∀ ys, SqL K H b ys → ys[i]? = some y, fun i H => ∃ xs ys : List V, SqT K H a xs ∧ SqL K H b ys ∧ (xs.length ≤ i ∨ ys.length ≤ i)⟩
def iZipM (K : PySem.W.Frag) (ta : TA) : TI := fun σ H R => ta σ H fun vs H1 => ∃ a b xs ys, vs = [.ref a, .ref b] ∧ SqT K H1 a xs ∧ SqL K H1 b ys ∧ R (ItzM K a b) H1
section
variable {K : PySem.W.Frag} {Γ : List Cell} {Θ : List Tmp}
theorem vi_zipM {ta tb : TE} {Q : List Cell → Bool → List Dat → Prop} (h : VD K Γ Θ ta fun Γ1 d => VD K Γ1 (.dt d :: Θ) tb fun Γ2 e => ∃ ds es, d = .tuple ds ∧ e = .list es ∧ Q Γ2 true (zipD ds es)) : VI K Γ Θ (iZipM K (tCons ta (tCons tb tNil))) Q := fun L S0 σ τ S R E k =>
  h L S0 σ τ S _ E fun Γ1 S1 u d E1 h1 => h1 L S0 σ _ S1 _ E1 fun Γ2 S2 v e E2 ⟨ds, es, ed, ee, q⟩ => by
  subst ed ee
  obtain ⟨b, zs, eb, hb, pb⟩ := dp_list E2.dt
  obtain ⟨a, oa, xs, ea, _, hx, p⟩ := dp_tup E2.pop.dt
  subst ea eb
  refine ⟨a, b, xs, zs, rfl, sqt_f (E2.sub _ _ hx), .of (E2.sub _ _ hb), k Γ2 [.list es, .tuple ds] [.ref b, .ref a] S2 _ true (zipD ds es) E2 rfl ⟨fun S i sub hs hi => ?_, fun S sub hs => ?_, fun S i x H' sub hs hi y => ?_⟩ q⟩
  · obtain ⟨ws, hw', pw⟩ := src_l (K := K) sub (dqa_two hs).1
    obtain ⟨ys, hy', py⟩ := src_t (K := K) sub (dqa_two hs).2
    rw [zipD_len] at hi
    have i1 : i < ds.length := by omega
    have i2 : i < es.length := by omega
    obtain ⟨z, hz, _⟩ := py.get (List.getElem?_eq_getElem i1)
    obtain ⟨z', hz', _⟩ := pw.get (List.getElem?_eq_getElem i2)
    exact ⟨ys, ws, z, z', hy', hw', hz, hz'⟩
  · obtain ⟨ws, hw', pw⟩ := src_l (K := K) sub (dqa_two hs).1
    obtain ⟨ys, hy', py⟩ := src_t (K := K) sub (dqa_two hs).2
    refine ⟨ys, ws, hy', hw', ?_⟩
    rw [zipD_len, py.len, pw.len]
    omega
  · obtain ⟨ws, hw', pw⟩ := src_l (K := K) sub (dqa_two hs).1
    obtain ⟨ys, hy', py⟩ := src_t (K := K) sub (dqa_two hs).2
    obtain ⟨T, z, z', rfl, hT, rfl, y1, y2⟩ := y
    obtain ⟨d, hd, gd⟩ := py.getV (y1 ys hy')
    obtain ⟨e, he, ge⟩ := pw.getV (y2 ws hw')
    obtain ⟨S', e1, g1, s1, q1⟩ := gr_pair sub hT gd ge
    exact ⟨S', _, e1, g1, s1, zipD_at hd he, q1⟩
end
end Ld
set_option Elab.async false
set_option linter.all false
set_option maxRecDepth 100000
namespace Sh
/-! ### past a light shelf -/
def lp : List (Int × Nat) → List Int → List Int
  | [], S => asc S
  | (a, m) :: r, S => (asc (S ++ [a])).take (S.length + 1 - m) ++ lp r ((asc (S ++ [a])).drop (S.length + 1 - m))
theorem cntG_perm {A B : List Int} (h : A.Perm B) (x : Int) : cntG A x = cntG B x := (h.filter _).length_eq
theorem gc_out {A B : List Int} {x : Int} (h : x ∉ A) : gc (A ++ B) x = cntG A x + gc B x := by
  unfold gc
  rw [tw_out _ h, cntG_app]
end Sh
namespace Sh
end Sh
namespace Ld
open PySem PySem.Spec PyProof.Rows L2 Lx
end Ld
namespace Sh
open PySem PySem.Spec PyProof.Rows L2 Lx Ld
end Sh
namespace Sh
open PySem PySem.Spec PyProof.Rows L2 Lx Ld
end Sh
namespace Sh
/-- a stretch past a shelf, a row past a shelf -/
def pastL (l : Bool) (n : Nat) (s : List Int) : List Int := tm l (lp ((tm l s).map fun a => (a, n)) [])
end Sh
namespace Sh
open PySem PySem.Spec PyProof.Rows L2 Lx Ld
end Sh
namespace Sh
end Sh
namespace Sh
open PySem PySem.Spec PyProof.Rows L2 Lx Ld
end Sh
namespace Ld
open PySem PySem.Spec PyProof.Rows L2 Lx
/-- a, b = x, y where a name is a cell: the pair is made and taken apart -/
theorem ss_parT {K : PySem.W.Frag} {Γ : List Cell} {i j : Nat} {ta tb : TE} {R : DE} (h : ∀ ss, VE K Γ (srcT ss) ta fun Γ1 x => VE K Γ1 (x :: srcT ss) tb fun Γ2 y => (∀ k, x ≠ .br k) ∧ ∃ Γ3 Γ4, St1 Γ2 i x = some Γ3 ∧ St1 Γ3 j y = some Γ4 ∧ R.nx Γ4) :
    VSs K Γ (tAsg (tTupF (tCons ta (tCons tb tNil))) (gTup K 2 (gCons (gName i) (gCons (gName j) gNil)))) R := fun ss L S0 σ τ S D E kn kr kb kc =>
  h ss L S0 σ τ S _ E fun Γ1 S1 u x E1 h1 => h1 L S0 σ _ S1 _ E1 fun Γ2 S2 v y E2 ⟨nx, Γ3, Γ4, e3, e4, q⟩ => by
    refine ⟨Nat.le_of_lt (show 2 < sizeLine by decide +kernel), fun p o hd hp => ?_⟩
    have E3 := E2.grow (gr_new (o := .frz o (.tup [u, v])) hp E2.sub) (sub_new hp E2.sub)
    refine ⟨p, [u, v], rfl, sqt_f upd_same, rfl, u, [v], rfl, v, [], rfl, rfl, ?_⟩
    have ny : y ≠ .br i := fun z => by subst z; cases e4
    exact kn Γ4 _ ⟨S2.b, upd S2.h p (.frz o (.tup [u, v]))⟩ (((E3.swap).st1 (fun t ht => by
      rcases List.mem_cons.mp ht with rfl | ht
      · exact ny
      · exact nb_src t ht) e3).st1 nb_src e4) q
end Ld
namespace Ld
open PySem PySem.Spec PyProof.Rows L2 Lx
end Ld
namespace Sh
open PySem PySem.Spec PyProof.Rows L2 Lx Ld
end Sh
namespace Sh
open PySem PySem.Spec PyProof.Rows L2 Lx Ld
end Sh
set_option Elab.async false
set_option linter.all false
set_option maxRecDepth 100000
namespace Sh
open PySem PySem.Spec PyProof.Rows L2 Lx Ld
/-! ### stretches, marks, the opposite row -/
/-- the row of the opposite numbers (or the row) -/
def ot (l : Bool) (r : List (Option Int)) : List (Option Int) := r.map (Option.map (sg l * ·))
end Sh
namespace Sh
open PySem PySem.Spec PyProof.Rows L2 Lx Ld
theorem ve_ifS {K : PySem.W.Frag} {Γ : List Cell} {Θ : List Tmp} {te : TE} {Q : List Cell → Tmp → Prop} (h : VE K Γ Θ te fun Γ1 x => ∃ l, x = .dt (.str (wd l)) ∧ Q Γ1 (.dt (.int (sg l)))) :
    VE K Γ Θ (tIf (tTest (tOp (rEqD K) te (tC (V.str "light")))) (tC (V.int 1)) (tUn (rU fun i => V.int (-i)) (tC (V.int 1)))) Q :=
  ve_ifE (vt_test (ve_op (ve_mono h fun Γ1 x ⟨l, ex, q⟩ => by
    subst ex
    refine ve_str (r2_eqW (asb ⟨fun e => ?_, fun e => ?_⟩))
    · subst e
      exact ve_int q
    · subst e
      exact ve_un rfl (ve_int ⟨1, rfl, q⟩))))
end Sh
namespace Sh
open PySem PySem.Spec PyProof.Rows L2 Lx Ld
theorem idx_nd {N : List Int} (h : N.Nodup) {i : Nat} {x : Int} (hx : N[i]? = some x) : N.idxOf x = i := by
  obtain ⟨hi, e⟩ := List.getElem?_eq_some_iff.mp hx
  subst e
  exact h.idxOf_getElem i hi
end Sh
set_option Elab.async false
set_option linter.all false
set_option maxRecDepth 100000
set_option maxHeartbeats 2000000
namespace Ld
open PySem PySem.Spec PyProof.Rows L2 Lx
/-- a tuple at a, a list at b, as they stand at each turn; the items in new pairs -/
def ItzT2 (K : PySem.W.Frag) (a b : Addr) : It := ⟨fun i H => ∃ (xs ys : List V) (x y : V), SqT K H a xs ∧ SqT K H b ys ∧ xs[i]? = some x ∧ ys[i]? = some y, fun i H v H' => ∃ T x y, v = .ref T ∧ H T = none ∧ H' = upd H T (.tup [x, y]) ∧ (∀ xs, SqT K H a xs → xs[i]? = some x) ∧ ∀ ys, SqT K H b ys → ys[i]? = some y, fun i H => ∃ xs ys : List V, SqT K H a xs ∧ SqT K H b ys ∧ (xs.length ≤ i ∨ ys.length ≤ i)⟩
def iZipT2 (K : PySem.W.Frag) (ta : TA) : TI := fun σ H R => ta σ H fun vs H1 => ∃ a b xs ys, vs = [.ref a, .ref b] ∧ SqT K H1 a xs ∧ SqT K H1 b ys ∧ R (ItzT2 K a b) H1
section
variable {K : PySem.W.Frag} {Γ : List Cell} {Θ : List Tmp}
theorem vi_zipT2 {ta tb : TE} {Q : List Cell → Bool → List Dat → Prop} (h : VD K Γ Θ ta fun Γ1 d => VD K Γ1 (.dt d :: Θ) tb fun Γ2 e => ∃ ds es, d = .tuple ds ∧ e = .tuple es ∧ Q Γ2 true (zipD ds es)) : VI K Γ Θ (iZipT2 K (tCons ta (tCons tb tNil))) Q := fun L S0 σ τ S R E k =>
  h L S0 σ τ S _ E fun Γ1 S1 u d E1 h1 => h1 L S0 σ _ S1 _ E1 fun Γ2 S2 v e E2 ⟨ds, es, ed, ee, q⟩ => by
  subst ed ee
  obtain ⟨b, ob, zs, eb, _, hb, pb⟩ := dp_tup E2.dt
  obtain ⟨a, oa, xs, ea, _, hx, p⟩ := dp_tup E2.pop.dt
  subst ea eb
  refine ⟨a, b, xs, zs, rfl, sqt_f (E2.sub _ _ hx), sqt_f (E2.sub _ _ hb), k Γ2 [.tuple es, .tuple ds] [.ref b, .ref a] S2 _ true (zipD ds es) E2 rfl ⟨fun S i sub hs hi => ?_, fun S sub hs => ?_, fun S i x H' sub hs hi y => ?_⟩ q⟩
  · obtain ⟨ws, hw', pw⟩ := src_t (K := K) sub (dqa_two hs).1
    obtain ⟨ys, hy', py⟩ := src_t (K := K) sub (dqa_two hs).2
    rw [zipD_len] at hi
    have i1 : i < ds.length := by omega
    have i2 : i < es.length := by omega
    obtain ⟨z, hz, _⟩ := py.get (List.getElem?_eq_getElem i1)
    obtain ⟨z', hz', _⟩ := pw.get (List.getElem?_eq_getElem i2)
    exact ⟨ys, ws, z, z', hy', hw', hz, hz'⟩
  · obtain ⟨ws, hw', pw⟩ := src_t (K := K) sub (dqa_two hs).1
    obtain ⟨ys, hy', py⟩ := src_t (K := K) sub (dqa_two hs).2
    refine ⟨ys, ws, hy', hw', ?_⟩
    rw [zipD_len, py.len, pw.len]
    omega
  · obtain ⟨ws, hw', pw⟩ := src_t (K := K) sub (dqa_two hs).1
    obtain ⟨ys, hy', py⟩ := src_t (K := K) sub (dqa_two hs).2
    obtain ⟨T, z, z', rfl, hT, rfl, y1, y2⟩ := y
    obtain ⟨d, hd, gd⟩ := py.getV (y1 ys hy')
    obtain ⟨e, he, ge⟩ := pw.getV (y2 ws hw')
    obtain ⟨S', e1, g1, s1, q1⟩ := gr_pair sub hT gd ge
    exact ⟨S', _, e1, g1, s1, zipD_at hd he, q1⟩
end
end Ld
set_option Elab.async false
set_option linter.all false
set_option maxRecDepth 100000
set_option maxHeartbeats 4000000
/-! tuple * int; dicts of ints -/
namespace Lx
open PySem PySem.Spec PyProof.Rows L2
end Lx
namespace Lx
open PySem PySem.Spec PyProof.Rows L2
end Lx
namespace Ld
open PySem PySem.Spec PyProof.Rows L2 Lx
section
variable {K : PySem.W.Frag} {Γ : List Cell} {Θ : List Tmp}
/-! ### dicts of ints -/
abbrev dI (l : List (Int × Int)) : HO := .dK (l.map fun p => (Sum.inl p.1, V.int p.2))
def lk (l : List (Int × Int)) (n : Int) : Option Int := (l.find? fun p => decide (p.1 = n)).map (·.2)
theorem lk_val (l : List (Int × Int)) (n : Int) : valV (l.map fun p => ((Sum.inl p.1 : Key), V.int p.2)) (Sum.inl n) = (lk l n).map V.int := by
  induction l with
  | nil => rfl
  | cons p l ih =>
    by_cases h : p.1 = n
    · rw [List.map_cons, valV_pos (by rw [h])]
      simp [lk, List.find?_cons, h]
    · rw [List.map_cons, valV_neg (fun e => h (Sum.inl.inj e)), ih]
      simp [lk, List.find?_cons, h]
theorem ve_dnew {Q : List Cell → Tmp → Prop} (q : Q Γ (.ob (dI []))) : VE K Γ Θ tDNewK Q := fun L S0 σ τ S Qv E k p hp => k Γ _ _ _ (E.newOb hp) q
theorem ve_ob {i : Nat} {p : HO} {Q : List Cell → Tmp → Prop} (h : Γ[i]? = some (.ob p)) (q : Q Γ (.br i)) : VE K Γ Θ (tVar i) Q := fun L S0 σ τ S Qv E k => by
  obtain ⟨w, h1, h2⟩ := id E.ok
  obtain ⟨a, e, o, n⟩ := h1 i _ h
  exact ⟨_, e, k Γ S _ _ (E.pushBr e) q⟩
theorem ve_dget {i : Nat} {te : TE} {Q : List Cell → Tmp → Prop} (h0 : ∃ p, Γ[i]? = some (.ob p)) (h : VE K Γ (.br i :: Θ) te fun Γ1 y => ∃ (l : List (Int × Int)) (n m : Int), Γ1[i]? = some (.ob (dI l)) ∧ y = .dt (.int n) ∧ lk l n = some m ∧ Q Γ1 (.dt (.int m))) : VE K Γ Θ (tDGet (tVar i) te) Q := by
  obtain ⟨p, h0⟩ := h0
  refine fun L S0 σ τ S Qv E k => ve_ob (Q := fun Γ1 c => Γ1 = Γ ∧ c = .br i) h0 ⟨rfl, rfl⟩ L S0 σ τ S _ E fun Γ1 S1 v c E1 ⟨e1, e2⟩ => ?_
  subst e1 e2
  refine h L S0 σ _ S1 _ E1 fun Γ2 S2 vy y E2 ⟨l, n, m, hi, ey, hl, q⟩ => ?_
  subst ey
  obtain ⟨a, ea, ha⟩ := E2.pop.ob_at hi
  refine ⟨a, .int m, ea, ?_, k Γ2 S2 _ _ (E2.pop.pop.push (.int m)) q⟩
  have hg := DGet.k (k := Sum.inl n) ha
  rw [lk_val, hl] at hg
  rw [dp_int E2.dt]
  exact hg
theorem ss_dput {i : Nat} {ty tv : TE} {R : DE} (h : ∀ ss, VE K Γ (srcT ss) tv fun Γ1 v => ∃ m : Int, v = .dt (.int m) ∧ (∃ p, Γ1[i]? = some (.ob p)) ∧ VE K Γ1 (.br i :: .dt (.int m) :: srcT ss) ty fun Γ2 y => ∃ (l : List (Int × Int)) (n : Int), Γ2[i]? = some (.ob (dI l)) ∧ y = .dt (.int n) ∧ l.length < sizeLine ∧ lk l n = none ∧ R.nx (Γ2.set i (.ob (dI (l ++ [(n, m)]))))) :
    VSs K Γ (sDPut (tVar i) ty tv) R := fun ss L S0 σ τ S D E kn kr kb kc =>
  h ss L S0 σ τ S _ E fun Γ1 S1 v x E1 ⟨m, ex, ⟨p, h0⟩, h1⟩ => by
    subst ex
    refine ve_ob (Q := fun Γ2 c => Γ2 = Γ1 ∧ c = .br i) h0 ⟨rfl, rfl⟩ L S0 σ _ S1 _ E1 fun Γ2 S2 vd c E2 ⟨e1, e2⟩ => ?_
    subst e1 e2
    refine h1 L S0 σ _ S2 _ E2 fun Γ3 S3 vy y E3 ⟨l, n, hi, ey, hl, hk, q⟩ => ?_
    subst ey
    obtain ⟨a, ea, ha⟩ := E3.pop.ob_at hi
    obtain ⟨a', e', ha', put⟩ := E3.pop.pop.pop.mutOb hi
    have ev : v = .int m := dp_int E3.pop.pop.dt
    have ey : vy = .int n := dp_int E3.dt
    have eaa : a' = a := by
      obtain ⟨w, h1, z, h2⟩ := E3.pop.ok
      have z' : σ[i]? = some (some vd) := z
      rw [z', ea] at e'
      cases e'
      rfl
    subst eaa
    refine ⟨a', _, ea, ?_, kn _ _ ⟨S3.b, upd S3.h a' (dI (l ++ [(n, m)]))⟩ (put _) q⟩
    have hp := DPut.k (k := Sum.inl n) (v := .int m) ha (by rw [List.length_map]; exact hl)
    rw [putK_new _ (by rw [lk_val, hk]; rfl)] at hp
    rw [ev, ey]
    show DPut S3.h a' (kV (Sum.inl n)) (.int m) (upd S3.h a' (dI (l ++ [(n, m)])))
    unfold dI
    rw [List.map_append]
    exact hp
end
end Ld
namespace Ld
open PySem PySem.W
end Ld
set_option Elab.async false
set_option linter.all false
set_option maxRecDepth 100000
namespace Sh
/-! ### places that change: the count in its closed form -/
end Sh
namespace Sh
open PySem PySem.Spec PyProof.Rows L2 Lx Ld
theorem rng0_eq (n : Nat) : rngD 0 (n : Int) = (List.range n).map fun k : Nat => PyData.int (k : Int) := by
  unfold rngD
  rw [show ((n : Int) - 0).toNat = n by omega]
  refine List.map_congr_left fun k _ => ?_
  rw [Int.zero_add]
theorem nd_take {N : List Int} (h : N.Nodup) {i : Nat} {x : Int} (hx : N[i]? = some x) : x ∉ N.take i := fun z => by
  obtain ⟨j, hj⟩ := List.getElem?_of_mem z
  rw [List.getElem?_take] at hj
  by_cases hji : j < i
  · rw [if_pos hji] at hj
    have := (List.getElem?_inj (List.getElem?_eq_some_iff.mp hx).1 h).mp (hx.trans hj.symm)
    omega
  · rw [if_neg hji] at hj
    cases hj
end Sh
namespace Sh
open PySem PySem.Spec PyProof.Rows L2 Lx Ld
theorem cut_from (ds : List Dat) (n : Nat) : Ld.cutD ds (some (n : Int)) none = ds.drop n := by
  unfold Ld.cutD
  rw [HT.sIx_none, HT.sIx_nat]
  have e : ds.drop (min n ds.length) = ds.drop n := by
    by_cases h : n ≤ ds.length
    · rw [Nat.min_eq_left h]
    · rw [Nat.min_eq_right (by omega), List.drop_length, List.drop_of_length_le (by omega)]
  rw [e, List.take_of_length_le (by rw [List.length_drop]; omega)]
end Sh
set_option Elab.async false
set_option linter.all false
set_option maxRecDepth 100000
/-! the truth of lists, a name that a comprehension uses again, words -/
namespace Ld
open PySem PySem.Spec PyProof.Rows L2 Lx Sh
def tTru (K : PySem.W.Frag) (ta : TE) : TT := fun σ H Q => ta σ H fun x H' => ∃ k, TruV K x H' k ∧ Q k H'
section
variable {K : PySem.W.Frag} {Γ : List Cell} {Θ : List Tmp}
theorem isEmpty_len {α β : Type} {a : List α} {b : List β} (h : a.length = b.length) : a.isEmpty = b.isEmpty := by
  cases a <;> cases b <;> simp at h <;> rfl
theorem vt_truL {te : TE} {Q : List Cell → Bool → Prop} (h : VE K Γ Θ te fun Γ1 x => ∃ ds, rd Γ1 x (.list ds) ∧ Q Γ1 (!ds.isEmpty)) : VT K Γ Θ (tTru K te) Q := fun L S0 σ τ S Qv E k => h L S0 σ τ S _ E fun Γ1 S1 v x E1 ⟨ds, hx, q⟩ => by
  obtain ⟨a, us, ev, ha, pa⟩ := rdB_l E1 hx
  subst ev
  refine ⟨!us.isEmpty, .inl ⟨us, .of ha, rfl⟩, ?_⟩
  rw [isEmpty_len pa.len]
  exact k Γ1 S1 _ E1.pop q
theorem vt_truT {te : TE} {Q : List Cell → Bool → Prop} (h : VE K Γ Θ te fun Γ1 x => ∃ ds, x = .dt (.tuple ds) ∧ Q Γ1 (!ds.isEmpty)) : VT K Γ Θ (tTru K te) Q := fun L S0 σ τ S Qv E k => h L S0 σ τ S _ E fun Γ1 S1 v x E1 ⟨ds, hx, q⟩ => by
  subst hx
  obtain ⟨a, o, us, ev, _, ha, pa⟩ := dp_tup E1.dt
  subst ev
  refine ⟨!us.isEmpty, .inr (.inl ⟨us, sqt_f (E1.sub _ _ ha), rfl⟩), ?_⟩
  rw [isEmpty_len pa.len]
  exact k Γ1 S1 _ E1.pop q
theorem wd_eq (a b : Bool) : decide (wd a = wd b) = decide (a = b) := by cases a <;> cases b <;> decide +kernel
theorem r2_eqWW {a b : Bool} {Q : List Cell → Tmp → Prop} (q : Q Γ (.dt (.bool (decide (a = b))))) : R2V K (rEqD K) Γ Θ (.dt (.str (wd a))) (.dt (.str (wd b))) Q := r2_eqD rd_dt rd_dt (wd_s a) (wd_s b) (by rw [eqv_ss, wd_eq]; exact q)
end
end Ld
namespace Ld
open PySem PySem.Spec PyProof.Rows L2 Lx
end Ld
namespace Ld
open PySem PySem.Spec PyProof.Rows L2 Lx
theorem vg_three {K : PySem.W.Frag} {Γ : List Cell} {pr : Bool} {i j l : Nat} {x y z : Dat} {Q : List Cell → Prop} (q : Q (((Γ.set i (.dt x)).set j (.dt y)).set l (.dt z))) : VG K pr Γ (gTup K 3 (gCons (gName i) (gCons (gName j) (gCons (gName l) gNil)))) (.tuple [x, y, z]) Q := fun L S0 Θ σ τ S v R nb E hd k => by
  obtain ⟨a, xs, e, h, p⟩ : ∃ a xs, v = .ref a ∧ SqT K S.h a xs ∧ DqAll S.b xs [x, y, z] := by
    cases pr with
    | false =>
      obtain ⟨a, o, xs, e, _, h, p⟩ := dp_tup (show Dq S.b v (.tuple [x, y, z]) from hd)
      exact ⟨a, xs, e, sqt_f (E.sub _ _ h), p⟩
    | true =>
      obtain ⟨a, xs, ds, e, e2, h, p⟩ := hd
      cases e2
      exact ⟨a, xs, e, .of (E.sub _ _ h), p⟩
  cases p with
  | cons p1 p =>
    cases p with
    | cons p2 p =>
      cases p with
      | cons p3 p =>
        cases p
        exact ⟨a, _, e, h, rfl, _, _, rfl, _, _, rfl, _, _, rfl, rfl, k _ _ (((E.setDt (nb i) p1).setDt (nb j) p2).setDt (nb l) p3) q⟩
end Ld
namespace Ld
open PySem PySem.Spec PyProof.Rows L2 Lx
/-- a test at which the walk stops -/
def tStop (t : TT) : TT := t
theorem pt_stop {X : Cx} {a : Expr} {t : TT} (h : PT X a t) : PT X a (tStop t) := h
/-- .. whose outcome is known -/
theorem vt_cut {K : PySem.W.Frag} {Γ : List Cell} {Θ : List Tmp} {t : TT} {Q : List Cell → Bool → Prop} (b : Bool) (h : VT K Γ Θ t fun Γ1 c => c = b ∧ Γ1 = Γ) (q : Q Γ b) : VT K Γ Θ (tStop t) Q := vt_mono h fun Γ1 c ⟨e1, e2⟩ => by rw [e1, e2]; exact q
end Ld
set_option Elab.async false
set_option linter.all false
set_option maxRecDepth 100000
namespace Sh
open PySem PySem.Spec PyProof.Rows L2 Lx Ld
/-! ### several shelves -/
end Sh
namespace Sh
end Sh
set_option Elab.async false
set_option linter.all false
set_option maxRecDepth 100000
namespace Sh
open PySem PySem.Spec PyProof.Rows L2 Lx Ld
/-! ### how far each number is moved -/
/-- how many lesser ones that stand behind come out ahead -/
def gone (n : Nat) (N : List Int) (x : Int) : Nat := ((N.drop (N.idxOf x + 1)).filter fun z => decide (z < x) && decide ((pastL true n N).idxOf z < (pastL true n N).idxOf x)).length
end Sh
namespace Sh
open PySem PySem.Spec PyProof.Rows L2 Lx Ld
/-! with stretches and marks -/
/-- a number's place in a row -/
def ixO (r : List (Option Int)) (x : Int) : Nat := r.idxOf (some x)
end Sh
namespace Ld
open PySem PySem.Spec PyProof.Rows L2 Lx
def tTIdxO (ta te : TE) : TE := tTIdx ta te
end Ld
namespace Sh
open PySem PySem.Spec PyProof.Rows L2 Lx Ld
theorem oL_fl (r : List (Option Int)) : (oL r).all flD = true := by
  rw [List.all_eq_true]
  intro d hd
  obtain ⟨o, _, rfl⟩ := List.mem_map.mp hd
  cases o <;> simp [oD, flD]
theorem ixO_at {r : List (Option Int)} {x : Int} (h : some x ∈ r) : (oL r)[ixO r x]? = some (.int x) := by
  have hi := List.idxOf_lt_length_iff.mpr h
  unfold ixO
  rw [List.getElem?_map, List.getElem?_eq_getElem hi]
  simp [oD]
theorem eqF_o {o : Option Int} {x : Int} : eqF (oD o) (.int x) = decide (o = some x) := by
  cases o with
  | none => simp [oD, eqF]
  | some a =>
    show eqF (.int a) (.int x) = _
    rw [eqF_ii]
    by_cases h : a = x <;> simp [h]
theorem ixO_no {r : List (Option Int)} {x : Int} {m : Nat} {z : Dat} (hm : m < ixO r x) (hz : (oL r)[m]? = some z) : eqF z (.int x) = false := by
  rw [List.getElem?_map] at hz
  obtain ⟨k, hk, rfl⟩ := Option.map_eq_some_iff.mp hz
  rw [eqF_o]
  refine decide_eq_false fun e => ?_
  subst e
  obtain ⟨hl, e2⟩ := List.getElem?_eq_some_iff.mp hk
  have := List.not_of_lt_findIdx (xs := r) (p := (· == some x)) (i := m) hm
  simp [e2] at this
theorem ve_tidxO {K : PySem.W.Frag} {Γ : List Cell} {Θ : List Tmp} {ta te : TE} {Q : List Cell → Tmp → Prop}
    (h : VE K Γ Θ ta fun Γ1 x => ∃ r, x = .dt (.tuple (oL r)) ∧ VE K Γ1 (x :: Θ) te fun Γ2 y => ∃ n, y = .dt (.int n) ∧ some n ∈ r ∧ Q Γ2 (.dt (.int (ixO r n)))) :
    VE K Γ Θ (tTIdxO ta te) Q := ve_tidx (ve_mono h fun Γ1 x ⟨r, hx, h2⟩ => ⟨oL r, hx, ve_mono h2 fun Γ2 y ⟨n, g2, g3, g4⟩ => by
  subst g2
  exact ⟨.int n, ixO r n, .int n, rd_dt, rfl, oL_fl r, ixO_at g3, by rw [eqF_ii]; simp, fun m z hm hz => ixO_no hm hz, g4⟩⟩)
end Sh
namespace Sh
open PySem PySem.Spec PyProof.Rows L2 Lx Ld
end Sh
set_option Elab.async false
set_option linter.all false
set_option maxRecDepth 100000
/-! max(xs, default=d) -/
namespace Lx
open PySem PySem.Spec PyProof.Rows L2 PySem.W
def rMaxD (K : PySem.W.Frag) : List V → List V → Hp → VK → Prop := fun vs zs H Q => ∃ (a : Addr) (ns : List Int) (d : Int), vs = [V.ref a] ∧ zs = [V.int d] ∧ SqL K H a (ns.map V.int) ∧ (ns = [] → Q (.int d) H) ∧ ∀ m, m ∈ ns → (∀ y ∈ ns, y ≤ m) → Q (.int m) H
theorem maxOf_int : ∀ (xs : List Int) (x : Int), maxOf x xs ∈ x :: xs ∧ ∀ y ∈ x :: xs, y ≤ maxOf x xs
  | [], x => ⟨by simp [maxOf], fun y hy => by simp [maxOf] at hy ⊢; omega⟩
  | a :: xs, x => by
    have e : maxOf x (a :: xs) = maxOf (if DatumOrd.lt x a = true then a else x) xs := rfl
    obtain ⟨h1, h2⟩ := maxOf_int xs (if DatumOrd.lt x a = true then a else x)
    have hl : (DatumOrd.lt x a = true) ↔ x < a := by
      show (decide (x < a) = true) ↔ _
      simp
    rw [e]
    by_cases h : DatumOrd.lt x a = true
    · rw [if_pos h] at h1 h2 ⊢
      have hlt := hl.mp h
      refine ⟨List.mem_cons_of_mem _ h1, fun y hy => ?_⟩
      rcases List.mem_cons.mp hy with rfl | hy
      · have := h2 a (by simp); omega
      · exact h2 y hy
    · rw [if_neg h] at h1 h2 ⊢
      have hlt : ¬ x < a := fun z => h (hl.mpr z)
      refine ⟨?_, fun y hy => ?_⟩
      · rcases List.mem_cons.mp h1 with h1 | h1
        · rw [h1]; simp
        · exact List.mem_cons_of_mem _ (List.mem_cons_of_mem _ h1)
      · rcases List.mem_cons.mp hy with rfl | hy
        · exact h2 _ (by simp)
        · rcases List.mem_cons.mp hy with rfl | hy
          · have := h2 x (by simp); omega
          · exact h2 y (List.mem_cons_of_mem _ hy)
end Lx
namespace Ld
open PySem PySem.Spec PyProof.Rows L2 Lx
theorem ve_maxD {K : PySem.W.Frag} {Γ : List Cell} {Θ : List Tmp} {d : Int} {ta : TE} {Q : List Cell → Tmp → Prop} (h : VE K Γ Θ ta fun Γ1 x => ∃ ns : List Int, rd Γ1 x (.list (ns.map .int)) ∧ (ns = [] → Q Γ1 (.dt (.int d))) ∧ ∀ m, m ∈ ns → (∀ y ∈ ns, y ≤ m) → Q Γ1 (.dt (.int m))) :
    VE K Γ Θ (tCKw (rMaxD K) (tCons ta tNil) (tCons (tC (.int d)) tNil)) Q := fun L S0 σ τ S Qv E k => h L S0 σ τ S _ E fun Γ1 S1 v x E1 ⟨ns, hx, q0, q⟩ => by
  obtain ⟨a, e, h⟩ := intsL E1 hx
  exact ⟨a, ns, d, by rw [e], rfl, h, fun e => k Γ1 S1 _ _ (E1.pop.push (.int d)) (q0 e), fun m h1 h2 => k Γ1 S1 _ _ (E1.pop.push (.int m)) (q m h1 h2)⟩
end Ld
/-! zip of a list and a tuple -/
set_option maxHeartbeats 2000000
namespace Ld
open PySem PySem.Spec PyProof.Rows L2 Lx
/-- a tuple at a, a list at b, as they stand at each turn; the items in new pairs -/
def ItzLT (K : PySem.W.Frag) (a b : Addr) : It := ⟨fun i H => ∃ (xs ys : List V) (x y : V), SqL K H a xs ∧ SqT K H b ys ∧ xs[i]? = some x ∧ ys[i]? = some y, fun i H v H' => ∃ T x y, v = .ref T ∧ H T = none ∧ H' = upd H T (.tup [x, y]) ∧ (∀ xs, SqL K H a xs → xs[i]? = some x) ∧ ∀ ys, SqT K H b ys → ys[i]? = some y, fun i H => ∃ xs ys : List V, SqL K H a xs ∧ SqT K H b ys ∧ (xs.length ≤ i ∨ ys.length ≤ i)⟩
def iZipLT (K : PySem.W.Frag) (ta : TA) : TI := fun σ H R => ta σ H fun vs H1 => ∃ a b xs ys, vs = [.ref a, .ref b] ∧ SqL K H1 a xs ∧ SqT K H1 b ys ∧ R (ItzLT K a b) H1
section
variable {K : PySem.W.Frag} {Γ : List Cell} {Θ : List Tmp}
theorem vi_zipLT {ta tb : TE} {Q : List Cell → Bool → List Dat → Prop} (h : VD K Γ Θ ta fun Γ1 d => VD K Γ1 (.dt d :: Θ) tb fun Γ2 e => ∃ ds es, d = .list ds ∧ e = .tuple es ∧ Q Γ2 true (zipD ds es)) : VI K Γ Θ (iZipLT K (tCons ta (tCons tb tNil))) Q := fun L S0 σ τ S R E k =>
  h L S0 σ τ S _ E fun Γ1 S1 u d E1 h1 => h1 L S0 σ _ S1 _ E1 fun Γ2 S2 v e E2 ⟨ds, es, ed, ee, q⟩ => by
  subst ed ee
  obtain ⟨b, ob, zs, eb, _, hb, pb⟩ := dp_tup E2.dt
  obtain ⟨a, xs, ea, hx, p⟩ := dp_list E2.pop.dt
  subst ea eb
  refine ⟨a, b, xs, zs, rfl, .of (E2.sub _ _ hx), sqt_f (E2.sub _ _ hb), k Γ2 [.tuple es, .list ds] [.ref b, .ref a] S2 _ true (zipD ds es) E2 rfl ⟨fun S i sub hs hi => ?_, fun S sub hs => ?_, fun S i x H' sub hs hi y => ?_⟩ q⟩
  · obtain ⟨ws, hw', pw⟩ := src_t (K := K) sub (dqa_two hs).1
    obtain ⟨ys, hy', py⟩ := src_l (K := K) sub (dqa_two hs).2
    rw [zipD_len] at hi
    have i1 : i < ds.length := by omega
    have i2 : i < es.length := by omega
    obtain ⟨z, hz, _⟩ := py.get (List.getElem?_eq_getElem i1)
    obtain ⟨z', hz', _⟩ := pw.get (List.getElem?_eq_getElem i2)
    exact ⟨ys, ws, z, z', hy', hw', hz, hz'⟩
  · obtain ⟨ws, hw', pw⟩ := src_t (K := K) sub (dqa_two hs).1
    obtain ⟨ys, hy', py⟩ := src_l (K := K) sub (dqa_two hs).2
    refine ⟨ys, ws, hy', hw', ?_⟩
    rw [zipD_len, py.len, pw.len]
    omega
  · obtain ⟨ws, hw', pw⟩ := src_t (K := K) sub (dqa_two hs).1
    obtain ⟨ys, hy', py⟩ := src_l (K := K) sub (dqa_two hs).2
    obtain ⟨T, z, z', rfl, hT, rfl, y1, y2⟩ := y
    obtain ⟨d, hd, gd⟩ := py.getV (y1 ys hy')
    obtain ⟨e, he, ge⟩ := pw.getV (y2 ws hw')
    obtain ⟨S', e1, g1, s1, q1⟩ := gr_pair sub hT gd ge
    exact ⟨S', _, e1, g1, s1, zipD_at hd he, q1⟩
end
end Ld
namespace Lx
open PySem PySem.Spec PyProof.Rows L2 PySem.W
def rMinT (K : PySem.W.Frag) : List V → Hp → VK → Prop := fun vs H Q => ∃ (a : Addr) (ns : List Int), vs = [V.ref a] ∧ SqT K H a (ns.map V.int) ∧ 0 < ns.length ∧ ∀ m, m ∈ ns → (∀ y ∈ ns, m ≤ y) → Q (.int m) H
theorem minOf_int : ∀ (xs : List Int) (x : Int), minOf x xs ∈ x :: xs ∧ ∀ y ∈ x :: xs, minOf x xs ≤ y
  | [], x => ⟨by simp [minOf], fun y hy => by simp [minOf] at hy ⊢; omega⟩
  | a :: xs, x => by
    have e : minOf x (a :: xs) = minOf (if DatumOrd.lt a x = true then a else x) xs := rfl
    obtain ⟨h1, h2⟩ := minOf_int xs (if DatumOrd.lt a x = true then a else x)
    have hl : (DatumOrd.lt a x = true) ↔ a < x := by
      show (decide (a < x) = true) ↔ _
      simp
    rw [e]
    by_cases h : DatumOrd.lt a x = true
    · rw [if_pos h] at h1 h2 ⊢
      have hlt := hl.mp h
      refine ⟨List.mem_cons_of_mem _ h1, fun y hy => ?_⟩
      rcases List.mem_cons.mp hy with rfl | hy
      · have := h2 a (by simp); omega
      · exact h2 y hy
    · rw [if_neg h] at h1 h2 ⊢
      have hlt : ¬ a < x := fun z => h (hl.mpr z)
      refine ⟨?_, fun y hy => ?_⟩
      · rcases List.mem_cons.mp h1 with h1 | h1
        · rw [h1]; simp
        · exact List.mem_cons_of_mem _ (List.mem_cons_of_mem _ h1)
      · rcases List.mem_cons.mp hy with rfl | hy
        · exact h2 _ (by simp)
        · rcases List.mem_cons.mp hy with rfl | hy
          · have := h2 x (by simp); omega
          · exact h2 y (List.mem_cons_of_mem _ hy)
theorem cr_minT {X : Cx} (hc : X.calm = true) (hu : X.A.units + 64 < cLine) : CallR X (.builtin "min") (rMinT X.K) := by
  intro pins s σ H vs us Q I r h
  obtain ⟨a, ns, rfl, hs, h0, q⟩ := h
  obtain rfl := Vals.ref1 r
  obtain ⟨its, rv, hl, _⟩ := I.tuple hs
  cases ns with
  | nil => simp at h0
  | cons y ys =>
    refine min_tuple_datum (α := Int) (I.ok.hd hc) hl (HoldAll.of_ints (by simpa using rv.ints)) (by have e : Datum.depth Int = 0 := rfl; rw [e]; omega) fun i v h' tk hi hv hk => ?_
    obtain ⟨bs, hr⟩ := hv
    cases hr with
    | int i t' =>
      obtain ⟨g1, g2⟩ := minOf_int ys y
      exact ⟨.int _, H, I.kept hk, ⟨_, rfl⟩, q _ g1 g2⟩
end Lx
namespace Ld
open PySem PySem.Spec PyProof.Rows L2 Lx
def tTruT (K : PySem.W.Frag) (ta : TE) : TT := tTru K ta
section
variable {K : PySem.W.Frag} {Γ : List Cell} {Θ : List Tmp}
theorem vt_truTp {te : TE} {Q : List Cell → Bool → Prop} (h : VE K Γ Θ te fun Γ1 x => ∃ ds, x = .dt (.tuple ds) ∧ Q Γ1 (!ds.isEmpty)) : VT K Γ Θ (tTruT K te) Q := vt_truT h
theorem c1_minT {ns : List Int} {Q : List Cell → Tmp → Prop} (h0 : 0 < ns.length) (q : ∀ m, m ∈ ns → (∀ y ∈ ns, m ≤ y) → Q Γ (.dt (.int m))) : C1V K (rMinT K) Γ Θ (.dt (.tuple (ns.map .int))) Q := fun L S0 σ τ S vx Qv E k => by
  obtain ⟨a, o, xs, e, _, h, p⟩ := dp_tup E.dt
  rw [dpa_ints p] at h
  exact ⟨a, ns, by rw [e], sqt_f (E.sub _ _ h), h0, fun m h1 h2 => k Γ S _ _ (E.pop.push (.int m)) (q m h1 h2)⟩
theorem eqv_bb (a b : Bool) : PyData.eqv (.bool a) (.bool b) = decide (a = b) := by
  cases a <;> cases b <;> simp [PyData.eqv]
theorem r2_eqB {a b : Bool} {Q : List Cell → Tmp → Prop} (q : Q Γ (.dt (.bool (decide (a = b))))) : R2V K (rEqD K) Γ Θ (.dt (.bool a)) (.dt (.bool b)) Q := r2_eqD rd_dt rd_dt rfl rfl (by rw [eqv_bb]; exact q)
theorem r2_neB {a b : Bool} {Q : List Cell → Tmp → Prop} (q : Q Γ (.dt (.bool (!decide (a = b))))) : R2V K (rNeD K) Γ Θ (.dt (.bool a)) (.dt (.bool b)) Q := r2_neD rd_dt rd_dt rfl rfl (by rw [eqv_bb]; exact q)
end
end Ld
set_option Elab.async false
set_option linter.all false
set_option maxRecDepth 100000
namespace Sh
open PySem PySem.Spec PyProof.Rows L2 Lx Ld
/-! ### places needed -/
def nd (N : List Int) (k : Nat) : Nat := ((N.take (k + 1)).filter fun y => (N.drop (k + 1)).any fun z => decide (z < y)).length
theorem gc_take {N : List Int} {i : Nat} {x : Int} (hN : N.Nodup) (h : N[i]? = some x) : gc N x = cntG (N.take i) x := by
  unfold gc
  rw [← take_idx, idx_nd hN h]
end Sh
namespace Sh
end Sh
namespace Sh
open PySem PySem.Spec PyProof.Rows L2 Lx Ld
theorem zip_NN (a b : List Nat) : zipD (iL (a.map Int.ofNat)) (iL (b.map Int.ofNat)) = (a.zip b).map fun p => PyData.tuple [.int (p.1 : Int), .int (p.2 : Int)] := by
  rw [iL, iL, List.map_map, List.map_map, zipD, List.zip_map, List.map_map]
  rfl
end Sh
set_option Elab.async false
set_option linter.all false
set_option maxRecDepth 100000
/-! defs with a default; x *= e -/
namespace Ld
open PySem PySem.Spec PyProof.Rows L2 Lx
section
variable {P : Program} {w : World} {K : PySem.W.Frag} {mg : Str → Option Value} {base : Heap}
theorem ok_Gd {α : Type} {x qual : Str} {st : Stmt} {dvs : List V} {f : Addr} {fd : FuncData} {N ps : List Str} {k : Nat} {Ar : α → List Arg} {pre : α → Prop} {post : α → Dat → Prop} (F : FunD K x qual (defArgs st) (defBody st) (defScope st) dvs [] f fd) (Sc : FnScope N ps (defScope st)) (hl : ∀ x, (Ar x).length = ps.length) (hN : ps.length ≤ N.length)
    (hb : ∀ (cdv : Value) (A : Around) (outer : List PySem.Env) (s : Shared) (H : Hp) (E : XK), Room k (A.deeper (envOfC qual (defScope st) s.heap.objs.size f cdv)) →
      ∃ t, PSs (Bx P w K mg base N qual st f cdv A outer s H E) (defBody st) t ∧ ∀ x, pre x → VSs K (cells0 N ((Ar x).map Arg.cell)) t ⟨fun _ => post x .none, fun _ d => post x d, fun _ => False, fun _ => False⟩) : FnOk P w K mg base CX0 (k + 1) f fd ps (spG K Ar pre post) := by
  refine F.ok Sc (fun vs H Q E h => ?_) (fun cdv A outer s H vs Q E hr h => ?_)
  · obtain ⟨B, x, _, p, hp, _⟩ := h
    rw [p.len, hl x]
  · obtain ⟨t, ht, hv⟩ := hb cdv A outer s H E hr
    obtain ⟨B, x, sub, p, hp, q⟩ := h
    have hlv : vs.length ≤ N.length := by rw [p.len, hl x]; exact hN
    refine ⟨t, ht.nox, ?_⟩
    refine hv x hp [] L0 ⟨B, H⟩ (L2.start N vs) [] ⟨B, H⟩ _ (env_start sub p hlv) (fun Γ' σ' S' E' z => ?_) (fun Γ' σ' S' v d E' hd z => ?_) (fun Γ' σ' S' E' z => z.elim) (fun Γ' σ' S' E' z => z.elim)
    · exact q .non S' .none E'.gr E'.sub .non z
    · exact q v S' d E'.gr E'.sub hd z
/-- a def whose last parameter has the default d -/
structure DfD (K : PySem.W.Frag) (mg : Str → Option Value) (x : Str) (st : Stmt) (ps : List Str) (d : Int) (f : Addr) (fd : FuncData) : Prop where
  F : FunD K x x (defArgs st) (defBody st) (defScope st) [.int d] [] f fd
  g : mg x = some (.ref f)
  b0 : ∃ ds, Vals [] ds ∧ Binds K fd ps ds
  b1 : ∃ ds, Vals [V.int d] ds ∧ Binds K fd ps ds
structure CalD (P : Program) (w : World) (K : PySem.W.Frag) (mg : Str → Option Value) (base : Heap) (k : Nat) (x : Str) (ps : List Str) (sp : Sp) (d : Int) (f : Addr) (fd : FuncData) : Prop where
  G : FnOk P w K mg base CX0 k f fd ps sp
  g : mg x = some (.ref f)
  kp : PySem.W.keepIn K (.ref f) = true
  b0 : ∃ ds, Vals [] ds ∧ Binds K fd ps ds
  b1 : ∃ ds, Vals [V.int d] ds ∧ Binds K fd ps ds
theorem DfD.cal {k : Nat} {x : Str} {st : Stmt} {ps : List Str} {sp : Sp} {d : Int} {f : Addr} {fd : FuncData} (D : DfD K mg x st ps d f fd) (G : FnOk P w K mg base CX0 k f fd ps sp) : CalD P w K mg base k x ps sp d f fd := ⟨G, D.g, D.F.kp, D.b0, D.b1⟩
theorem DfD.of {x : Str} {st : Stmt} {ps : List Str} {d : Int} {f : Addr} {fd : FuncData} (n : Nat) (F : FunD K x x (defArgs st) (defBody st) (defScope st) [.int d] [] f fd) (g : mg x = some (.ref f)) (hn : n + 1 = ps.length)
    (h0 : ∀ (T : Addr) (kV doc pm : Value) (an : Option Addr) (cdv ct : Value) (us its : List Value), us.length = n + 1 → its.length = 1 →
      ∃ k, bindArgs (PySem.W.fnOf x x (defArgs st) (defBody st) (defScope st) (.ref T) kV doc pm an cdv ct) ⟨us, []⟩ = seqItems? (.ref T) >>= k ∧ k (some its.toArray) = pure (ps.zip (us ++ its.drop 1)))
    (h1 : ∀ (T : Addr) (kV doc pm : Value) (an : Option Addr) (cdv ct : Value) (us its : List Value), us.length = n → its.length = 1 →
      ∃ k, bindArgs (PySem.W.fnOf x x (defArgs st) (defBody st) (defScope st) (.ref T) kV doc pm an cdv ct) ⟨us, []⟩ = seqItems? (.ref T) >>= k ∧ k (some its.toArray) = pure (ps.zip (us ++ its.drop 0))) : DfD K mg x st ps d f fd :=
  ⟨F, g, F.binds1 (n + 1) 1 (by simp) (by simp; omega) h0, F.binds1 n 0 (by simp) (by simp; omega) h1⟩
end
section
variable {K : PySem.W.Frag} {Γ : List Cell} {Θ : List Tmp}
theorem argsOk_app {B : Hp} : ∀ {vs us : List V} {as bs : List Arg}, ArgsOk K B vs as → ArgsOk K B us bs → ArgsOk K B (vs ++ us) (as ++ bs)
  | _, _, _, _, .nil, h => h
  | _, _, _, _, .cons h t, h2 => .cons h (argsOk_app t h2)
theorem ve_callFd {α : Type} {d : Int} {A : α → List Arg} {pre : α → Prop} {g : α → Dat} {X : XK} {t : TA} {Q : List Cell → Tmp → Prop} (h : VAX K Γ Θ t fun Γ1 as => ∃ x, as ++ [.dt (.int d)] = A x ∧ pre x ∧ Q Γ1 (.dt (g x))) : VE K Γ Θ (tCall (spF K A pre g) [V.int d] X t) Q := fun L S0 σ τ S Qv E k => h L S0 σ τ S _ E fun Γ1 S1 vs as E1 p ⟨x, ex, hp, q⟩ => by
  refine ⟨S1.b, x, E1.sub, ?_, hp, fun v S' d g s hd hq => k Γ1 S' v _ ((E1.grow g s).push hd) (by rw [hq]; exact q)⟩
  rw [← ex]
  exact argsOk_app p (.cons (.int d) .nil)
theorem ss_augI {i : Nat} {te : TE} {C : Int → Int → Prop} {f : Int → Int → Int} {R : DE} (h0 : ∃ m : Int, Γ[i]? = some (.dt (.int m))) (h : ∀ ss, VE K Γ (srcT ss) te fun Γ1 y => ∃ m n : Int, Γ1[i]? = some (.dt (.int m)) ∧ y = .dt (.int n) ∧ C m n ∧ R.nx (Γ1.set i (.dt (.int (f m n))))) :
    VSs K Γ (tAug i te (rI C fun i j => .int (f i j))) R := fun ss L S0 σ τ S D E kn kr kb kc => by
  obtain ⟨m0, h0⟩ := h0
  obtain ⟨w, g1, g2⟩ := id E.ok
  obtain ⟨v, ev, qv⟩ := g1 i _ h0
  refine ⟨v, ev, h ss L S0 σ τ S _ E fun Γ1 S1 vy y E1 ⟨m, n, hi, ey, hc, q⟩ => ?_⟩
  subst ey
  obtain ⟨w', g1', g2'⟩ := id E1.ok
  obtain ⟨v', ev', qv'⟩ := g1' i _ hi
  rw [ev] at ev'
  cases ev'
  have e1 : v = .int m := dp_int qv'
  have e2 : vy = .int n := dp_int E1.dt
  refine ⟨m, n, e1, e2, hc, ?_⟩
  exact kn _ _ S1 (E1.pop.setDt nb_src (.int _)) q
end
end Ld
namespace Ld
open PySem PySem.Spec PyProof.Rows L2 Lx
/-- a statement at which the walk stops -/
def tStopS (t : TS) : TS := t
theorem ps_stop {X : Cx} {a : Stmt} {t : TS} (h : PS X a t) : PS X a (tStopS t) := h
section
variable {K : PySem.W.Frag} {Γ : List Cell} {t : TS} {R : DE}
theorem ss_mono {R' : DE} (h : VSs K Γ t R') (f1 : ∀ Γ', R'.nx Γ' → R.nx Γ') (f2 : ∀ Γ' d, R'.rt Γ' d → R.rt Γ' d) (f3 : ∀ Γ', R'.bk Γ' → R.bk Γ') (f4 : ∀ Γ', R'.ct Γ' → R.ct Γ') : VSs K Γ t R := fun ss L S0 σ τ S D E kn kr kb kc =>
  h ss L S0 σ τ S D E (fun Γ' σ' S' E' q => kn Γ' σ' S' E' (f1 _ q)) (fun Γ' σ' S' v d E' hd q => kr Γ' σ' S' v d E' hd (f2 _ _ q)) (fun Γ' σ' S' E' q => kb Γ' σ' S' E' (f3 _ q)) (fun Γ' σ' S' E' q => kc Γ' σ' S' E' (f4 _ q))
/-- .. behind which all is as it was -/
theorem ss_same (h : VSs K Γ t ⟨fun Γ' => Γ' = Γ, fun _ _ => False, fun _ => False, fun _ => False⟩) (q : R.nx Γ) : VSs K Γ (tStopS t) R := ss_mono h (fun Γ' e => by rw [e]; exact q) (fun _ _ z => z.elim) (fun _ z => z.elim) (fun _ z => z.elim)
end
end Ld
set_option Elab.async false
set_option linter.all false
set_option maxRecDepth 100000
namespace Sh
open PySem PySem.Spec PyProof.Rows L2 Lx Ld
/-! ### how few places sort a row; how many rows are sorted -/
def sby : Nat → Nat → Nat
  | 0, _ => 1
  | n + 1, b => sby n b * (min n b + 1)
end Sh
namespace Sh
end Sh
set_option Elab.async false
set_option linter.all false
set_option maxRecDepth 100000
set_option maxHeartbeats 4000000
/-! dict(zip(t, l)): t a tuple, l a list -/
namespace Lx
open PySem PySem.Spec PyProof.Rows
open PySem.Sem (wp)
end Lx
namespace Lx
open PySem PySem.Spec PyProof.Rows L2
open PySem.Sem (wp)
def tDZip (K : PySem.W.Frag) (ta : TA) : TE := fun σ H Q => ta σ H fun vs H1 => ∃ (a b : Addr) (ns ms : List Int), vs = [.ref a, .ref b] ∧ SqT K H1 a (ns.map V.int) ∧ SqL K H1 b (ms.map V.int) ∧ ms.length = ns.length ∧ ns.Nodup ∧ ns.length ≤ 4000 ∧ ∀ p, H1 p = none → Q (.ref p) (upd H1 p (Ld.dI (ns.zip ms)))
end Lx
namespace Lx
open PySem PySem.Spec PyProof.Rows L2
open PySem.Sem (wp)
end Lx
namespace Ld
open PySem PySem.Spec PyProof.Rows L2 Lx
theorem ve_dictZip {K : PySem.W.Frag} {Γ : List Cell} {Θ : List Tmp} {ta tb : TE} {Q : List Cell → Tmp → Prop} (h : VE K Γ Θ ta fun Γ1 x => VE K Γ1 (x :: Θ) tb fun Γ2 y => ∃ ns ms : List Int, x = .dt (.tuple (ns.map .int)) ∧ rd Γ2 y (.list (ms.map .int)) ∧ ms.length = ns.length ∧ ns.Nodup ∧ ns.length ≤ 4000 ∧ Q Γ2 (.ob (dI (ns.zip ms)))) :
    VE K Γ Θ (tDZip K (tCons ta (tCons tb tNil))) Q := fun L S0 σ τ S Qv E k => h L S0 σ τ S _ E fun Γ1 S1 vx x E1 h1 => h1 L S0 σ _ S1 _ E1 fun Γ2 S2 vy y E2 ⟨ns, ms, ex, hy, hl, hn, hz, q⟩ => by
  subst ex
  obtain ⟨b, eb, hb⟩ := intsL E2 hy
  obtain ⟨a, o, xs, ea, _, hx, p⟩ := dp_tup E2.pop.dt
  rw [dpa_ints p] at hx
  exact ⟨a, b, ns, ms, by rw [ea, eb], sqt_f (E2.sub _ _ hx), hb, hl, hn, hz, fun p hp => k Γ2 _ _ _ (E2.pop.pop.newOb hp) q⟩
end Ld
set_option Elab.async false
set_option linter.all false
set_option maxRecDepth 100000
namespace Sh
open PySem PySem.Spec PyProof.Rows L2 Lx Ld
/-! ### lettings: none is "on", some n is n let off -/
structure LSt where
  i : Nat
  S : List Int
  O : List Int
def stepF (N : List Int) (b : Nat) (st : LSt) : Option Int → Option LSt
  | none => if st.S.length ≤ b then (N[st.i]?).map fun x => ⟨st.i + 1, st.S ++ [x], st.O⟩ else none
  | some n => if n ∈ st.S then some ⟨st.i, st.S.erase n, st.O ++ [n]⟩ else none
def runF (N : List Int) (b : Nat) (W : List (Option Int)) : Option LSt := W.foldl (fun acc s => acc.bind fun st => stepF N b st s) (some ⟨0, [], []⟩)
theorem runF_snoc (N : List Int) (b : Nat) (W : List (Option Int)) (s : Option Int) : runF N b (W ++ [s]) = (runF N b W).bind fun st => stepF N b st s := by unfold runF; rw [List.foldl_append]; rfl
theorem runF_pre {N : List Int} {b : Nat} {W : List (Option Int)} {s : Option Int} {st : LSt} (h : runF N b (W ++ [s]) = some st) : ∃ st0, runF N b W = some st0 ∧ stepF N b st0 s = some st := by
  rw [runF_snoc] at h
  cases e : runF N b W with
  | none => rw [e] at h; cases h
  | some st0 => rw [e] at h; exact ⟨st0, rfl, h⟩
structure LOk (N : List Int) (b : Nat) (W : List (Option Int)) (st : LSt) : Prop where
  le : st.i ≤ N.length
  perm : (st.S ++ st.O).Perm (N.take st.i)
  out : st.O = W.filterMap id
  len : W.length = st.i + st.O.length
  few : st.S.length ≤ b + 1
  gain : ∀ j x, j < st.i → N[j]? = some x → ∃ O1 O2, st.O = O1 ++ O2 ∧ x ∉ O1 ∧ cntG (N.take j) x ≤ b + cntG O1 x
theorem lok {N : List Int} {b : Nat} (hN : N.Nodup) : ∀ (W : List (Option Int)) {st : LSt}, runF N b W = some st → LOk N b W st := fun W => by
  have h : ∀ (n : Nat) (W : List (Option Int)) {st : LSt}, W.length = n → runF N b W = some st → LOk N b W st := by
    intro n
    induction n with
    | zero =>
      intro W st hl h
      rw [List.length_eq_zero_iff.mp hl] at h ⊢
      cases h
      exact ⟨Nat.zero_le _, .refl _, rfl, rfl, Nat.zero_le _, fun j x h => by cases h⟩
    | succ n ih =>
      intro W st hl h
      obtain ⟨W', s, rfl⟩ : ∃ W' s, W = W' ++ [s] := ⟨W.dropLast, W.getLast (List.ne_nil_of_length_pos (by omega)), (List.dropLast_concat_getLast _).symm⟩
      simp only [List.length_append, List.length_singleton] at hl
      obtain ⟨st0, e0, hs⟩ := runF_pre h
      have ok := ih W' (by omega) e0
      cases s with
      | none =>
        unfold stepF at hs
        by_cases hb : st0.S.length ≤ b
        · simp only [if_pos hb] at hs
          obtain ⟨x, hx, rfl⟩ := Option.map_eq_some_iff.mp hs
          have hi := (List.getElem?_eq_some_iff.mp hx).1
          refine ⟨by show st0.i + 1 ≤ _; omega, ?_, ?_, ?_, ?_, fun j y hj hy => ?_⟩
          · show (st0.S ++ [x] ++ st0.O).Perm (N.take (st0.i + 1))
            rw [take_snoc hx]
            have := (ok.perm.append_right [x])
            refine List.Perm.trans ?_ this
            rw [List.append_assoc, List.append_assoc]
            exact List.Perm.append_left _ List.perm_append_comm
          · show st0.O = _
            rw [List.filterMap_append, ok.out]
            simp
          · show (W' ++ [none]).length = st0.i + 1 + st0.O.length
            rw [List.length_append, ok.len]
            simp only [List.length_singleton]
            omega
          · show (st0.S ++ [x]).length ≤ b + 1
            simp
            omega
          · by_cases hj2 : j < st0.i
            · exact ok.gain j y hj2 hy
            · have : j = st0.i := by have : j < st0.i + 1 := hj; omega
              subst this
              rw [hx] at hy
              cases hy
              refine ⟨st0.O, [], by rw [List.append_nil], fun z => ?_, ?_⟩
              · exact nd_take hN hx (ok.perm.mem_iff.mp (List.mem_append_right _ z))
              · rw [← cntG_perm ok.perm, cntG_app]
                have : cntG st0.S x ≤ st0.S.length := List.length_filter_le _ _
                omega
        · simp only [if_neg hb] at hs
          cases hs
      | some m =>
        unfold stepF at hs
        by_cases hm : m ∈ st0.S
        · simp only [if_pos hm] at hs
          cases hs
          refine ⟨ok.le, ?_, ?_, ?_, ?_, fun j y hj hy => ?_⟩
          · show (st0.S.erase m ++ (st0.O ++ [m])).Perm (N.take st0.i)
            refine List.Perm.trans ?_ ok.perm
            rw [← List.append_assoc]
            refine (List.perm_append_comm (l₁ := st0.S.erase m ++ st0.O) (l₂ := [m])).trans ?_
            show (m :: (st0.S.erase m ++ st0.O)).Perm _
            exact ((List.perm_cons_erase hm).symm.append_right st0.O)
          · show st0.O ++ [m] = _
            rw [List.filterMap_append, ok.out]
            simp
          · show (W' ++ [some m]).length = st0.i + (st0.O ++ [m]).length
            rw [List.length_append, List.length_append, ok.len]
            simp only [List.length_singleton]
            omega
          · show (st0.S.erase m).length ≤ b + 1
            rw [List.length_erase_of_mem hm]
            have := ok.few
            omega
          · obtain ⟨O1, O2, e, hn, hc⟩ := ok.gain j y hj hy
            exact ⟨O1, O2 ++ [m], by show st0.O ++ [m] = _; rw [e, List.append_assoc], hn, hc⟩
        · simp only [if_neg hm] at hs
          cases hs
  exact fun {st} h' => h _ W rfl h'
/-- a whole letting -/
structure Whole (N : List Int) (b : Nat) (W : List (Option Int)) (O : List Int) : Prop where
  run : runF N b W = some ⟨N.length, [], O⟩
theorem Whole.perm {N O : List Int} {b : Nat} {W : List (Option Int)} (hN : N.Nodup) (h : Whole N b W O) : O.Perm N := by
  have := (lok hN W h.run).perm
  rwa [List.nil_append, List.take_length] at this
theorem Whole.len {N O : List Int} {b : Nat} {W : List (Option Int)} (hN : N.Nodup) (h : Whole N b W O) : W.length = 2 * N.length := by
  have h1 := (lok hN W h.run).len
  have h2 := (h.perm hN).length_eq
  dsimp only at h1
  omega
theorem Whole.out {N O : List Int} {b : Nat} {W : List (Option Int)} (hN : N.Nodup) (h : Whole N b W O) : O = W.filterMap id := (lok hN W h.run).out
theorem Whole.gain {N O : List Int} {b : Nat} {W : List (Option Int)} (hN : N.Nodup) (h : Whole N b W O) {x : Int} (hx : x ∈ N) : gc N x ≤ b + gc O x := by
  obtain ⟨j, hj⟩ := List.getElem?_of_mem hx
  obtain ⟨O1, O2, e, hn, hc⟩ := (lok hN W h.run).gain j x (List.getElem?_eq_some_iff.mp hj).1 hj
  dsimp only at e
  rw [gc_take hN hj, e, gc_out hn]
  omega
end Sh
namespace Sh
open PySem PySem.Spec PyProof.Rows L2 Lx Ld
/-! the shelf's own way -/
end Sh
namespace Ld
open PySem PySem.Spec PyProof.Rows L2 Lx
section
variable {K : PySem.W.Frag} {Γ : List Cell} {Θ : List Tmp}
/-- xs.pop(0) -/
theorem ve_pop0 {i : Nat} {te : TE} {Q : List Cell → Tmp → Prop} (h0 : ∃ ds, IsLs Γ i ds) (h : VE K Γ Θ te fun Γ1 y => ∃ (d : Dat) (ds : List Dat), y = .dt (.int 0) ∧ IsLs Γ1 i (d :: ds) ∧ ds.length < sizeLine ∧ Q (putC Γ1 i ds) (.dt d)) : VE K Γ Θ (tBM K "list" rPopAt (tVar i) (tCons te tNil)) Q := fun L S0 σ τ S Qv E k => by
  obtain ⟨ds0, c0, hc0, hl0⟩ := h0
  obtain ⟨a, ea, nb, us, hu, pu⟩ := E.own hc0 hl0
  refine ⟨_, ea, .inl ⟨rfl, us, .of hu⟩, h L S0 σ τ S _ E fun Γ1 S1 v y E1 ⟨d, ds, ey, ⟨c, hc, hl⟩, hz, q⟩ => ?_⟩
  subst ey
  obtain ⟨a', vs, ea', hv, pv, put⟩ := E1.pop.mutSlot hc hl
  rw [ea] at ea'
  cases ea'
  cases pv with
  | cons p1 p2 =>
    rename_i v0 vs0
    refine ⟨a, v0 :: vs0, 0, 0, v0, rfl, by rw [dp_int E1.dt], hv, by decide, by decide, ?_, rfl, ?_⟩
    · simp [seqIndex?]
    · have E2 := put vs0 ds p2
      rw [putC_eq hc] at q
      exact k _ _ _ _ (E2.push p1) q
theorem ss_augI0 {i : Nat} {te : TE} {f : Int → Int → Int} {R : DE} (h0 : ∃ m : Int, Γ[i]? = some (.dt (.int m))) (h : ∀ ss, VE K Γ (srcT ss) te fun Γ1 y => ∃ m n : Int, Γ1[i]? = some (.dt (.int m)) ∧ y = .dt (.int n) ∧ R.nx (Γ1.set i (.dt (.int (f m n))))) :
    VSs K Γ (tAug i te (rI0 fun i j => .int (f i j))) R := fun ss L S0 σ τ S D E kn kr kb kc => by
  obtain ⟨m0, h0⟩ := h0
  obtain ⟨w, g1, g2⟩ := id E.ok
  obtain ⟨v, ev, qv⟩ := g1 i _ h0
  refine ⟨v, ev, h ss L S0 σ τ S _ E fun Γ1 S1 vy y E1 ⟨m, n, hi, ey, q⟩ => ?_⟩
  subst ey
  obtain ⟨w', g1', g2'⟩ := id E1.ok
  obtain ⟨v', ev', qv'⟩ := g1' i _ hi
  rw [ev] at ev'
  cases ev'
  have e1 : v = .int m := dp_int qv'
  have e2 : vy = .int n := dp_int E1.dt
  exact ⟨m, n, e1, e2, kn _ _ S1 (E1.pop.setDt nb_src (.int _)) q⟩
end
end Ld
namespace Sh
open PySem PySem.Spec PyProof.Rows L2 Lx Ld
end Sh
namespace Sh
open PySem PySem.Spec PyProof.Rows L2 Lx Ld
end Sh
namespace Ld
theorem sto_ob {Γ : List Cell} {i : Nat} {p : L2.HO} {Q : List Cell → Prop} (q : Q (Γ.set i (.ob p))) : Sto Γ i Q (.ob p) := q
end Ld
namespace Ld
open PySem PySem.Spec PyProof.Rows L2 Lx
theorem st1_nbr {Γ : List Cell} {i : Nat} {c : Tmp} {Γ' : List Cell} (h : St1 Γ i c = some Γ') : ∀ k, c ≠ .br k := fun k z => by subst z; cases h
/-- a, b, c, d = e, f, g, h -/
theorem ss_asg4 {K : PySem.W.Frag} {Γ : List Cell} {i j k l : Nat} {ta tb tc td : TE} {R : DE} (hd : i ≠ j ∧ i ≠ k ∧ i ≠ l ∧ j ≠ k ∧ j ≠ l ∧ k ≠ l) (h : ∀ ss, VE K Γ (srcT ss) ta fun Γ1 x => VE K Γ1 (x :: srcT ss) tb fun Γ2 y => VE K Γ2 (y :: x :: srcT ss) tc fun Γ3 z => VE K Γ3 (z :: y :: x :: srcT ss) td fun Γ4 u =>
      ∃ Γ5 Γ6 Γ7 Γ8, St1 Γ4 l u = some Γ5 ∧ St1 Γ5 k z = some Γ6 ∧ St1 Γ6 j y = some Γ7 ∧ St1 Γ7 i x = some Γ8 ∧ R.nx Γ8) :
    VSs K Γ (tAsg (tTupF (tCons ta (tCons tb (tCons tc (tCons td tNil))))) (gTup K 4 (gCons (gName i) (gCons (gName j) (gCons (gName k) (gCons (gName l) gNil)))))) R := fun ss L S0 σ τ S D E kn kr kb kc =>
  h ss L S0 σ τ S _ E fun Γ1 S1 u x E1 h1 => h1 L S0 σ _ S1 _ E1 fun Γ2 S2 v y E2 h2 => h2 L S0 σ _ S2 _ E2 fun Γ3 S3 w z E3 h3 => h3 L S0 σ _ S3 _ E3 fun Γ4 S4 r t E4 ⟨Γ5, Γ6, Γ7, Γ8, e5, e6, e7, e8, q⟩ => by
    refine ⟨by show 4 ≤ sizeLine; decide +kernel, fun p o hd0 hp => ?_⟩
    have E5 := E4.grow (gr_new (o := .frz o (.tup [u, v, w, r])) hp E4.sub) (sub_new hp E4.sub)
    have nx := st1_nbr e8
    have ny := st1_nbr e7
    have nz := st1_nbr e6
    have E6 := E5.st1 (fun t ht => by
      rcases List.mem_cons.mp ht with rfl | ht
      · exact nz l
      rcases List.mem_cons.mp ht with rfl | ht
      · exact ny l
      rcases List.mem_cons.mp ht with rfl | ht
      · exact nx l
      · exact nb_src t ht) e5
    have E7 := E6.st1 (fun t ht => by
      rcases List.mem_cons.mp ht with rfl | ht
      · exact ny k
      rcases List.mem_cons.mp ht with rfl | ht
      · exact nx k
      · exact nb_src t ht) e6
    have E8 := E7.st1 (fun t ht => by
      rcases List.mem_cons.mp ht with rfl | ht
      · exact nx j
      · exact nb_src t ht) e7
    have E9 := E8.st1 nb_src e8
    obtain ⟨d1, d2, d3, d4, d5, d6⟩ := hd
    have es : ((((σ.set l (some r)).set k (some w)).set j (some v)).set i (some u)) = ((((σ.set i (some u)).set j (some v)).set k (some w)).set l (some r)) := by
      rw [List.set_comm _ _ d1.symm, List.set_comm _ _ d2.symm, List.set_comm _ _ d3.symm, List.set_comm _ _ d4.symm, List.set_comm _ _ d5.symm, List.set_comm _ _ d6.symm]
    rw [es] at E9
    exact ⟨p, _, rfl, sqt_f upd_same, rfl, _, _, rfl, _, _, rfl, _, _, rfl, _, _, rfl, rfl, kn _ _ _ E9 q⟩
end Ld
namespace Ld
open PySem PySem.Spec PyProof.Rows L2 Lx
def tStopE (t : TE) : TE := t
theorem pe_stopE {X : Cx} {a : Expr} {t : TE} (h : PE X a t) : PE X a (tStopE t) := h
theorem ve_cut {K : PySem.W.Frag} {Γ : List Cell} {Θ : List Tmp} {t : TE} {Q : List Cell → Tmp → Prop} (c0 : Tmp) (h : VE K Γ Θ t fun Γ1 c => c = c0 ∧ Γ1 = Γ) (q : Q Γ c0) : VE K Γ Θ (tStopE t) Q := ve_mono h fun Γ1 c ⟨e1, e2⟩ => by rw [e1, e2]; exact q
end Ld
namespace Sh
open PySem PySem.Spec PyProof.Rows L2 Lx Ld
end Sh
namespace Ld
open PySem PySem.Spec PyProof.Rows L2 Lx
end Ld
set_option Elab.async false
set_option linter.all false
set_option maxRecDepth 100000
namespace Ld
open PySem PySem.Spec PyProof.Rows L2 Lx
section
variable {K : PySem.W.Frag} {Γ : List Cell} {Θ : List Tmp}
theorem argsOk_dts {B : Hp} : ∀ {vs : List V} {ds : List Dat}, DqAll B vs ds → ArgsOk K B vs (ds.map Arg.dt)
  | _, _, .nil => .nil
  | _, _, .cons h t => .cons h (argsOk_dts t)
theorem argsOk_apd {B : Hp} : ∀ {vs ws : List V} {as bs : List Arg}, ArgsOk K B vs as → ArgsOk K B ws bs → ArgsOk K B (vs ++ ws) (as ++ bs)
  | _, _, _, _, .nil, h => h
  | _, _, _, _, .cons h t, g => .cons h (argsOk_apd t g)
theorem Env.pushD {L : Addr → Prop} {S0 S : Hs} {σ : L2.St} {τ : List V} : ∀ {xs : List V} {ds : List Dat}, DqAll S.b xs ds → Env K L S0 Γ Θ σ τ S → Env K L S0 Γ (ds.map Tmp.dt ++ Θ) σ (xs ++ τ) S
  | _, _, .nil, E => E
  | _, _, .cons h t, E => (Env.pushD t E).push h
theorem Env.popD {L : Addr → Prop} {S0 S : Hs} {σ : L2.St} {τ : List V} : ∀ {xs : List V} {ds : List Dat}, xs.length = ds.length → Env K L S0 Γ (ds.map Tmp.dt ++ Θ) σ (xs ++ τ) S → DqAll S.b xs ds ∧ Env K L S0 Γ Θ σ τ S
  | [], [], _, E => ⟨.nil, E⟩
  | _ :: xs, _ :: ds, h, E => by
    have E' : Env K L S0 Γ (.dt _ :: (ds.map Tmp.dt ++ Θ)) σ (_ :: (xs ++ τ)) S := E
    obtain ⟨p, E2⟩ := Env.popD (xs := xs) (ds := ds) (by simpa using h) E'.pop
    exact ⟨.cons E'.dt p, E2⟩
  | [], _ :: _, h, _ => nomatch h
  | _ :: _, [], h, _ => nomatch h
/-- *e ahead of further items -/
theorem vax_star {te : TE} {t : TA} {Q : List Cell → List Arg → Prop} (h : VE K Γ Θ te fun Γ1 x => ∃ ds, x = .dt (.list ds) ∧ VAX K Γ1 (ds.map Tmp.dt ++ Θ) t fun Γ2 as => Q Γ2 (ds.map Arg.dt ++ as)) : VAX K Γ Θ (StX.tStar K te t) Q := fun L S0 σ τ S Qv E k =>
  h L S0 σ τ S _ E fun Γ1 S1 v x E1 ⟨ds, ex, h1⟩ => by
    subst ex
    obtain ⟨a, xs, ea, hx, p⟩ := dp_list E1.dt
    subst ea
    refine ⟨a, xs, rfl, .inr (E1.sub.seq (.inl (.of hx))), h1 L S0 σ _ S1 _ (E1.pop.pushD p) fun Γ2 S2 vs as E2 p2 q => ?_⟩
    obtain ⟨pd, E3⟩ := E2.popD p.len
    exact k Γ2 S2 _ _ E3 (argsOk_apd (argsOk_dts pd) p2) q
end
section
variable {K : PySem.W.Frag} {Γ : List Cell} {Θ : List Tmp}
theorem dqa_rg {B : Hp} (a : Int) : ∀ (l : List Nat), DqAll B (l.map fun i => V.int (a + (i : Nat))) (l.map fun i => PyData.int (a + (i : Nat)))
  | [] => .nil
  | _ :: l => .cons (.int _) (dqa_rg a l)
/-- list(range(n)) -/
theorem ve_lstRg1 {te : TE} {Q : List Cell → Tmp → Prop} (h : VE K Γ Θ te fun Γ1 x => ∃ n : Nat, x = .dt (.int n) ∧ n ≤ 16777216 ∧ Q Γ1 (.fr ((List.range n).map fun i => .int (i : Nat)))) : VE K Γ Θ (tLstRg (tRg1 te)) Q := fun L S0 σ τ S Qv E k =>
  h L S0 σ τ S _ E fun Γ1 S1 v x E1 ⟨n, ex, hn, q⟩ => by
    subst ex
    refine ⟨(n : Int), dp_int E1.dt, RgOk.of_le (by omega) (by omega) (by omega) (by omega), fun q0 hq => ?_⟩
    have e : (List.range n).map (fun i : Nat => PyData.int (i : Nat)) = (List.range ((n : Int) - 0).toNat).map fun i : Nat => PyData.int (0 + (i : Nat)) := by
      rw [show ((n : Int) - 0).toNat = n by omega]
      exact List.map_congr_left fun i _ => by rw [Int.zero_add]
    rw [e] at q
    exact k Γ1 _ _ _ (E1.pop.newLst hq (dqa_rg 0 _)) q
/-- list(range(a, b)) -/
theorem ve_lstRg2 {ta tb : TE} {Q : List Cell → Tmp → Prop} (h : VE K Γ Θ ta fun Γ1 x => VE K Γ1 (x :: Θ) tb fun Γ2 y => ∃ a b : Nat, x = .dt (.int a) ∧ y = .dt (.int b) ∧ a ≤ 16777216 ∧ b ≤ 16777216 ∧ Q Γ2 (.fr ((List.range (b - a)).map fun i => .int ((a + i : Nat))))) : VE K Γ Θ (tLstRg (tRg2 ta tb)) Q := fun L S0 σ τ S Qv E k =>
  h L S0 σ τ S _ E fun Γ1 S1 v x E1 h1 => h1 L S0 σ _ S1 _ E1 fun Γ2 S2 u y E2 ⟨a, b, ex, ey, ha, hb, q⟩ => by
    subst ex ey
    refine ⟨(a : Int), (b : Int), dp_int E2.pop.dt, dp_int E2.dt, RgOk.of_le (by omega) (by omega) (by omega) (by omega), fun q0 hq => ?_⟩
    have e : (List.range (b - a)).map (fun i : Nat => PyData.int ((a + i : Nat))) = (List.range ((b : Int) - (a : Int)).toNat).map fun i : Nat => PyData.int ((a : Int) + (i : Nat)) := by
      rw [show ((b : Int) - (a : Int)).toNat = b - a by omega]
      exact List.map_congr_left fun i _ => by rw [Int.natCast_add]
    rw [e] at q
    exact k Γ2 _ _ _ (E2.pop.pop.newLst hq (dqa_rg _ _)) q
end
end Ld
namespace Sh
open PySem PySem.Spec PyProof.Rows L2 Lx Ld
/-! rows ahead -/
end Sh
set_option Elab.async false
set_option linter.all false
set_option maxRecDepth 100000
namespace Ld
open PySem PySem.Spec PyProof.Rows L2 Lx
open PySem.W (AllAlike Sortable dataLe EachIs sorted_data)
end Ld
namespace Ld
open PySem PySem.Spec PyProof.Rows L2 Lx
open PySem.W (AllAlike Sortable dataLe EachIs sorted_data)
end Ld
namespace Sh
open PySem PySem.Spec PyProof.Rows L2 Lx Ld
end Sh
namespace Sh
open PySem PySem.Spec PyProof.Rows L2 Lx Ld
end Sh
namespace Sh
open PySem PySem.Spec PyProof.Rows L2 Lx Ld
end Sh
set_option Elab.async false
set_option linter.all false
set_option maxRecDepth 100000
namespace Sh
open PySem PySem.Spec PyProof.Rows L2 Lx Ld
/-! known rows -/
end Sh
namespace Sh
open PySem PySem.Spec PyProof.Rows L2 Lx Ld
end Sh
set_option Elab.async false
set_option linter.all false
set_option maxRecDepth 100000
namespace Ld
open PySem PySem.Spec PyProof.Rows L2 Lx
theorem dqa_set {B : Hp} {v : V} {d : Dat} (h : Dq B v d) : ∀ (i : Nat) {vs : List V} {ds : List Dat}, DqAll B vs ds → DqAll B (vs.set i v) (ds.set i d)
  | _, _, _, .nil => .nil
  | 0, _, _, .cons _ t => .cons h t
  | i + 1, _, _, .cons g t => .cons g (dqa_set h i t)
/-- x[i], x[j] = a, b -/
theorem ss_swap {K : PySem.W.Frag} {Γ : List Cell} {k : Nat} {ta tb ti tj : TE} {R : DE}
    (h : ∀ ss, VE K Γ (srcT ss) ta fun Γ1 x => VE K Γ1 (x :: srcT ss) tb fun Γ2 y => ∃ dx dy ds, x = .dt dx ∧ y = .dt dy ∧ IsLs Γ2 k ds ∧
      VE K Γ2 (y :: x :: srcT ss) ti fun Γ3 z => ∃ (i : Nat) (ds3 : List Dat), z = .dt (.int i) ∧ IsLs Γ3 k ds3 ∧ i < ds3.length ∧
        (∃ es, IsLs (putC Γ3 k (ds3.set i dx)) k es) ∧ VE K (putC Γ3 k (ds3.set i dx)) (y :: x :: srcT ss) tj fun Γ4 u => ∃ (j : Nat) (ds4 : List Dat), u = .dt (.int j) ∧ IsLs Γ4 k ds4 ∧ j < ds4.length ∧ R.nx (putC Γ4 k (ds4.set j dy))) :
    VSs K Γ (tAsg (tTupF (tCons ta (tCons tb tNil))) (gTup K 2 (gCons (gSub (tVar k) ti rSetL) (gCons (gSub (tVar k) tj rSetL) gNil)))) R := fun ss L S0 σ τ S D E kn kr kb kc =>
  h ss L S0 σ τ S _ E fun Γ1 S1 v x E1 h1 => h1 L S0 σ _ S1 _ E1 fun Γ2 S2 u y E2 ⟨dx, dy, ds, ex, ey, ⟨c, hc, hl⟩, h2⟩ => by
    subst ex ey
    refine ⟨by show 2 ≤ sizeLine; decide +kernel, fun p o hd0 hp => ?_⟩
    have E5 := E2.grow (gr_new (o := .frz o (.tup [v, u])) hp E2.sub) (sub_new hp E2.sub)
    obtain ⟨a, ea, _⟩ := E5.own hc hl
    refine ⟨p, _, rfl, sqt_f upd_same, rfl, _, _, rfl, _, ea, ?_⟩
    refine h2 L S0 σ _ _ _ E5 fun Γ3 S3 w z E3 ⟨i, ds3, ez, ⟨c3, hc3, hl3⟩, hi, ⟨es, c9, hc9, hl9⟩, h3⟩ => ?_
    subst ez
    obtain ⟨a', vs, ea', hv, pv, put⟩ := E3.pop.mutSlot hc3 hl3
    rw [ea] at ea'
    cases ea'
    have E6 := put (vs.set i v) (ds3.set i dx) (dqa_set E3.pop.pop.dt i pv)
    have hi' : i < vs.length := by rw [pv.len]; exact hi
    rw [putC_eq hc3] at h3 hc9
    refine ⟨a, vs, i, i, rfl, dp_int E3.dt, hv, ?_, ?_⟩
    · unfold ixN
      rw [if_pos (Int.natCast_nonneg i), if_pos (by omega)]
      rfl
    refine ⟨_, _, rfl, _, ea, ?_⟩
    refine h3 L S0 σ _ _ _ E6 fun Γ4 S4 w2 z2 E7 ⟨j, ds4, ez, ⟨c4, hc4, hl4⟩, hj, q⟩ => ?_
    subst ez
    obtain ⟨a', vs2, ea', hv2, pv2, put2⟩ := E7.pop.mutSlot hc4 hl4
    rw [ea] at ea'
    cases ea'
    have E8 := put2 (vs2.set j u) (ds4.set j dy) (dqa_set E7.pop.dt j pv2)
    have hj' : j < vs2.length := by rw [pv2.len]; exact hj
    rw [putC_eq hc4] at q
    refine ⟨a, vs2, j, j, rfl, dp_int E7.dt, hv2, ?_, ?_⟩
    · unfold ixN
      rw [if_pos (Int.natCast_nonneg j), if_pos (by omega)]
      rfl
    exact ⟨rfl, kn _ _ _ E8.pop.pop q⟩
end Ld
set_option Elab.async false
set_option linter.all false
set_option maxRecDepth 100000
namespace Ld
open PySem PySem.Spec PyProof.Rows L2 Lx
section
variable {K : PySem.W.Frag} {Γ : List Cell} {Θ : List Tmp}
/-- list.count of whole numbers -/
theorem ve_lcount {ta te : TE} {Q : List Cell → Tmp → Prop}
    (h : VE K Γ Θ ta fun Γ1 x => (∃ ds, rd Γ1 x (.list ds)) ∧ VE K Γ1 (x :: Θ) te fun Γ2 y => ∃ (ns : List Int) (n : Int), rd Γ2 x (.list (ns.map .int)) ∧ y = .dt (.int n) ∧ Q Γ2 (.dt (.int (ns.count n : Nat)))) :
    VE K Γ Θ (tBM K "list" (rCntI K) ta (tCons te tNil)) Q := fun L S0 σ τ S Qv E k => h L S0 σ τ S _ E fun Γ1 S1 vx x E1 ⟨⟨ds0, hx0⟩, h1⟩ => by
  obtain ⟨a, us, ea, hu, _⟩ := rdB_l E1 hx0
  subst ea
  refine ⟨.inl ⟨rfl, us, .of hu⟩, h1 L S0 σ _ S1 _ E1 fun Γ2 S2 vy y E2 ⟨ns, n, hx, hy, q⟩ => ?_⟩
  subst hy
  obtain ⟨a', zs, ea, hs, p⟩ := dp_list (E2.pop.rd hx)
  cases ea
  have ez := dpa_ints p
  subst ez
  exact ⟨a, ns, n, rfl, by rw [dp_int E2.dt], .of hs, k Γ2 S2 _ _ (E2.pop.pop.push (.int _)) q⟩
end
end Ld
namespace Sh
open PySem PySem.Spec PyProof.Rows L2 Lx Ld
/-! how many rows need just so many places -/
def nj (n b : Nat) : Int := if b = 0 then (sby n 0 : Int) else (sby n b : Int) - (sby n (b - 1) : Int)
end Sh
set_option Elab.async false
set_option linter.all false
set_option maxRecDepth 100000
namespace Sh
open PySem PySem.Spec PyProof.Rows L2 Lx Ld
/-! pairs the wrong way round -/
theorem neg_sg (a : Int) : sg false * a = -a := by simp [sg]
end Sh
set_option Elab.async false
set_option linter.all false
set_option maxRecDepth 100000
namespace Sh
open PySem PySem.Spec PyProof.Rows L2 Lx Ld
/-! known rows: falling ones, one number behind all -/
/-! a pass of exchanges -/
/-! one number behind all -/
end Sh
set_option Elab.async false
set_option linter.all false
set_option maxRecDepth 100000
namespace Ld
open PySem PySem.Spec PyProof.Rows L2 Lx
section
variable {K : PySem.W.Frag} {Γ : List Cell} {Θ : List Tmp}
theorem dqa_erase {B : Hp} : ∀ (i : Nat) {vs : List V} {ds : List Dat}, DqAll B vs ds → DqAll B (vs.eraseIdx i) (ds.eraseIdx i) := fun i _ _ h => DqAll.eraseIdx i h
/-- xs.pop(i) -/
theorem ve_popAt {i : Nat} {te : TE} {Q : List Cell → Tmp → Prop} (h0 : ∃ ds, IsLs Γ i ds) (h : VE K Γ Θ te fun Γ1 y => ∃ (j : Nat) (d : Dat) (ds : List Dat), y = .dt (.int j) ∧ IsLs Γ1 i ds ∧ ds[j]? = some d ∧ j < 100000 ∧ Q (putC Γ1 i (ds.eraseIdx j)) (.dt d)) : VE K Γ Θ (tBM K "list" rPopAt (tVar i) (tCons te tNil)) Q := fun L S0 σ τ S Qv E k => by
  obtain ⟨ds0, c0, hc0, hl0⟩ := h0
  obtain ⟨a, ea, nb, us, hu, pu⟩ := E.own hc0 hl0
  refine ⟨_, ea, .inl ⟨rfl, us, .of hu⟩, h L S0 σ τ S _ E fun Γ1 S1 v y E1 ⟨j, d, ds, ey, ⟨c, hc, hl⟩, hd, hj, q⟩ => ?_⟩
  subst ey
  obtain ⟨a', vs, ea', hv, pv, put⟩ := E1.pop.mutSlot hc hl
  rw [ea] at ea'
  cases ea'
  obtain ⟨u, hu2, pu2⟩ := pv.get hd
  have hlt : j < vs.length := (List.getElem?_eq_some_iff.mp hu2).1
  refine ⟨a, vs, (j : Int), j, u, rfl, by rw [dp_int E1.dt], hv, by omega, by omega, ?_, hu2, ?_⟩
  · have h1 : ¬ ((j : Int) < 0) := by omega
    unfold seqIndex?
    simp only [h1, if_false]
    simp [hlt]
  · have E2 := put (vs.eraseIdx j) (ds.eraseIdx j) (dqa_erase j pv)
    rw [putC_eq hc] at q
    exact k _ _ _ _ (E2.push pu2) q
end
end Ld
namespace Lx
open PySem PySem.Spec PyProof.Rows L2 PySem.W
end Lx
namespace Ld
open PySem PySem.Spec PyProof.Rows L2 Lx
end Ld
namespace Sh
open PySem PySem.Spec PyProof.Rows L2 Lx Ld
open PySem.W (DatumOrd minOf minD Tup Datum listLt)
/-! the least of tuples -/
/-- three whole numbers -/
structure T where
  v : Int
  i : Int
  j : Int
def T.l (t : T) : List Int := [t.v, t.i, t.j]
def T.d (t : T) : Dat := .tuple (iL t.l)
structure T.ok (t : T) : Prop where
  v0 : 0 ≤ t.v
  v1 : t.v ≤ 90
  i0 : -1 ≤ t.i
  i1 : t.i ≤ 90
  j0 : -1 ≤ t.j
  j1 : t.j ≤ 90
end Sh
set_option Elab.async false
set_option linter.all false
set_option maxRecDepth 100000
namespace Sh
open PySem PySem.Spec PyProof.Rows L2 Lx Ld
/-! moves that mend -/
end Sh
set_option Elab.async false
set_option linter.all false
set_option maxRecDepth 100000
namespace Sh
open PySem PySem.Spec PyProof.Rows L2 Lx Ld
/-! blocks -/
def Cut (A B : List Int) : Prop := ∀ x ∈ A, ∀ y ∈ B, x < y
def cutB (N : List Int) (p : Nat) : Bool := (N.take p).all fun x => (N.drop p).all fun y => decide (x < y)
theorem cutB_iff {N : List Int} {p : Nat} : cutB N p = true ↔ Cut (N.take p) (N.drop p) := by
  unfold cutB Cut
  simp only [List.all_eq_true, decide_eq_true_eq]
def mayL (N : List Int) : List Nat := (List.range (N.length + 1)).filter (cutB N)
/-! stretches between places -/
def segs (N : List Int) : List Nat → List (List Int)
  | s :: e :: r => (N.take e).drop s :: segs N (e :: r)
  | _ => []
theorem segs_zip (N : List Int) : ∀ L : List Nat, (L.zip L.tail).map (fun p => (N.take p.2).drop p.1) = segs N L
  | [] => rfl
  | [_] => rfl
  | s :: e :: r => by
    show (N.take e).drop s :: ((e :: r).zip r).map _ = _
    have := segs_zip N (e :: r)
    rw [List.tail_cons] at this
    rw [this]
    rfl
def blk (N : List Int) : List (List Int) := segs N (mayL N)
end Sh
namespace Sh
open PySem PySem.Spec PyProof.Rows L2 Lx Ld
/-! marks put at some of the places -/
end Sh
set_option Elab.async false
set_option linter.all false
set_option maxRecDepth 100000
namespace Lx
open PySem PySem.Spec PyProof.Rows L2 PySem.W
def rMaxT (K : PySem.W.Frag) : List V → Hp → VK → Prop := fun vs H Q => ∃ (a : Addr) (ns : List Int), vs = [V.ref a] ∧ SqT K H a (ns.map V.int) ∧ 0 < ns.length ∧ ∀ m, m ∈ ns → (∀ y ∈ ns, y ≤ m) → Q (.int m) H
theorem cr_maxT {X : Cx} (hc : X.calm = true) (hu : X.A.units + 64 < cLine) : CallR X (.builtin "max") (rMaxT X.K) := by
  intro pins s σ H vs us Q I r h
  obtain ⟨a, ns, rfl, hs, h0, q⟩ := h
  obtain rfl := Vals.ref1 r
  obtain ⟨its, rv, hl, _⟩ := I.tuple hs
  cases ns with
  | nil => simp at h0
  | cons y ys =>
    refine max_tuple_datum (α := Int) (I.ok.hd hc) hl (HoldAll.of_ints (by simpa using rv.ints)) (by have e : Datum.depth Int = 0 := rfl; rw [e]; omega) fun i v h' tk hi hv hk => ?_
    obtain ⟨bs, hr⟩ := hv
    cases hr with
    | int i t' =>
      obtain ⟨g1, g2⟩ := maxOf_int ys y
      exact ⟨.int _, H, I.kept hk, ⟨_, rfl⟩, q _ g1 g2⟩
end Lx
namespace Ld
open PySem PySem.Spec PyProof.Rows L2 Lx
section
variable {K : PySem.W.Frag} {Γ : List Cell} {Θ : List Tmp}
theorem c1_maxT {ns : List Int} {Q : List Cell → Tmp → Prop} (h0 : 0 < ns.length) (q : ∀ m, m ∈ ns → (∀ y ∈ ns, y ≤ m) → Q Γ (.dt (.int m))) : C1V K (rMaxT K) Γ Θ (.dt (.tuple (ns.map .int))) Q := fun L S0 σ τ S vx Qv E k => by
  obtain ⟨a, o, xs, e, _, h, p⟩ := dp_tup E.dt
  rw [dpa_ints p] at h
  exact ⟨a, ns, by rw [e], sqt_f (E.sub _ _ h), h0, fun m h1 h2 => k Γ S _ _ (E.pop.push (.int m)) (q m h1 h2)⟩
/-- not t, t a tuple -/
theorem ve_notTp {te : TE} {Q : List Cell → Tmp → Prop} (h : VE K Γ Θ te fun Γ1 x => ∃ ds, x = .dt (.tuple ds) ∧ Q Γ1 (.dt (.bool ds.isEmpty))) : VE K Γ Θ (tNotT K te) Q := fun L S0 σ τ S Qv E k => h L S0 σ τ S _ E fun Γ1 S1 v x E1 ⟨ds, hx, q⟩ => by
  subst hx
  obtain ⟨a, o, us, ev, _, ha, pa⟩ := dp_tup E1.dt
  subst ev
  refine ⟨!us.isEmpty, .inr (.inl ⟨us, sqt_f (E1.sub _ _ ha), rfl⟩), ?_⟩
  rw [isEmpty_len pa.len, Bool.not_not]
  exact k Γ1 S1 _ _ (E1.pop.push (.bl _)) q
end
end Ld
namespace Sh
open PySem PySem.Spec PyProof.Rows L2 Lx Ld
theorem kb_bb : kitB "bool" "bool" = some true := by decide +kernel
theorem cut_mid (ds : List Dat) (s e : Nat) : Ld.cutD ds (some (s : Int)) (some (e : Int)) = (ds.take e).drop s := by
  unfold Ld.cutD
  rw [HT.sIx_nat, HT.sIx_nat, List.drop_take]
  have e1 : ds.drop (min s ds.length) = ds.drop s := by
    by_cases h : s ≤ ds.length
    · rw [Nat.min_eq_left h]
    · rw [Nat.min_eq_right (by omega), List.drop_length, List.drop_of_length_le (by omega)]
  rw [e1, List.take_eq_take_iff, List.length_drop]
  omega
theorem iL_cut (N : List Int) (s e : Nat) : ((iL N).take e).drop s = iL ((N.take e).drop s) := by simp only [iL, List.map_take, List.map_drop]
theorem cut_ends {N : List Int} {p : Nat} {a b : Int} (h1 : a ∈ N.take p) (h2 : ∀ y ∈ N.take p, y ≤ a) (h3 : b ∈ N.drop p) (h4 : ∀ y ∈ N.drop p, b ≤ y) : cutB N p = decide (a < b) := by
  rw [Bool.eq_iff_iff, cutB_iff, decide_eq_true_eq]
  constructor
  · intro c; exact c a h1 b h3
  · intro l x hx y hy
    have := h2 x hx
    have := h4 y hy
    omega
theorem blk_zip (N : List Int) : ((mayL N).zip (mayL N).tail).map (fun p => PyData.tuple (iL ((N.take p.2).drop p.1))) = tL (blk N) := by
  unfold blk tL
  rw [← segs_zip, List.map_map]
  rfl
theorem mayL_len (N : List Int) : (mayL N).length ≤ N.length + 1 := by
  unfold mayL
  exact Nat.le_trans (List.length_filter_le _ _) (by simp)
end Sh
namespace Ld
open PySem PySem.Spec PyProof.Rows L2 Lx
end Ld
namespace Sh
open PySem PySem.Spec PyProof.Rows L2 Lx Ld
end Sh
namespace Sh
open PySem PySem.Spec PyProof.Rows L2 Lx Ld
end Sh
namespace Sh
open PySem PySem.Spec PyProof.Rows L2 Lx Ld
end Sh
namespace Sh
open PySem PySem.Spec PyProof.Rows L2 Lx Ld
end Sh
set_option Elab.async false
set_option linter.all false
set_option maxRecDepth 100000
/-! defs called in an except suite that are handed the caught exception -/
namespace Xa
open PySem PySem.Spec PyProof.Rows L2
structure FnE (P : Program) (w : World) (K : PySem.W.Frag) (mg : Str → Option Value) (base : Heap) (k : Nat) (f : Addr) (fd : FuncData) (ps : List Str) (sp : Addr → Value → Option Addr → Sp) : Prop where
  len : ∀ a c d vs H Q E, sp a c d vs H Q E → vs.length = ps.length
  run : ∀ (A : Around) (outer : List Env) (s : Shared) (H : Hp) (args : Args) (us : List Value) (vs : List V) (Q : VK) (E : XK) (p : Addr × Obj) (cls : Value) (d : Option Addr), L2H.RoomH k A → L2H.Hot1 A p → L2N.Zn cls d p.2 → L2H.PinOk outer H s p → Env0 P w K mg base A outer s H → BindsTo s fd args (ps.zip us) → Vals vs us → sp p.1 cls d vs H Q E →
    codeAny (model P w) A (.call (.ref f) args) (CR CX0 outer P w H s Q E) s
theorem fn_ofE {P : Program} {w : World} {K : PySem.W.Frag} {mg : Str → Option Value} {base : Heap} {k : Nat} {f : Addr} {name qual : Str} {params : Arguments} {body : List Stmt} {scope : Scope} {dV kV doc pm cdv ct oc : Value} {an od : Option Addr}
    {osl : Array (Option Value)} {N ps : List Str} {sp : Addr → Value → Option Addr → Sp} (lk : K.lookup f = some ⟨oc, od, .func (PySem.W.fnOf name qual params body scope dV kV doc pm an cdv ct), osl⟩) (hcd : PySem.W.codeIn K cdv qual = true) (S : FnScope N ps scope)
    (len : ∀ a c d vs H Q E, sp a c d vs H Q E → vs.length = ps.length)
    (hbody : ∀ (A : Around) (outer : List Env) (s : Shared) (H : Hp) (vs : List V) (Q : VK) (E : XK) (p : Addr × Obj) (cls : Value) (d : Option Addr), L2H.Hot1 A p → L2N.Zn cls d p.2 → L2H.RoomH k (A.deeper (envOfC qual scope s.heap.objs.size f cdv)) → sp p.1 cls d vs H Q E →
      ∃ t, PSs (L2H.cxH CX0 P w K mg base N qual scope f cdv A outer s H E p) body t ∧ t { nx := fun _ H' => Q .non H', rt := Q } (L2.start N vs) H) :
    FnE P w K mg base (k + 1) f (PySem.W.fnOf name qual params body scope dV kV doc pm an cdv ct) ps sp := by
  refine ⟨len, fun A outer s H args us vs Q E p cls d hr hot hz hpin e0 hb r hsp => ?_⟩
  have hl := len _ _ _ _ _ _ _ hsp
  have KX : K.In s.heap := e0.mod.kin.keeps fun b o e => (e0.bs b o e).1
  have lim : s.heap.NoLimit := e0.mod.nolimit.keeps fun b o e => (e0.bs b o e).1
  have hkind : ∀ y ∈ ps.zip us, scope.names.lookup y.1 = some .local ∨ (scope.names.lookup y.1 = some .cell ∧ ((cellsFrom (s.heap.objs.size + 1) scope.names []).lookup y.1).isSome = true) := fun ⟨n, v⟩ hy => by
    rcases S.par n (List.of_mem_zip hy).1 with q | q
    · exact .inl q
    · exact .inr ⟨q, PySem.W.cellsFrom_some _ _ _ (.inl q)⟩
  refine codeAny_call_function hr.depth (KX _ _ lk) rfl S.co S.gen rfl (PySem.W.codeRec_of KX hcd) (hb _ _ _ _ ?_)
  refine wpAny_newFunctionEnv_cells S.kind hkind fun env he s1 x => ?_
  subst he
  refine ⟨lim.keeps x.toInCall.keep, codeAny_func ?_⟩
  obtain ⟨t, ht, hq⟩ := hbody A outer s H vs Q E p cls d hot hz (hr.deeper _) hsp
  have I : Inv (L2H.cxH CX0 P w K mg base N qual scope f cdv A outer s H E p) [] (L2.start N vs) H s1 := L2H.inv_startH S hpin e0 hl r x
  refine wpAny_mono (ht.run [] s1 (L2.start N vs) H _ I hq) (fun fl s' hs => ?_) fun e s' hs => hs
  have fin : ∀ {σ' : L2.St} {H' : Hp} {v : V} {u : Value}, Inv (L2H.cxH CX0 P w K mg base N qual scope f cdv A outer s H E p) [] σ' H' s' → RelV v u → Q v H' → CE outer P w H s Q u s' :=
    fun {σ' H' v u} J rv q => ⟨v, H', J.os, J.bare, J.base, J.hok, rv, q⟩
  cases fl with
  | ret u =>
    obtain ⟨v, σ', H', J, rv, q⟩ := hs
    exact fin J rv q
  | next =>
    obtain ⟨σ', H', J, q⟩ := hs
    exact fin (v := V.non) (u := Value.none) J rfl q
  | brk =>
    obtain ⟨_, _, _, q⟩ := hs
    exact False.elim q
  | cont =>
    obtain ⟨_, _, _, q⟩ := hs
    exact False.elim q
section
variable {X : Cx} {k : Nat} {f : Addr} {fd : FuncData} {ps : List Str} {sp : Addr → Value → Option Addr → Sp} {x : Str} {q pos : Pos} {e : Expr} {es : List Expr} {t : TA}
/-- g(e), e the caught exception, in the suite -/
theorem pe_callE {p : Addr × Obj} {cls : Value} {d : Option Addr} (F : FnE X.prog X.w X.K X.mg X.base k f fd ps sp) (hr : L2H.RoomH k X.A) (hot : L2H.Hot1 X.A p) (hp : p ∈ X.pn) (hz : L2N.Zn cls d p.2) (hg : Gl X x) (hm : X.mg x = some (.ref f)) (hk : PySem.W.keepIn X.K (.ref f) = true) (hb : Binds X.K fd ps [])
    (ha : PA X (e :: es) t) (hdb : (x == ("__debug__" : Str)) = false := by decide) (he : starEach (e :: es) X.env = (false, eval e X.env) :: starEach es X.env := by rfl) (hpl : (backTo pos (starEach es X.env)).any (·.1) = false := by rfl) :
    PE X (.Call (.Name x q) (e :: es) [] pos) (tCall (sp p.1 cls d) [] E0 t) := by
  refine ⟨fun pins s σ H Q I h => ?_⟩
  refine wpAny_Call_Name_kw (ld_glob I hg hm ?_ hdb)
  refine PySem.W.callWith_K (h₀ := X.base) I.ok.mod.kin hk (thn (ha.run pos pins s σ H _ I h) fun us s1 ⟨vs, H1, I1, r, qq⟩ => ⟨I1.kIn, ?_⟩) he hpl
  have qq : sp p.1 cls d vs H1 Q E0 := by
    have z : sp p.1 cls d (vs ++ []) H1 Q E0 := qq
    rwa [List.append_nil] at z
  have hl : us.length = ps.length := by rw [← r.length]; exact F.len _ _ _ _ _ _ _ qq
  have b := hb s1 us I1.kIn (by rw [List.append_nil]; exact hl)
  rw [List.append_nil] at b
  have P1 := I1.pin p (List.mem_append_left _ hp)
  have hpin : L2H.PinOk X.stack H1 s1 p := ⟨P1.1, P1.2.1, fun hm => (List.mem_cons.mp (I1.stkSub p.1 hm)).elim P1.2.2.1 P1.2.2.2.1, P1.2.2.2.2⟩
  refine wpAny_call (codeAny_mono (F.run X.A X.stack s1 H1 ⟨us, []⟩ us vs Q E0 p cls d hr hot hz hpin I1.env0 b r qq) fun r s' hq => ?_)
  cases r with
  | error e => exact (hq : False).elim
  | ok fl =>
    cases fl with
    | ret u => exact I1.after hq
    | next => exact False.elim hq
    | brk => exact False.elim hq
    | cont => exact False.elim hq
end
/-- isinstance(e, c), e the exception that is handled here -/
theorem call_isX {X : Cx} {a D : Addr} {oe : Obj} (hm : (a, oe) ∈ X.pn) (C : ExcC X.K D) (hz : Zc (.ref D) none oe) (hf : ∃ vs, oe.data = .fields vs) : CallR X (.builtin "isinstance") (rIsE X.K D a) := by
  intro pins s σ H xs us Q I r h
  obtain ⟨c, cv, b, rfl, hcv, e, q⟩ := h
  cases r with
  | cons rx rr =>
    cases rr with
    | cons rt rr =>
      cases rr
      cases rx
      have ec := hcv _ rt
      subst ec
      obtain ⟨hget, _⟩ := I.pin (a, oe) (List.mem_append.mpr (.inl hm))
      obtain ⟨vs, hv⟩ := hf
      have J : PySem.W.InstAt s.heap a oe D none := by
        obtain ⟨oc, od, oda, osl⟩ := oe
        obtain ⟨h1, h2⟩ := hz
        dsimp only at h1 h2 hv
        subst h1 h2 hv
        exact ⟨hget, rfl, rfl, trivial⟩
      exact PySem.W.kia_one (PySem.W.handS_kitx_exc C.hg C.hk C.hs C.hd C.ha C.hn C.ht C.hm) I.kIn J e (fun z => nomatch z) fun tk => ⟨.bl b, H, I.kept (t' := tk) fun _ _ z => z, rfl, q⟩
/-! list.count of flat values -/
def rCntV (K : PySem.W.Frag) : V → List V → Hp → VK → Prop := fun x xs H Q => ∃ (a : Addr) (ys : List V) (y : V), x = .ref a ∧ xs = [y] ∧ SqL K H a ys ∧ flatV y = true ∧ ys.all flatV = true ∧ Q (.int (ys.countP (fun z => eqV z y) : Nat)) H
theorem cnt_eq {y : V} : ∀ {ys : List V} {us : List Value}, Vals ys us → ys.all flatV = true → us.countP (eqU y) = ys.countP fun z => eqV z y
  | _, _, .nil, _ => rfl
  | z :: ys, u :: us, .cons r t, f => by
    rw [List.all_cons, Bool.and_eq_true] at f
    rw [List.countP_cons, List.countP_cons, cnt_eq t f.2, eqU_of r f.1]
theorem mt_lcountV {X : Cx} : MtR X "list.count" (rCntV X.K) := by
  intro pins s σ H x xs v us Q I rx rxs h
  obtain ⟨a, ys, y, rfl, rfl, hs, fy, fys, q⟩ := h
  cases rx
  cases rxs with
  | cons ry rt =>
    rename_i uy ut
    cases rt
    obtain ⟨its, rv, ⟨⟨cls, dd, data, sl⟩, n, ho, hc, hdn, hd⟩, hlen⟩ := I.list hs
    simp only at hc hd
    subst hc hd
    refine call_meets PySem.F.slot_list_count ⟨_, ho, rfl⟩ PySem.F.entry_list_count (PySem.F.args_list_count_2 _ _)
      (SeqAt.list_countAt a its.toArray n dd sl uy (eqU y)) ⟨ho, fun u' hu' => mem_eqAt ry fy rv fys u' (by simpa using hu'), ?_⟩
    have ec : its.toArray.toList.countP (eqU y) = ys.countP fun z => eqV z y := cnt_eq rv fys
    refine ⟨.int (ys.countP (fun z => eqV z y) : Nat), H, I.tok _, ⟨s.toks, ?_⟩, q⟩
    show Value.int ((its.toArray.toList.countP (eqU y) : Nat) : Int) s.toks = _
    rw [ec]
/-! exceptions made where nothing is handled -/
section
variable {X : Cx}
theorem takes0N : L2N.Takes X (fun _ _ _ _ => False) := fun _ _ x => by
  obtain ⟨_, _, _, _, _, _, _, _, _, _, _, _, _, _, _, _, z⟩ := x
  exact z.elim
theorem pmk_n1 {C : Addr} {bmB : List Value} {B newId initId : String} {x : Str} {e : Expr} {ta : TE} {p pos : Pos} (F : ExcBaseFacts B newId initId bmB) (q : PySem.W.excIn X.K C bmB newId = true) (gC : X.mg x = some (.ref C)) (kC : PySem.W.keepIn X.K (.ref C) = true) (r : Raises X (.ref C)) (hg : Gl X x)
    (he : PE X e ta) (hs : starEach [e] X.env = (false, eval e X.env) :: starEach [] X.env := by rfl) (hdb : (x == ("__debug__" : Str)) = false := by decide) :
    L2N.PMk X (.Call (.Name x p) [e] [] pos) (fun σ H Q => ta σ H fun _ H1 => Q (.ref C) none H1) := by
  intro pins s σ H Q I h
  refine wpAny_Call_Name_kw (ld_glob I hg gC ?_ hdb)
  refine PySem.W.callWith_K (h₀ := X.base) I.ok.mod.kin kC ?_ hs (by rfl)
  rw [hs]
  show wpAny _ _ (spliced ((false, eval e X.env) :: backTo pos (starEach [] X.env))) _ _ s
  refine Calls.spliced_cons (thn (he.run pins s σ H _ I h) fun u s1 ⟨v, H1, I1, r1, q1⟩ => ?_)
  refine Calls.spliced_nil ⟨I1.kIn, ?_⟩
  show wpAny _ _ (call (.ref C) [u]) _ _ _
  obtain ⟨bm, N, nm, qn, bs, hdct, sn, sub, ab, col, dd, k0, k1, k2, k3, k5, mN, hC, hN, hni, T⟩ := exc_obj I1.kIn q
  refine wpAny_call_exc_subT F T hC hN hni (fun h' e hm => ?_) (by show 1 ≤ sizeLine; rw [sizeLine_eq]; omega)
  exact L2N.mk_of I1 hm r q1 (I1.hok.gone hm.new)
end
end Xa
set_option Elab.async false
set_option linter.all false
set_option maxRecDepth 100000
namespace Ld
open PySem PySem.Spec PyProof.Rows L2 Lx
/-! defs that raise -/
abbrev BxN (P : Program) (w : World) (K : PySem.W.Frag) (mg : Str → Option Value) (base : Heap) (N : List Str) (qual : Str) (st : Stmt) (f : Addr) (cdv : Value) (A : Around) (outer : List PySem.Env) (s : Shared) (H : Hp) (E : XK) : Cx := cxOf (L2N.CX P w) P w K mg base N qual (defScope st) f cdv A outer s H E
/-- an own exception class over ValueError -/
structure ExcF (K : PySem.W.Frag) (mg : Str → Option Value) (x : Str) (C : Addr) : Prop where
  g : mg x = some (.ref C)
  x : PySem.W.excIn K C He.veBase "ValueError.__new__" = true
  k : PySem.W.keepIn K (.ref C) = true
  b : PySem.W.subIn K (.ref C) (.type "BaseException") = some true
  t : PySem.W.typeIn K (.ref C) = some (.type "type")
def spR {α : Type} (K : PySem.W.Frag) (A : α → List Arg) (pre : α → Prop) (C : α → Addr) : Sp := fun vs H _ E => ∃ (B : Hp) (x : α), Same B H ∧ ArgsOk K B vs (A x) ∧ pre x ∧
  ∀ S', Gr L0 ⟨B, H⟩ S' → Same S'.b S'.h → E (.ref (C x)) none S'.h
def XF (E : XK) (L : Addr → Prop) (S0 : Hs) (C : Addr) : Prop := ∀ S', Gr L S0 S' → Same S'.b S'.h → E (.ref C) none S'.h
section
variable (K : PySem.W.Frag) (L : Addr → Prop) (S0 : Hs) (Γ : List Cell)
def VEr (Θ : List Tmp) (t : TE) : Prop := ∀ (σ : L2.St) (τ : List V) (S : Hs) (Qv : VK), Env K L S0 Γ Θ σ τ S → t σ S.h Qv
def VAr (Θ : List Tmp) (t : TA) : Prop := ∀ (σ : L2.St) (τ : List V) (S : Hs) (Qv : List V → Hp → Prop), Env K L S0 Γ Θ σ τ S → t σ S.h Qv
def VSr (t : TS) : Prop := ∀ (ss : List Dat) (σ : L2.St) (τ : List V) (S : Hs) (D : Ends), Env K L S0 Γ (srcT ss) σ τ S → t D σ S.h
end
section
variable {K : PySem.W.Frag} {L : Addr → Prop} {S0 : Hs} {Γ : List Cell} {Θ : List Tmp}
theorem sr_first {s1 s2 : TS} (h : VSr K L S0 Γ s1) : VSr K L S0 Γ (tSeq s1 s2) := fun ss σ τ S D E => h ss σ τ S _ E
theorem sr_seq {s1 s2 : TS} (h : VSs K Γ s1 ⟨fun Γ' => VSr K L S0 Γ' s2, fun _ _ => False, fun _ => False, fun _ => False⟩) : VSr K L S0 Γ (tSeq s1 s2) := fun ss σ τ S D E =>
  h ss L S0 σ τ S _ E (fun Γ' σ' S' E' q => q ss σ' τ S' _ E') (fun _ _ _ _ _ _ _ z => z.elim) (fun _ _ _ _ z => z.elim) (fun _ _ _ _ z => z.elim)
theorem sr_if {tt : TT} {ta tb : TS} (h : ∀ ss, VT K Γ (srcT ss) tt fun Γ1 b => (b = true → VSr K L S0 Γ1 ta) ∧ (b = false → VSr K L S0 Γ1 tb)) : VSr K L S0 Γ (tIfS tt ta tb) := fun ss σ τ S D E => h ss L S0 σ τ S _ E fun Γ1 S1 b E1 q => by
  cases b with
  | true => rw [if_pos rfl]; exact q.1 rfl ss σ τ S1 D E1
  | false => rw [if_neg Bool.false_ne_true]; exact q.2 rfl ss σ τ S1 D E1
theorem sr_ret {te : TE} (h : ∀ ss, VEr K L S0 Γ (srcT ss) te) : VSr K L S0 Γ (tRet te) := fun ss σ τ S D E => h ss σ τ S _ E
theorem sr_drop {te : TE} (h : ∀ ss, VEr K L S0 Γ (srcT ss) te) : VSr K L S0 Γ (tDrop te) := fun ss σ τ S D E => h ss σ τ S _ E
theorem sr_asg {te : TE} {g : TG} (h : ∀ ss, VEr K L S0 Γ (srcT ss) te) : VSr K L S0 Γ (tAsg te g) := fun ss σ τ S D E => h ss σ τ S _ E
theorem sr_raise {ta : TE} {E : XK} {C : Addr} (hE : XF E L S0 C) (ha : ∀ ss σ τ S, Env K L S0 Γ (srcT ss) σ τ S → ∀ Q : VK, (∀ v, Q v S.h) → ta σ S.h Q) :
    VSr K L S0 Γ (fun _ σ H => ta σ H fun _ H1 => E (.ref C) none H1) := fun ss σ τ S D Ev => ha ss σ τ S Ev _ fun _ => hE S Ev.gr Ev.sub
theorem er_call {α : Type} {A : α → List Arg} {pre : α → Prop} {C : α → Addr} {E : XK} {t : TA} (h : VAX K Γ Θ t fun Γ1 as => ∃ x, as = A x ∧ pre x ∧ XF E L S0 (C x)) : VEr K L S0 Γ Θ (L2.tCallS (spR K A pre C) (fun _ => E) t) := fun σ τ S Qv E0 => h L S0 σ τ S _ E0 fun Γ1 S1 vs as E1 p ⟨x, ex, hp, hE⟩ => by
  subst ex
  exact ⟨S1.b, x, E1.sub, p, hp, fun S' g s => hE S' (E1.gr.trans0 g) s⟩
theorem er_cb {r : List V → Hp → VK → Prop} {t : TA} (h : VAr K L S0 Γ Θ t) : VEr K L S0 Γ Θ (tCB r t) := fun σ τ S Qv E => h σ τ S _ E
theorem ar_one {te : TE} {t : TA} (h : VEr K L S0 Γ Θ te) : VAr K L S0 Γ Θ (tCons te t) := fun σ τ S Qv E => h σ τ S _ E
end
section
variable {P : Program} {w : World} {K : PySem.W.Frag} {mg : Str → Option Value} {base : Heap}
theorem ok_R {α : Type} {x qual : Str} {st : Stmt} {f : Addr} {fd : FuncData} {N ps : List Str} {k : Nat} {Ar : α → List Arg} {pre : α → Prop} {C : α → Addr} (F : Fun K x qual st f fd) (Sc : FnScope N ps (defScope st)) (hl : ∀ x, (Ar x).length = ps.length) (hN : ps.length ≤ N.length)
    (hb : ∀ (cdv : Value) (A : Around) (outer : List PySem.Env) (s : Shared) (H : Hp) (E : XK), Room k (A.deeper (envOfC qual (defScope st) s.heap.objs.size f cdv)) →
      ∃ t, PSs (BxN P w K mg base N qual st f cdv A outer s H E) (defBody st) t ∧ ∀ x S0, pre x → XF E L0 S0 (C x) → VSr K L0 S0 (cells0 N ((Ar x).map Arg.cell)) t) : FnOk P w K mg base (L2N.CX P w) (k + 1) f fd ps (spR K Ar pre C) := by
  have hlen : ∀ vs H Q E, spR K Ar pre C vs H Q E → vs.length = ps.length := fun vs H Q E h => by
    obtain ⟨B, x, _, p, hp, _⟩ := h
    rw [p.len, hl x]
  obtain ⟨oc, od, kV, doc, pm, an, cdv, ct, osl, rfl, lk, hcd⟩ := F.ex
  refine fn_of lk hcd Sc hlen fun A outer s H vs Q E hr h => ?_
  obtain ⟨t, ht, hv⟩ := hb cdv A outer s H E hr
  obtain ⟨B, x, sub, p, hp, q⟩ := h
  have hlv : vs.length ≤ N.length := by rw [p.len, hl x]; exact hN
  exact ⟨t, ht, hv x ⟨B, H⟩ hp q [] (L2.start N vs) [] ⟨B, H⟩ _ (env_start sub p hlv)⟩
/-- .. and what is called -/
structure CalR (P : Program) (w : World) (K : PySem.W.Frag) (mg : Str → Option Value) (base : Heap) (k : Nat) (x : Str) (ps : List Str) (sp : Sp) (f : Addr) (fd : FuncData) : Prop where
  G : FnOk P w K mg base (L2N.CX P w) k f fd ps sp
  g : mg x = some (.ref f)
  kp : PySem.W.keepIn K (.ref f) = true
  b : Binds K fd ps []
theorem Df.calR {k : Nat} {x : Str} {st : Stmt} {ps : List Str} {sp : Sp} {f : Addr} {fd : FuncData} (D : Df K mg x st ps f fd) (G : FnOk P w K mg base (L2N.CX P w) k f fd ps sp) : CalR P w K mg base k x ps sp f fd := ⟨G, D.g, D.F.kp, D.b⟩
end
section
variable {K : PySem.W.Frag} {Γ : List Cell} {Θ : List Tmp}
theorem ve_callOr {α β : Type} {A : α → List Arg} {pre : α → Prop} {post : α → Dat → Prop} {A' : β → List Arg} {pre' : β → Prop} {post' : β → Dat → Prop} {X : XK} {t : TA} {Q : List Cell → Tmp → Prop}
    (h : VAX K Γ Θ t fun Γ1 as => (∃ x, as = A x ∧ pre x ∧ ∀ d, post x d → Q Γ1 (.dt d)) ∨ ∃ x, as = A' x ∧ pre' x ∧ ∀ d, post' x d → Q Γ1 (.dt d)) : VE K Γ Θ (tCall (fun vs H Q E => spG K A pre post vs H Q E ∨ spG K A' pre' post' vs H Q E) [] X t) Q := fun L S0 σ τ S Qv E k => h L S0 σ τ S _ E fun Γ1 S1 vs as E1 p hx => by
  show spG K A pre post (vs ++ []) S1.h Qv X ∨ spG K A' pre' post' (vs ++ []) S1.h Qv X
  rw [List.append_nil]
  rcases hx with ⟨x, ex, hp, q⟩ | ⟨x, ex, hp, q⟩
  · subst ex
    exact .inl ⟨S1.b, x, E1.sub, p, hp, fun v S' d g s hd hq => k Γ1 S' v _ ((E1.grow g s).push hd) (q d hq)⟩
  · subst ex
    exact .inr ⟨S1.b, x, E1.sub, p, hp, fun v S' d g s hd hq => k Γ1 S' v _ ((E1.grow g s).push hd) (q d hq)⟩
/-- what a def is told that is handed a caught exception, and tells -/
def spE (idx : Addr → Option Int) : Addr → Value → Option Addr → Sp := fun a cl d vs H Q _ => vs = [V.ref a] ∧ H a = none ∧ d = none ∧ ∃ (D : Addr) (n : Int), cl = .ref D ∧ idx D = some n ∧ ∃ B, Same B H ∧
  ∀ v S', Gr L0 ⟨B, H⟩ S' → Same S'.b S'.h → Dq S'.b v (.tuple [.str "refused", .int n]) → Q v S'.h
end
end Ld
set_option Elab.async false
set_option linter.all false
set_option maxRecDepth 100000
namespace Ld
open PySem PySem.Spec PyProof.Rows L2 Lx
/-- what is known of a class of errors: it is the n-th of these -/
structure KitF (K : PySem.W.Frag) (X : Addr) (n : Int) (cs : List Addr) : Prop where
  e : ExcC K X
  v : PySem.W.kitOne K (.ref X) (.type "ValueError") = some true
  o : ∀ (j : Nat) C, cs[j]? = some C → PySem.W.kitOne K (.ref X) (.ref C) = some (decide ((j : Int) = n))
  n0 : 0 ≤ n
  n1 : n < 12
theorem is_rd {K : PySem.W.Frag} {X a C : Addr} {b : Bool} {σ : L2.St} {H : Hp} {Q : VK} (h0 : σ[0]? = some (some (.ref a))) (hk : PySem.W.kitOne K (.ref X) (.ref C) = some b) (q : Q (.bl b) H) : tCB (rIsE K X a) (tCons (tVar 0) (tCons (tC (.ref C)) tNil)) σ H Q :=
  ⟨_, h0, ⟨.ref C, .ref C, b, rfl, fun u r => r, hk, q⟩⟩
theorem is_rdV {K : PySem.W.Frag} {X a : Addr} {b : Bool} {σ : L2.St} {H : Hp} {Q : VK} (h0 : σ[0]? = some (some (.ref a))) (hk : PySem.W.kitOne K (.ref X) (.type "ValueError") = some b) (q : Q (.bl b) H) : tCB (rIsE K X a) (tCons (tVar 0) (tCons (tC (.ty "ValueError")) tNil)) σ H Q :=
  ⟨_, h0, ⟨.ty "ValueError", .type "ValueError", b, rfl, fun u r => r, hk, q⟩⟩
end Ld
namespace Ld
open PySem PySem.Spec PyProof.Rows L2 Lx
theorem idx_pre {ys : List V} {y : V} {j : Nat} (h : (ys.take j).all (fun z => !eqV z y) = true) : ∀ (m : Nat) (z' : V), m < j → ys[m]? = some z' → eqV z' y = false := fun m z' hm hz => by
  have hz2 : (ys.take j)[m]? = some z' := by rw [List.getElem?_take_of_lt hm]; exact hz
  have := List.all_eq_true.mp h z' (List.mem_of_getElem? hz2)
  simpa using this
end Ld
namespace Ld
open PySem PySem.Spec PyProof.Rows L2 Lx
theorem ite_f {c : Bool} {A B : Prop} (h : c = false) (q : B) : if c = true then A else B := by rw [h, if_neg Bool.false_ne_true]; exact q
end Ld
namespace He
open PySem PySem.Spec PyProof.Rows L2
theorem xcB_ok {x : Str} {K : PySem.W.Frag} (c : xcB x K = true) : ExcC K (ga K x) := by
  obtain ⟨c1, c⟩ := ba c
  obtain ⟨c2, c⟩ := ba c
  obtain ⟨c3, c⟩ := ba c
  obtain ⟨c4, c⟩ := ba c
  obtain ⟨c5, c⟩ := ba c
  obtain ⟨c6, c⟩ := ba c
  obtain ⟨c7, c8⟩ := ba c
  exact ⟨eqO_ok c1, eqO_ok c2, of_decide_eq_true c3, c4, eqO_ok c5, eqO_ok c6, of_decide_eq_true c7, of_decide_eq_true c8⟩
theorem ktB_ok {x y : Str} {b : Bool} {K : PySem.W.Frag} (c : ktB x y b K = true) : PySem.W.kitOne K (.ref (ga K x)) (.ref (ga K y)) = some b := of_decide_eq_true c
theorem kvB_ok {x : Str} {K : PySem.W.Frag} (c : kvB x K = true) : PySem.W.kitOne K (.ref (ga K x)) (.type "ValueError") = some true := of_decide_eq_true c
theorem klB_ok {x : Str} {n : Nat} {ys : List Str} {K : PySem.W.Frag} (hn : n < 12) (c : klB x n ys K = true) : Ld.KitF K (ga K x) n (ys.map (ga K)) := by
  obtain ⟨c1, c⟩ := ba c
  obtain ⟨c2, c3⟩ := ba c
  refine ⟨xcB_ok c1, kvB_ok c2, fun j C h => ?_, by omega, by omega⟩
  rw [List.getElem?_map] at h
  obtain ⟨y, hy, rfl⟩ := Option.map_eq_some_iff.mp h
  have := List.all_eq_true.mp c3 (y, j) (List.mem_zipIdx_iff_getElem?.mpr hy)
  exact ktB_ok this
end He
namespace Ld
open PySem PySem.Spec PyProof.Rows L2 Lx
theorem ExcF.of {K : PySem.W.Frag} {h : Heap} {mg : Str → Option Value} (X : K.In h) (G : h.Ns mainGlobals mg) {x : Str} (g : (He.Fa.glo x).ok K = true) (c : (He.Fa.exc x).ok K = true) : ExcF K mg x (He.ga K x) := by
  obtain ⟨h1, h2, h3, h4⟩ := He.exc_ok c
  exact ⟨He.glo_ok X G g, h1, h2, h3, h4⟩
end Ld
set_option Elab.async false
set_option linter.all false
set_option maxRecDepth 100000
/-! an error's number among its classes -/
namespace Ld
open PySem PySem.Spec PyProof.Rows L2 Lx
theorem KitF.one {K : PySem.W.Frag} {X : Addr} {n m : Int} {cs : List Addr} (h : KitF K X n cs) (g : KitF K X m cs) (hl : cs.length = 12) : m = n := by
  have h0 := h.n0
  have h1 := h.n1
  have hi : n.toNat < cs.length := by omega
  have e1 := h.o n.toNat _ (List.getElem?_eq_getElem hi)
  have e2 := g.o n.toNat _ (List.getElem?_eq_getElem hi)
  rw [e1] at e2
  have e3 := Option.some.inj e2
  rw [decide_eq_true (by omega : ((n.toNat : Nat) : Int) = n)] at e3
  have e4 := of_decide_eq_true e3.symm
  omega
open Classical in
noncomputable def idxK (K : PySem.W.Frag) (cs : List Addr) (X : Addr) : Option Int := if h : ∃ n, KitF K X n cs then some h.choose else none
theorem idxK_kit {K : PySem.W.Frag} {cs : List Addr} {X : Addr} {n : Int} (h : idxK K cs X = some n) : KitF K X n cs := by
  unfold idxK at h
  split at h
  · rename_i w
    cases h
    exact w.choose_spec
  · cases h
theorem idxK_of {K : PySem.W.Frag} {cs : List Addr} {X : Addr} {n : Int} (hl : cs.length = 12) (h : KitF K X n cs) : idxK K cs X = some n := by
  have w : ∃ n, KitF K X n cs := ⟨n, h⟩
  unfold idxK
  rw [dif_pos w, h.one w.choose_spec hl]
end Ld
set_option Elab.async false
set_option linter.all false
set_option maxRecDepth 100000
namespace Ld
open PySem PySem.Spec PyProof.Rows L2 Lx
open PySem.W (AllAlike Sortable dataLe EachIs sorted_data)
/-! sorted of data, one item of any kind too -/
/-! t < u of tuples of ints; d not in l -/
end Ld
namespace Ld
open PySem PySem.Spec PyProof.Rows L2 Lx
theorem roomX {k : Nat} {A : Around} (r : Room k A) (h : Option Value) : L2H.RoomH k (A.mark h) := ⟨r.dp, r.un⟩
end Ld
namespace Ld
open PySem PySem.Spec PyProof.Rows L2 Lx
theorem ve_callOrF {K : PySem.W.Frag} {Γ : List Cell} {Θ : List Tmp} {α β : Type} {A : α → List Arg} {pre : α → Prop} {g : α → Dat} {A' : β → List Arg} {pre' : β → Prop} {g' : β → Dat} {X : XK} {t : TA} {Q : List Cell → Tmp → Prop}
    (h : VAX K Γ Θ t fun Γ1 as => (∃ x, as = A x ∧ pre x ∧ Q Γ1 (.dt (g x))) ∨ ∃ x, as = A' x ∧ pre' x ∧ Q Γ1 (.dt (g' x))) : VE K Γ Θ (tCall (fun vs H Q E => spF K A pre g vs H Q E ∨ spF K A' pre' g' vs H Q E) [] X t) Q := by
  refine ve_callOr (post := fun x d => d = g x) (post' := fun x d => d = g' x) fun L S0 σ τ S Qv E k => h L S0 σ τ S Qv E fun Γ1 S1 vs as E1 p q => k Γ1 S1 vs as E1 p ?_
  rcases q with ⟨x, e, hp, q⟩ | ⟨x, e, hp, q⟩
  · exact .inl ⟨x, e, hp, fun d ed => by rw [ed]; exact q⟩
  · exact .inr ⟨x, e, hp, fun d ed => by rw [ed]; exact q⟩
end Ld
namespace Ld
open PySem PySem.Spec PyProof.Rows L2 Lx
end Ld
namespace Ld
open PySem PySem.Spec PyProof.Rows L2 Lx
theorem vt_cutT {K : PySem.W.Frag} {Γ : List Cell} {Θ : List Tmp} {t : TT} {Q : List Cell → Bool → Prop} (b : Bool) (h : VT K Γ Θ t fun Γ1 c => c = b ∧ Γ1 = Γ) (q : Q Γ b) : VT K Γ Θ t Q := vt_mono h fun Γ1 c ⟨e1, e2⟩ => by rw [e1, e2]; exact q
end Ld
set_option Elab.async false
set_option linter.all false
set_option maxRecDepth 100000
set_option autoImplicit false
namespace Sh
open PySem PySem.Spec PyProof.Rows L2 Lx Ld
/-! the rows ahead -/
/-! orders of tuples -/
/-! every order -/
end Sh
namespace Sh
open PySem PySem.Spec PyProof.Rows L2 Lx Ld
open PySem.W (DatumOrd Tup Datum listLt dataLe dataLt)
end Sh
namespace Sh
open PySem PySem.Spec PyProof.Rows L2 Lx Ld
end Sh
set_option Elab.async false
set_option linter.all false
set_option maxRecDepth 100000
/-! a def out of a table, called -/
namespace Xa
open PySem PySem.Spec PyProof.Rows L2
def tCallAny (T : Addr → Sp → Prop) (E : L2.St → XK) (tf : TE) (ta : TA) : TE := fun σ H Q => tf σ H fun v H1 => ∃ f sp, v = .ref f ∧ T f sp ∧ ta σ H1 fun vs H2 => sp vs H2 Q (E σ)
structure Callee (X : Cx) (E : L2.St → XK) (f : Addr) (sp : Sp) : Prop where
  ex : ∃ (CX : CXT) (k : Nat) (fd : FuncData) (ps : List Str), FnOk X.prog X.w X.K X.mg X.base CX k f fd ps sp ∧ Room k X.A ∧ PySem.W.keepIn X.K (.ref f) = true ∧ Binds X.K fd ps [] ∧ ∀ σ, PassesAt CX X σ (E σ)
theorem pe_callAny {X : Cx} {T : Addr → Sp → Prop} {E : L2.St → XK} {fe e : Expr} {es : List Expr} {tf : TE} {ta : TA} {pos : Pos} (hT : ∀ f sp, T f sp → Callee X E f sp) (hf : PE X fe tf) (ha : PA X (e :: es) ta)
    (hev : eval (.Call fe (e :: es) [] pos) X.env = (do callWith pos (← eval fe X.env) [] (backTo pos (starEach (e :: es) X.env)) (backToKw pos (keywordEach [] X.env))) := by rfl)
    (he : starEach (e :: es) X.env = (false, eval e X.env) :: starEach es X.env := by rfl) (hpl : (backTo pos (starEach es X.env)).any (·.1) = false := by rfl) : PE X (.Call fe (e :: es) [] pos) (tCallAny T E tf ta) := by
  refine ⟨fun pins s σ H Q I h => ?_⟩
  rw [hev]
  refine wpAny_bind (thn (hf.run pins s σ H _ I h) fun v s1 hv => ?_)
  obtain ⟨x, H1, I1, r1, f, sp, rfl, hT1, q⟩ := hv
  cases r1
  obtain ⟨CX, k, fd, ps, F, hr, hk, hb, hx⟩ := (hT f sp hT1).ex
  refine PySem.W.callWith_K (h₀ := X.base) I1.ok.mod.kin hk (thn (ha.run pos pins s1 σ H1 _ I1 q) fun us s2 ⟨vs, H2, I2, r2, q2⟩ => ⟨I2.kIn, ?_⟩) he hpl
  exact run_fnS F hr hb (hx σ) I2 r2 q2
end Xa
namespace Ld
open PySem PySem.Spec PyProof.Rows L2 Lx
def tRefs : List Addr → TA
  | [] => tNil
  | f :: fs => tCons (tC (.ref f)) (tRefs fs)
theorem tRefs_ok : ∀ (fs : List Addr) (σ : L2.St) (H : Hp) (Q : List V → Hp → Prop), Q (fs.map V.ref) H → tRefs fs σ H Q
  | [], σ, H, Q, q => q
  | f :: fs, σ, H, Q, q => by
    show tRefs fs σ H _
    exact tRefs_ok fs σ H _ q
section
variable {K : PySem.W.Frag} {Γ : List Cell} {Θ : List Tmp}
theorem newRefs {L : Addr → Prop} {S0 S : Hs} {σ : L2.St} {τ : List V} {l : Addr} {xs : List V} (E : Env K L S0 Γ Θ σ τ S) (hl : S.h l = none) : Env K L S0 Γ Θ σ τ ⟨S.b, upd S.h l (.lst xs)⟩ := by
  have kp : ∀ a o, S.h a = some o → upd S.h l (.lst xs) a = some o := fun a o e => by rw [upd_ne (ne_of_none e hl)]; exact e
  refine E.grow ⟨fun _ _ e => e, fun a o _ e => kp a o e, fun a e _ => e, fun a na => ?_⟩ fun a o e => kp a o (E.sub a o e)
  cases e : S.h a with
  | none => exact absurd e na
  | some o =>
    show upd S.h l (.lst xs) a ≠ none
    rw [kp a o e]
    exact fun z => nomatch z
/-- [f, g, ..][i](..) -/
theorem ve_callTab {fs : List Addr} {T : Addr → Sp → Prop} {E : L2.St → XK} {i j : Nat} {f : Addr} {ta : TA} {Q : List Cell → Tmp → Prop} {α : Type} {A : α → List Arg} {pre : α → Prop} {post : α → Dat → Prop} (hz : fs.length ≤ 64) (hi : Γ[i]? = some (.dt (.int j))) (hf : fs[j]? = some f) (hT : T f (spG K A pre post))
    (h : VAX K Γ Θ ta fun Γ2 as => ∃ x, as = A x ∧ pre x ∧ ∀ d, post x d → Q Γ2 (.dt d)) :
    VE K Γ Θ (Xa.tCallAny T E (tOp (rIxL K) (tLst (tRefs fs)) (tVar i)) ta) Q := by
  intro L S0 σ τ S Qv Ev k
  refine tRefs_ok fs σ S.h _ ⟨by rw [List.length_map]; exact Sh.gl_le (by omega), fun l hl => ?_⟩
  have E1 : Env K L S0 Γ Θ σ τ ⟨S.b, upd S.h l (.lst (fs.map V.ref))⟩ := newRefs Ev hl
  obtain ⟨w, h1, h2⟩ := id E1.ok
  obtain ⟨v, ev, dv⟩ := h1 i _ hi
  cases dv
  refine ⟨_, ev, l, fs.map V.ref, (j : Int), .ref f, rfl, rfl, .inl (.of upd_same), Sh.atI_nat (by rw [List.getElem?_map, hf]; rfl), f, _, rfl, hT, ?_⟩
  exact h L S0 σ τ _ _ E1 fun Γ2 S2 vs as E2 p ⟨x, ex, hp, q⟩ => by
    subst ex
    exact ⟨S2.b, x, E2.sub, p, hp, fun v S' d g s hd hq => k Γ2 S' v _ ((E2.grow g s).push hd) (q d hq)⟩
/-- .. in a try, when it raises -/
theorem ss_tryTab {fs : List Addr} {T : Addr → Sp → Prop} {α : Type} {A : α → List Arg} {pre : α → Prop} {C : α → Addr} {c : Value} {i n j : Nat} {f : Addr} {idx : Addr → Option Int} {args : TA} {R : DE} (hn : n < Γ.length) (hz : fs.length ≤ 64) (hi : Γ[i]? = some (.dt (.int j))) (hf : fs[j]? = some f) (hT : T f (spR K A pre C))
    (h : ∀ ss, VAX K Γ (srcT ss) args fun Γ1 as => ∃ x m, as = A x ∧ pre x ∧ PySem.W.exmOne K (.ref (C x)) c = some true ∧ idx (C x) = some m ∧ R.rt Γ1 (.tuple [.str "refused", .int m])) :
    VSs K Γ (fun D σ H => tRet (Xa.tCallAny T (fun σ' cls d H' => L2.wAs K c n (fun a cl d => tRet (tCall (spE idx a cl d) [] E0 (tCons (tVar n) tNil))) (fun _ _ _ _ => False) D cls d σ' H') (tOp (rIxL K) (tLst (tRefs fs)) (tVar i)) args) D σ H) R := fun ss L S0 σ τ S D E kn kr kb kc => by
  refine tRefs_ok fs σ S.h _ ⟨by rw [List.length_map]; exact Sh.gl_le (by omega), fun l hl => ?_⟩
  have E1 := newRefs (xs := fs.map V.ref) E hl
  obtain ⟨w, h1, h2⟩ := id E1.ok
  obtain ⟨v, ev, dv⟩ := h1 i _ hi
  cases dv
  refine ⟨_, ev, l, fs.map V.ref, (j : Int), .ref f, rfl, rfl, .inl (.of upd_same), Sh.atI_nat (by rw [List.getElem?_map, hf]; rfl), f, _, rfl, hT, ?_⟩
  refine h ss L S0 σ τ _ _ E1 fun Γ1 S1 vs as E1 p ⟨x, m, ex, hp, hc, hn', hq⟩ => ?_
  subst ex
  refine ⟨S1.b, x, E1.sub, p, hp, fun S' g s => ⟨true, hc, fun _ a ha => ?_, fun z => nomatch z⟩⟩
  have hl : n < σ.length := by rw [E.len]; exact hn
  refine ⟨.ref a, List.getElem?_set_self hl, ?_⟩
  refine ⟨rfl, ha, rfl, C x, m, rfl, hn', S'.b, s, fun v S2 g2 s2 hd => ?_⟩
  exact kr Γ1 σ S2 v _ (E1.grow (g.trans0 g2) s2) hd hq
end
end Ld
set_option Elab.async false
set_option linter.all false
set_option maxRecDepth 100000
namespace Sh
open PySem PySem.Spec PyProof.Rows L2 Lx Ld
/-! things that are no rows -/
def isI : Dat → Bool
  | .int _ => true
  | _ => false
def isK : Dat → Bool
  | .dict _ => false
  | _ => true
def oddL : List Dat := [.none, .int 5, .list [.int 1, .int 2], .tuple [.int 1, .int 1], .tuple [.int 1, .str "2"], .tuple [.bool true, .int 2], .tuple ((List.range 25).map fun i => .int (i : Nat)), .tuple [.tuple [.int 1]], .tuple [.int 0, .bool false]]
end Sh
namespace RZ
open PySem PySem.Spec PyProof.Rows L2
/-- len(set(l)), ints that may be alike -/
def tLenSetG (K : PySem.W.Frag) (ta : TE) : TE := fun σ H Q => ta σ H fun x H1 => ∃ (l : Addr) (ns : List Int), x = .ref l ∧ SqL K H1 l (ns.map V.int) ∧ ns.length ≤ 4000 ∧ Q (.int ((firstMet (fun i => ns.getD i 0) ns.length).length : Nat)) H1
theorem pe_lenSetG {X : Cx} {a : Expr} {ta : TE} {p p2 q pos : Pos} (hg : Gl X "len") (hm : X.mg "len" = none) (hg2 : Gl X "set") (hm2 : X.mg "set" = none) (ha : PE X a ta) (hc : X.calm = true := by rfl)
    (na : starEach [a] X.env = (false, eval a X.env) :: starEach [] X.env := by rfl) : PE X (.Call (.Name "len" p) [.Call (.Name "set" p2) [a] [] q] [] pos) (tLenSetG X.K ta) := by
  refine ⟨fun pins s σ H Q I h => ?_⟩
  refine Call_ (ld_blt I hg hm PySem.boot_len ?_)
  refine callWith_builtin1 (args_cons ?_ rfl) rfl rfl
  refine Call_ (ld_blt I hg2 hm2 boot_set ?_)
  refine callWith_type1 (args_cons (thn (ha.run pins s σ H _ I h) fun v s1 ⟨x, H1, I1, r1, q1⟩ => args_nil ?_) na) na rfl
  obtain ⟨l, ns, rfl, hq, hl, q1⟩ := q1
  cases r1
  obtain ⟨its, r, pl, hz⟩ := I1.list hq
  have hlen : its.toArray.size = ns.length := by rw [List.size_toArray, ← r.length, List.length_map]
  refine call_set_list (I1.ok.hd hc) pl.isList (by simpa using intsAre_vals r) (by rw [hlen]; unfold scanBound; omega) fun h' tk hS hk => ?_
  refine args_nil ?_
  rw [hlen] at hS
  obtain ⟨o, es, ep, t, ho, hex, hd, _, _, _, hf, hn⟩ := hS
  have I2 : Inv X pins σ H1 { s1 with heap := h', toks := tk } := I1.kept fun b o e => hk b o (Heap.lt_size e) e
  have hle := firstMet_length_le (fun i => ns.getD i 0) ns.length
  exact call_len_set ho hex hd hf (by rw [hn] <;> omega) ⟨.int _, H1, I2.tok _, ⟨_, by rw [hn]⟩, q1⟩
end RZ
namespace Ld
open PySem PySem.Spec PyProof.Rows L2 Lx
theorem ve_lenSetG {K : PySem.W.Frag} {Γ : List Cell} {Θ : List Tmp} {ta : TE} {Q : List Cell → Tmp → Prop} (h : VE K Γ Θ ta fun Γ1 x => ∃ ns : List Int, rd Γ1 x (.list (ns.map .int)) ∧ ns.length ≤ 4000 ∧ Q Γ1 (.dt (.int ((firstMet (fun i => ns.getD i 0) ns.length).length : Nat)))) : VE K Γ Θ (RZ.tLenSetG K ta) Q := fun L S0 σ τ S Qv E k => h L S0 σ τ S _ E fun Γ1 S1 v x E1 ⟨ns, hx, h2, q⟩ => by
  obtain ⟨a, e, h⟩ := intsL E1 hx
  exact ⟨a, ns, e, h, h2, k Γ1 S1 _ _ (E1.pop.push (.int _)) q⟩
end Ld
namespace Ld
open PySem PySem.Spec PyProof.Rows L2 Lx
section
variable {P : Program} {w : World} {K : PySem.W.Frag} {mg : Str → Option Value} {base : Heap}
theorem ok_Rd {α : Type} {x qual : Str} {st : Stmt} {dvs : List V} {f : Addr} {fd : FuncData} {N ps : List Str} {k : Nat} {Ar : α → List Arg} {pre : α → Prop} {C : α → Addr} (F : FunD K x qual (defArgs st) (defBody st) (defScope st) dvs [] f fd) (Sc : FnScope N ps (defScope st)) (hl : ∀ x, (Ar x).length = ps.length) (hN : ps.length ≤ N.length)
    (hb : ∀ (cdv : Value) (A : Around) (outer : List PySem.Env) (s : Shared) (H : Hp) (E : XK), Room k (A.deeper (envOfC qual (defScope st) s.heap.objs.size f cdv)) →
      ∃ t, PSs (BxN P w K mg base N qual st f cdv A outer s H E) (defBody st) t ∧ ∀ x S0, pre x → XF E L0 S0 (C x) → VSr K L0 S0 (cells0 N ((Ar x).map Arg.cell)) t) : FnOk P w K mg base (L2N.CX P w) (k + 1) f fd ps (spR K Ar pre C) := by
  refine F.ok Sc (fun vs H Q E h => ?_) (fun cdv A outer s H vs Q E hr h => ?_)
  · obtain ⟨B, x, _, p, hp, _⟩ := h
    rw [p.len, hl x]
  · obtain ⟨t, ht, hv⟩ := hb cdv A outer s H E hr
    obtain ⟨B, x, sub, p, hp, q⟩ := h
    have hlv : vs.length ≤ N.length := by rw [p.len, hl x]; exact hN
    exact ⟨t, ht, hv x ⟨B, H⟩ hp q [] (L2.start N vs) [] ⟨B, H⟩ _ (env_start sub p hlv)⟩
structure CalRD (P : Program) (w : World) (K : PySem.W.Frag) (mg : Str → Option Value) (base : Heap) (k : Nat) (x : Str) (ps : List Str) (sp : Sp) (d : Int) (f : Addr) (fd : FuncData) : Prop where
  G : FnOk P w K mg base (L2N.CX P w) k f fd ps sp
  g : mg x = some (.ref f)
  kp : PySem.W.keepIn K (.ref f) = true
  b0 : ∃ ds, Vals [] ds ∧ Binds K fd ps ds
  b1 : ∃ ds, Vals [V.int d] ds ∧ Binds K fd ps ds
theorem DfD.calR {k : Nat} {x : Str} {st : Stmt} {ps : List Str} {sp : Sp} {d : Int} {f : Addr} {fd : FuncData} (D : DfD K mg x st ps d f fd) (G : FnOk P w K mg base (L2N.CX P w) k f fd ps sp) : CalRD P w K mg base k x ps sp d f fd := ⟨G, D.g, D.F.kp, D.b0, D.b1⟩
end
theorem er_callD {K : PySem.W.Frag} {L : Addr → Prop} {S0 : Hs} {Γ : List Cell} {Θ : List Tmp} {α : Type} {A : α → List Arg} {pre : α → Prop} {C : α → Addr} {E : XK} {d : Int} {t : TA} (h : VAX K Γ Θ t fun Γ1 as => ∃ x, as ++ [.dt (.int d)] = A x ∧ pre x ∧ XF E L S0 (C x)) : VEr K L S0 Γ Θ (L2.tCallSD (spR K A pre C) [V.int d] (fun _ => E) t) := fun σ τ S Qv E0 => h L S0 σ τ S _ E0 fun Γ1 S1 vs as E1 p ⟨x, ex, hp, hE⟩ => by
  refine ⟨S1.b, x, E1.sub, ?_, hp, fun S' g s => hE S' (E1.gr.trans0 g) s⟩
  rw [← ex]
  exact argsOk_app p (.cons (.int d) .nil)
end Ld
namespace Sh
open PySem PySem.Spec PyProof.Rows L2 Lx Ld
/-- numbers that are none, and what they had to be within -/
def oddN : List (Dat × Int) := [(.none, 24), (.int (-1), 24), (.int 25, 24), (.str "1", 24), (.bool true, 24), (.tuple [.int 1], 24), (.none, 9), (.int (-1), 9), (.int 10, 9), (.str "1", 9), (.bool true, 9)]
end Sh
set_option Elab.async false
set_option linter.all false
set_option maxRecDepth 100000
namespace Xa
open PySem PySem.Spec PyProof.Rows L2
def Tab (l : List (Addr × Sp)) (f : Addr) (sp : Sp) : Prop := (f, sp) ∈ l
def CalleeAll (X : Cx) (E : L2.St → XK) (l : List (Addr × Sp)) : Prop := ∀ f sp, Tab l f sp → Callee X E f sp
section
variable {X : Cx} {E : L2.St → XK} {l : List (Addr × Sp)} {f : Addr} {sp : Sp} {k : Nat} {fd : FuncData} {ps : List Str}
theorem cnil : CalleeAll X E [] := fun _ _ h => nomatch h
theorem ccons (h : Callee X E f sp) (r : CalleeAll X E l) : CalleeAll X E ((f, sp) :: l) := fun f' sp' hm => by
  rcases List.mem_cons.mp hm with e | hm
  · cases e
    exact h
  · exact r f' sp' hm
theorem cal0 (F : FnOk X.prog X.w X.K X.mg X.base CX0 k f fd ps sp) (hr : Room k X.A) (hk : PySem.W.keepIn X.K (.ref f) = true) (hb : Binds X.K fd ps []) : Callee X E f sp := ⟨CX0, k, fd, ps, F, hr, hk, hb, fun σ _ _ _ _ _ _ c => False.elim c⟩
theorem calW {W : WX} (F : FnOk X.prog X.w X.K X.mg X.base (L2N.CX X.prog X.w) k f fd ps sp) (hr : Room k X.A) (hk : PySem.W.keepIn X.K (.ref f) = true) (hb : Binds X.K fd ps []) (tk : L2N.Takes X W) : Callee X (fun σ => WE W σ) f sp := ⟨_, k, fd, ps, F, hr, hk, hb, fun σ => L2N.passAt tk σ⟩
end
end Xa
namespace Ld
open PySem PySem.Spec PyProof.Rows L2 Lx
section
variable {K : PySem.W.Frag} {Γ : List Cell} {Θ : List Tmp}
/-- a try's body: if c: return ..; return .. -/
theorem ss_tryIf {tt : TT} {X Y : Ends → TE} {R : DE} (b : Bool) (h : ∀ ss, VT K Γ (srcT ss) tt fun Γ1 c => c = b ∧ Γ1 = Γ) (q1 : b = true → VSs K Γ (fun D σ H => tRet (X D) D σ H) R) (q2 : b = false → VSs K Γ (fun D σ H => tRet (Y D) D σ H) R) :
    VSs K Γ (fun D σ H => tSeq (tIfS tt (tRet (X D)) tNext) (tRet (Y D)) D σ H) R := fun ss L S0 σ τ S D E kn kr kb kc => by
  refine h ss L S0 σ τ S _ E fun Γ1 S1 c E1 ⟨e1, e2⟩ => ?_
  subst e1
  subst e2
  cases c with
  | true =>
    rw [if_pos rfl]
    exact q1 rfl ss L S0 σ τ S1 D E1 kn kr kb kc
  | false =>
    rw [if_neg Bool.false_ne_true]
    exact q2 rfl ss L S0 σ τ S1 D E1 kn kr kb kc
theorem ss_retD {te : Ends → TE} {R : DE} (h : ∀ D ss, VD K Γ (srcT ss) (te D) R.rt) : VSs K Γ (fun D σ H => tRet (te D) D σ H) R := fun ss L S0 σ τ S D E kn kr kb kc => ss_ret (h D) ss L S0 σ τ S D E kn kr kb kc
/-- f(..), f by its name, told as one of a table -/
theorem ve_callRef {T : Addr → Sp → Prop} {E : L2.St → XK} {f : Addr} {ta : TA} {Q : List Cell → Tmp → Prop} {α : Type} {A : α → List Arg} {pre : α → Prop} {post : α → Dat → Prop} (hT : T f (spG K A pre post))
    (h : VAX K Γ Θ ta fun Γ2 as => ∃ x, as = A x ∧ pre x ∧ ∀ d, post x d → Q Γ2 (.dt d)) :
    VE K Γ Θ (Xa.tCallAny T E (tC (.ref f)) ta) Q := by
  intro L S0 σ τ S Qv Ev k
  refine ⟨f, _, rfl, hT, ?_⟩
  exact h L S0 σ τ _ _ Ev fun Γ2 S2 vs as E2 p ⟨x, ex, hp, q⟩ => by
    subst ex
    exact ⟨S2.b, x, E2.sub, p, hp, fun v S' d g s hd hq => k Γ2 S' v _ ((E2.grow g s).push hd) (q d hq)⟩
theorem ss_tryRef {T : Addr → Sp → Prop} {α : Type} {A : α → List Arg} {pre : α → Prop} {C : α → Addr} {c : Value} {n : Nat} {f : Addr} {idx : Addr → Option Int} {args : TA} {R : DE} (hn : n < Γ.length) (hT : T f (spR K A pre C))
    (h : ∀ ss, VAX K Γ (srcT ss) args fun Γ1 as => ∃ x m, as = A x ∧ pre x ∧ PySem.W.exmOne K (.ref (C x)) c = some true ∧ idx (C x) = some m ∧ R.rt Γ1 (.tuple [.str "refused", .int m])) :
    VSs K Γ (fun D σ H => tRet (Xa.tCallAny T (fun σ' cls d H' => L2.wAs K c n (fun a cl d => tRet (tCall (spE idx a cl d) [] E0 (tCons (tVar n) tNil))) (fun _ _ _ _ => False) D cls d σ' H') (tC (.ref f)) args) D σ H) R := fun ss L S0 σ τ S D E kn kr kb kc => by
  refine ⟨f, _, rfl, hT, ?_⟩
  refine h ss L S0 σ τ _ _ E fun Γ1 S1 vs as E1 p ⟨x, m, ex, hp, hc, hn', hq⟩ => ?_
  subst ex
  refine ⟨S1.b, x, E1.sub, p, hp, fun S' g s => ⟨true, hc, fun _ a ha => ?_, fun z => nomatch z⟩⟩
  have hl : n < σ.length := by rw [E.len]; exact hn
  refine ⟨.ref a, List.getElem?_set_self hl, ?_⟩
  refine ⟨rfl, ha, rfl, C x, m, rfl, hn', S'.b, s, fun v S2 g2 s2 hd => ?_⟩
  exact kr Γ1 σ S2 v _ (E1.grow (g.trans0 g2) s2) hd hq
end
end Ld
namespace Sh
open PySem PySem.Spec PyProof.Rows L2 Lx Ld
/-- what is asked: the kind of question, its number, its thing -/
def askA : Nat × Nat × Nat → List Ld.Arg
  | (0, i, j) => [.dt (.int i), .dt (oddL.getD j .none), .dt .none]
  | (1, i, j) => [.dt (.int i), .dt (.tuple [.int j, .none, .int 9]), .dt .none]
  | (2, _, j) => [.dt (.int 4), .dt (oddN.getD j (.none, 0)).1, .dt .none]
  | (3, _, j) => [.dt (.int 4), .dt (.int 3), .dt (oddN.getD (j + 6) (.none, 0)).1]
  | (4, i, _) => [.dt (.int i), .dt (.tuple []), .dt .none]
  | (5, _, _) => [.dt (.int 4), .dt (.int 24), .dt (.int 0)]
  | (_, _, _) => [.dt (.int 3), .dt (.tuple [.int 3, .none, .int (-1)]), .dt .none]
theorem askA_len : ∀ p : Nat × Nat × Nat, (askA p).length = 3
  | (0, _, _) => rfl
  | (1, _, _) => rfl
  | (2, _, _) => rfl
  | (3, _, _) => rfl
  | (4, _, _) => rfl
  | (5, _, _) => rfl
  | (_ + 6, _, _) => rfl
def askP : Nat × Nat × Nat → Prop
  | (0, i, j) => i < 4 ∧ j < 9
  | (1, i, j) => i < 3 ∧ j < 9
  | (2, _, j) => j < 6
  | (3, _, j) => j < 5
  | (4, i, _) => i < 4
  | (_, _, _) => True
def askV : Nat × Nat × Nat → Dat
  | (0, _, _) => .tuple [.str "refused", .int 0]
  | (1, 2, _) => .int 0
  | (1, _, _) => .tuple [.str "refused", .int 4]
  | (2, _, _) => .tuple [.str "refused", .int 7]
  | (3, _, _) => .tuple [.str "refused", .int 3]
  | (4, 0, _) => .list [.int 0]
  | (4, 1, _) => .list []
  | (4, 2, _) => .int 0
  | (4, _, _) => .tuple []
  | (5, _, _) => .int 1
  | (_, _, _) => .tuple [.int (-3), .none, .int 1]
end Sh
set_option Elab.async false
set_option linter.all false
set_option maxRecDepth 100000
namespace Ld
open PySem PySem.Spec PyProof.Rows L2 Lx
section
variable {K : PySem.W.Frag} {mg : Str → Option Value}
theorem fun_of {x : Str} {st : Stmt} {f : Addr} {fd : FuncData} (F : FunD K x x (defArgs st) (defBody st) (defScope st) [] [] f fd) : Fun K x x st f fd := by
  obtain ⟨oc, od, dV, kV, doc, pm, an, cdv, ct, osl, e, lk, hcd, hd, _⟩ := F.ex
  rcases hd with ⟨_, hd⟩ | ⟨hd, _⟩
  · subst hd
    exact ⟨⟨oc, od, kV, doc, pm, an, cdv, ct, osl, e, lk, hcd⟩, F.kp⟩
  · exact absurd rfl hd
theorem Df.of {x : Str} {st : Stmt} {ps : List Str} {f : Addr} {fd : FuncData} (F : FunD K x x (defArgs st) (defBody st) (defScope st) [] [] f fd) (g : mg x = some (.ref f))
    (h : ∀ (kV doc pm : Value) (an : Option Addr) (cdv ct : Value) (us : List Value), us.length = ps.length → bindArgs (PySem.W.fnOf x x (defArgs st) (defBody st) (defScope st) .none kV doc pm an cdv ct) ⟨us, []⟩ = pure (ps.zip us)) : Df K mg x st ps f fd :=
  ⟨fun_of F, g, (fun_of F).binds h⟩
theorem law_sp {H : Hp} {a : Addr} {ns : List Int} (hl : ns.length ≤ 63) (hS : SqL K H a (ns.map V.int)) : spF K (fun ns : List Int => [.sc ns]) (fun ns => ns.length ≤ 63) (fun _ => .bool true) [.ref a] H (fun v _ => v = .bl true) fun _ _ _ => False :=
  ⟨H, ns, Same.refl _, .cons ⟨a, rfl, hS⟩ .nil, hl, fun v S' d _ _ hd e => by
    subst e
    exact dp_bool hd⟩
end
end Ld
set_option Elab.async false
set_option linter.all false
set_option maxRecDepth 100000
set_option autoImplicit false
set_option maxHeartbeats 8000000
namespace Sh
open PySem PySem.Spec PyProof.Rows L2 Lx Ld
local macro_rules | `(tactic| walk_at "n") => `(tactic| first
  | exact nb_nil
  | exact nb_srcT
  | exact nb_app nb_srcT nb_nil
  | (refine nb_dt ?_; walk_at "n")
  | (refine nb_fr ?_; walk_at "n")
  | (refine nb_sc ?_; walk_at "n")
  | (refine nb_arg ?_; walk_at "n")
  | (refine nb_br (by decide) ?_; walk_at "n")
  | (refine nb_app nb_srcT ?_; walk_at "n"))
local macro_rules | `(tactic| fail "walk VE0") => `(tactic| first
  | ((with_reducible apply ve_var); exact rfl)
  | ((with_reducible apply ve_own); exact rfl; exact rfl)
  | ((with_reducible apply ve_scr); exact rfl)
  | ((with_reducible apply ve_ob); exact rfl)
  | (with_reducible refine ve_int ?_)
  | (with_reducible refine ve_bl ?_)
  | (with_reducible refine ve_non ?_)
  | (with_reducible refine ve_str ?_))
local macro_rules | `(tactic| fail "walk VE1") => `(tactic| first
  | (with_reducible refine ve_op ?_)
  | (with_reducible refine ve_isi ?_)
  | (with_reducible refine ve_c1 ?_)
  | (with_reducible refine ve_c2 ?_)
  | (with_reducible refine ve_callLF ?_)
  | (with_reducible refine ve_callL ?_)
  | (with_reducible refine ve_callNL ?_)
  | (with_reducible refine ve_callV ⟨_, isl_ow rfl⟩ ?_))
local macro_rules | `(tactic| fail "walk VE2") => `(tactic| first
  | (with_reducible refine ve_callOrF ?_)
  | (with_reducible refine ve_callF ?_)
  | (with_reducible refine ve_callFd ?_)
  | (with_reducible refine ve_callG ?_)
  | (with_reducible refine ve_callW ?_)
  | (with_reducible refine ve_tup ?_)
  | (with_reducible refine ve_tidxI ?_)
  | (with_reducible refine ve_popAt ⟨_, isl_ow rfl⟩ ?_))
local macro_rules | `(tactic| fail "walk VE3") => `(tactic| first
  | (with_reducible refine ve_pop0 ⟨_, isl_ow rfl⟩ ?_)
  | (with_reducible refine ve_append ⟨_, isl_ow rfl⟩ (vx_of ?_))
  | (with_reducible refine ve_append ⟨_, isl_ln rfl⟩ (vx_of ?_))
  | (with_reducible refine ve_insert ⟨_, isl_ow rfl⟩ (vx_of ?_))
  | (with_reducible refine ve_extend ⟨_, isl_ow rfl⟩ (vx_of ?_))
  | (with_reducible refine ve_indexI ?_)
  | (with_reducible refine ve_lcount ?_)
  | (with_reducible refine ve_remove ⟨_, isl_ln rfl⟩ ?_))
local macro_rules | `(tactic| fail "walk VE4") => `(tactic| first
  | (with_reducible refine ve_remove ⟨_, isl_ow rfl⟩ ?_)
  | (with_reducible refine ve_ifS ?_)
  | (with_reducible refine ve_ifE ?_)
  | (with_reducible refine ve_lst ?_)
  | (with_reducible refine ve_chain ?_)
  | ((with_reducible apply ve_fldSh); assumption; exact rfl)
  | (with_reducible refine ve_split ?_)
  | (with_reducible refine ve_rmp ?_))
local macro_rules | `(tactic| fail "walk VE5") => `(tactic| first
  | (with_reducible refine ve_join ?_)
  | (with_reducible refine ve_dnew ?_)
  | (with_reducible refine ve_dictZip ?_)
  | (with_reducible refine ve_dget ⟨_, rfl⟩ ?_)
  | (with_reducible refine ve_notV ?_)
  | (with_reducible refine ve_notTp ?_)
  | (with_reducible refine ve_andV ?_)
  | (with_reducible refine ve_orV ?_))
local macro_rules | `(tactic| fail "walk VE6") => `(tactic| first
  | (with_reducible refine ve_maxD ?_)
  | (with_reducible refine ve_un rfl ?_)
  | (with_reducible refine ve_lenSet ?_)
  | (with_reducible refine ve_revL ?_)
  | (with_reducible refine ve_slL ?_)
  | (with_reducible refine ve_slT ?_)
  | (with_reducible refine ve_slS ?_)
  | (with_reducible refine ve_lstRg1 ?_))
local macro_rules | `(tactic| fail "walk VE7") => `(tactic| first
  | (with_reducible refine ve_lstRg2 ?_)
  | (with_reducible refine ve_tidxO ?_))
local macro_rules | `(tactic| fail "walk VE") => `(tactic| first | fail "walk VE0" | fail "walk VE1" | fail "walk VE2" | fail "walk VE3" | fail "walk VE4" | fail "walk VE5" | fail "walk VE6" | fail "walk VE7")
local macro_rules | `(tactic| fail "walk VSs0") => `(tactic| first
  | (with_reducible refine ss_seq ?_)
  | (with_reducible refine ss_set fun ss => ?_)
  | (with_reducible refine ss_parT fun ss => ?_)
  | (with_reducible refine ss_setL fun ss => vx_of ?_)
  | (with_reducible refine ss_swap fun ss => ?_)
  | (with_reducible refine ss_asg4 (by decide) fun ss => ?_)
  | (with_reducible refine ss_asgG fun ss => ?_)
  | (with_reducible refine ss_if fun ss => ?_))
local macro_rules | `(tactic| fail "walk VSs1") => `(tactic| first
  | (with_reducible refine ss_ret fun ss => vd_of ?_)
  | (with_reducible refine ss_retN ?_)
  | (with_reducible refine ss_drop fun ss => ?_)
  | (with_reducible refine ss_par fun ss => ?_)
  | (with_reducible refine ss_par3 fun ss => ?_)
  | (with_reducible refine ss_next ?_)
  | (with_reducible refine ss_cont ?_)
  | (with_reducible refine ss_dput fun ss => ?_))
local macro_rules | `(tactic| fail "walk VSs2") => `(tactic| first
  | (with_reducible refine ss_augI ⟨_, rfl⟩ fun ss => ?_)
  | (with_reducible refine ss_augI0 ⟨_, rfl⟩ fun ss => ?_))
local macro_rules | `(tactic| fail "walk VSs") => `(tactic| first | fail "walk VSs0" | fail "walk VSs1" | fail "walk VSs2")
local macro_rules | `(tactic| fail "walk VAX") => `(tactic| first
  | (with_reducible refine vax_cons (vx_of ?_))
  | (with_reducible refine vax_star ?_)
  | (with_reducible refine vax_nil ?_))
local macro_rules | `(tactic| fail "walk VX") => `(tactic| first
  | (with_reducible refine vx_of ?_))
local macro_rules | `(tactic| fail "walk VT") => `(tactic| first
  | (with_reducible refine vt_B ?_)
  | (with_reducible refine vt_test ?_)
  | (with_reducible refine vt_and ?_)
  | (with_reducible refine vt_or ?_)
  | (with_reducible refine vt_not ?_)
  | (with_reducible refine vt_yes ?_)
  | (with_reducible refine vt_truL ?_)
  | (with_reducible refine vt_truTp ?_))
local macro_rules | `(tactic| fail "walk VD") => `(tactic| first
  | (with_reducible refine vd_of ?_))
local macro_rules | `(tactic| fail "walk R2V0") => `(tactic| first
  | (with_reducible refine r2_inS ?_)
  | (with_reducible refine r2_notInS ?_)
  | (with_reducible refine r2_ii ?_)
  | (with_reducible refine r2_ib ?_)
  | (with_reducible refine r2_eqI ?_)
  | (with_reducible refine r2_neI ?_)
  | (with_reducible refine r2_ic (by first | (show (_ : Int) < _; omega) | (unfold L2.CMul; omega) | (unfold L2.CDiv; omega) | (unfold L2.CPow; omega)) ?_)
  | (with_reducible refine r2_isB ?_))
local macro_rules | `(tactic| fail "walk R2V1") => `(tactic| first
  | (with_reducible refine r2_notB ?_)
  | (with_reducible refine r2_isN rd_dt ?_)
  | (with_reducible refine r2_notN rd_dt ?_)
  | (with_reducible refine r2_eqW ?_)
  | (with_reducible refine r2_eqWW ?_)
  | (with_reducible refine r2_eqB ?_)
  | (with_reducible refine r2_neB ?_))
local macro_rules | `(tactic| fail "walk R2V") => `(tactic| first | fail "walk R2V0" | fail "walk R2V1")
local macro_rules | `(tactic| fail "walk C1V0") => `(tactic| first
  | (with_reducible refine c1_strS ?_)
  | (with_reducible refine c1_strI (by omega) ?_)
  | (with_reducible refine c1_len (sq_l rd_dt) ?_)
  | (with_reducible refine c1_len (sq_l rd_fr) ?_)
  | (with_reducible refine c1_len sq_t ?_)
  | (with_reducible refine c1_len (sq_l (rd_ow rfl)) ?_)
  | (with_reducible refine c1_len (sq_l (rd_ln rfl)) ?_)
  | (with_reducible refine c1_tupL (rd_ow rfl) ?_))
local macro_rules | `(tactic| fail "walk C1V1") => `(tactic| first
  | (with_reducible refine c1_listL (rd_ow rfl) ?_)
  | (with_reducible refine c1_lenS ?_)
  | (with_reducible refine c1_intB ?_)
  | (with_reducible refine c1_intI ?_)
  | (with_reducible refine c1_tupT ?_)
  | (with_reducible refine c1_tupL rd_dt ?_)
  | (with_reducible refine c1_tupL rd_fr ?_)
  | (with_reducible refine c1_listT ?_))
local macro_rules | `(tactic| fail "walk C1V2") => `(tactic| first
  | (with_reducible refine c1_listL rd_dt ?_)
  | (with_reducible refine c1_listL rd_fr ?_))
local macro_rules | `(tactic| fail "walk C1V") => `(tactic| first | fail "walk C1V0" | fail "walk C1V1" | fail "walk C1V2")
local macro_rules | `(tactic| fail "walk VI0") => `(tactic| first
  | (with_reducible refine vi_str ?_)
  | (with_reducible refine vi_list ?_)
  | (with_reducible refine vi_tup ?_)
  | (with_reducible refine vi_rng1 ?_)
  | (with_reducible refine vi_rng2 ?_)
  | (with_reducible refine vi_enum ?_)
  | (with_reducible refine vi_enumT ?_)
  | (with_reducible refine vi_zip ?_))
local macro_rules | `(tactic| fail "walk VI1") => `(tactic| first
  | (with_reducible refine vi_zipM ?_)
  | (with_reducible refine vi_zipT2 ?_)
  | (with_reducible refine vi_zipLT ?_))
local macro_rules | `(tactic| fail "walk VI") => `(tactic| first | fail "walk VI0" | fail "walk VI1")
local macro_rules | `(tactic| fail "walk VG") => `(tactic| first
  | (with_reducible refine vg_name ?_)
  | (with_reducible refine vg_pair ?_)
  | (with_reducible refine vg_three ?_)
  | (with_reducible refine vg_nest ?_))
local macro_rules | `(tactic| fail "walk AsB") => `(tactic| first
  | (with_reducible refine asb ?_))
local macro_rules | `(tactic| fail "walk C2V") => `(tactic| first
  | (with_reducible refine c2_max ?_)
  | (with_reducible refine c2_min ?_))
local macro_rules | `(tactic| fail "walk VO") => `(tactic| first
  | (with_reducible refine vo_none ?_)
  | (with_reducible refine vo_some ?_))
local macro_rules | `(tactic| fail "walk Fz") => `(tactic| first
  | (with_reducible refine fz_dt ?_)
  | (with_reducible refine fz_fr ?_)
  | ((with_reducible apply fz_br); exact rfl))
local macro_rules | `(tactic| fail "walk Az") => `(tactic| first
  | (with_reducible refine az_dt ?_)
  | (with_reducible refine az_fr ?_)
  | (with_reducible refine az_sc ?_)
  | ((with_reducible apply az_br); exact rfl))
local macro_rules | `(tactic| fail "walk Sto") => `(tactic| first
  | (with_reducible refine sto_dt ?_)
  | (with_reducible refine sto_ob ?_)
  | (with_reducible refine sto_fr ?_)
  | ((with_reducible apply sto_br); exact rfl))
local macro_rules | `(tactic| fail "walk VSt") => `(tactic| first
  | (with_reducible refine st_seqT ?_)
  | (with_reducible refine st_ret fun ss => ?_)
  | (with_reducible refine st_if fun ss => ?_)
  | (with_reducible refine st_of ?_))
local macro_rules | `(tactic| fail "walk gen0") => `(tactic| first
  | (with_reducible refine fl_fr ?_)
  | ((with_reducible apply fl_br); exact rfl)
  | (refine ⟨⟨_, rd_dt⟩, ?_⟩)
  | (refine ⟨⟨_, rd_ow rfl⟩, ?_⟩)
  | (refine ⟨_, _, rfl, kb_ss, ?_⟩)
  | (refine ⟨_, _, rfl, kb_bb, ?_⟩)
  | (with_reducible refine b2 (fun hb => ?_) (fun hb => ?_))
  | (refine ⟨_, _, rfl, kb_tt, ?_⟩))
local macro_rules | `(tactic| fail "walk gen1") => `(tactic| first
  | (refine ⟨_, _, rfl, kb_ii, ?_⟩)
  | (refine ⟨_, _, rfl, kb_ib, ?_⟩)
  | (refine ⟨_, _, rfl, kb_ll, ?_⟩)
  | (refine ⟨_, (rfl : dts _ = some _), gl_le (by simp), ?_⟩)
  | (refine ⟨_, (rfl : Tmp.dt (.int _) = Tmp.dt (.int _)), ?_⟩)
  | (refine ⟨_, (rfl : Tmp.dt (.tuple _) = Tmp.dt (.tuple _)), ?_⟩)
  | (refine ⟨_, (rfl : PyData.list _ = PyData.list _), ?_⟩)
  | (refine ⟨_, (rfl : PyData.tuple _ = PyData.tuple _), ?_⟩))
local macro_rules | `(tactic| fail "walk gen2") => `(tactic| first
  | (refine ⟨_, rd_fr, ?_⟩)
  | (refine ⟨_, rd_dt, ?_⟩)
  | (refine ⟨_, rd_ow rfl, ?_⟩)
  | (refine ⟨⟨_, rfl⟩, ?_⟩)
  | (refine ⟨⟨_, isl_ow rfl⟩, ?_⟩)
  | (refine ⟨⟨_, isl_ln rfl⟩, ?_⟩)
  | (refine ⟨(by intro k z; cases z), _, _, rfl, rfl, ?_⟩)
  | (dsimp only [DE.wn]))
local macro_rules | `(tactic| fail "walk gen3") => `(tactic| first
  | (exact absurd (by assumption) Bool.false_ne_true)
  | (exact absurd (by assumption) Bool.false_ne_true.symm))
local macro_rules | `(tactic| fail "walk gen") => `(tactic| first | fail "walk gen0" | fail "walk gen1" | fail "walk gen2" | fail "walk gen3")
local macro_rules | `(tactic| fail "walk small") => `(tactic| first | (guard_target =~ VI ..; fail "walk VI") | (guard_target =~ VG ..; fail "walk VG") | (guard_target =~ AsB ..; fail "walk AsB") | (guard_target =~ C2V ..; fail "walk C2V") | (guard_target =~ VO ..; fail "walk VO") | (guard_target =~ Fz ..; fail "walk Fz") | (guard_target =~ Az ..; fail "walk Az") | (guard_target =~ Sto ..; fail "walk Sto") | (guard_target =~ VSt ..; fail "walk VSt"))
local macro_rules | `(tactic| fail "walk") => `(tactic| first | (guard_target =~ VE ..; fail "walk VE") | (guard_target =~ VSs ..; fail "walk VSs") | (guard_target =~ VAX ..; fail "walk VAX") | (guard_target =~ VX ..; fail "walk VX") | (guard_target =~ VT ..; fail "walk VT") | (guard_target =~ VD ..; fail "walk VD") | (guard_target =~ R2V ..; fail "walk R2V") | (guard_target =~ C1V ..; fail "walk C1V") | fail "walk small" | fail "walk gen" | fail "no step")
local macro_rules | `(tactic| walk_at "v") => `(tactic| fail "walk")
local macro_rules | `(tactic| walk_at "s") => `(tactic| (try dsimp only [DE.wn, putC, Cell.put, List.getElem?_cons_zero, List.getElem?_cons_succ, cxOf, cells0, List.map, Arg.cell, Arg.tmp, List.length, List.replicate, List.append, List.cons_append, List.nil_append, List.set, Nat.reduceAdd, Nat.reduceSub, List.reduceReplicate, clr, List.set_cons_zero, List.set_cons_succ]))
local macro_rules | `(tactic| walk_at "w") => `(tactic| (repeat' fail "walk"))
section
variable {P : Program} {w : World} {K : PySem.W.Frag} {mg : Str → Option Value} {base : Heap}
theorem ok__law_which {f : Addr} {fd : FuncData} (D : Df K mg "_law_which" s__law_which ["_law_e"] f fd) {C_NoRow : Addr} (g_NoRow : mg "NoRow" = some (.ref C_NoRow)) {C_NoShelf : Addr} (g_NoShelf : mg "NoShelf" = some (.ref C_NoShelf)) {C_NoLine : Addr} (g_NoLine : mg "NoLine" = some (.ref C_NoLine)) {C_NoPlaces : Addr} (g_NoPlaces : mg "NoPlaces" = some (.ref C_NoPlaces)) {C_Marked : Addr} (g_Marked : mg "Marked" = some (.ref C_Marked)) {C_NoCounts : Addr} (g_NoCounts : mg "NoCounts" = some (.ref C_NoCounts)) {C_NoLetting : Addr} (g_NoLetting : mg "NoLetting" = some (.ref C_NoLetting)) {C_TooMany : Addr} (g_TooMany : mg "TooMany" = some (.ref C_TooMany)) {C_NoMove : Addr} (g_NoMove : mg "NoMove" = some (.ref C_NoMove)) {C_NoText : Addr} (g_NoText : mg "NoText" = some (.ref C_NoText)) {C_NoNumber : Addr} (g_NoNumber : mg "NoNumber" = some (.ref C_NoNumber)) {C_Nothing : Addr} (g_Nothing : mg "Nothing" = some (.ref C_Nothing)) (m_isinstance : mg "isinstance" = none) (m_ValueError : mg "ValueError" = none) {idx : Addr → Option Int} (hK : ∀ X n, idx X = some n → KitF K X n [C_NoRow, C_NoShelf, C_NoLine, C_NoPlaces, C_Marked, C_NoCounts, C_NoLetting, C_TooMany, C_NoMove, C_NoText, C_NoNumber, C_Nothing]) : Xa.FnE P w K mg base 1 f fd ["_law_e"] (spE idx) := by
  obtain ⟨oc, od, kV, doc, pm, an, cdv, ct, osl, rfl, lk, hcd⟩ := D.F.ex
  refine Xa.fn_ofE lk hcd sc__law_which (fun a c d vs H Q E h => by obtain ⟨rfl, _⟩ := h; rfl) fun A outer s H vs Q E p cls d hot hz hr h => ?_
  obtain ⟨rfl, hn, rfl, X, n, rfl, hi, B, sub, q⟩ := h
  have kf := hK X n hi
  obtain ⟨hh, vs0, hv0, hc0⟩ := hot
  have ci : CallR (L2H.cxH CX0 P w K mg base ["_law_e", "_law_own"] "_law_which" (defScope s__law_which) f cdv A outer s H E p) (.builtin "isinstance") (rIsE K X p.1) := Xa.call_isX (a := p.1) (oe := p.2) (List.mem_singleton.mpr rfl) kf.e hz.zc ⟨vs0, hv0⟩
  refine ⟨_, (pss_cons (ps_set (i := 1) sc__law_which.nd rfl (Or.inl rfl) (pe_lst (pa_cons (pe_callB ci (by rfl) m_isinstance (by decide +kernel) (pa_cons (pv 0) (pa_cons (pe_glob (v := .ref C_NoRow) (by rfl) g_NoRow rfl) pa_nil))) (pa_cons (pe_callB ci (by rfl) m_isinstance (by decide +kernel) (pa_cons (pv 0) (pa_cons (pe_glob (v := .ref C_NoShelf) (by rfl) g_NoShelf rfl) pa_nil))) (pa_cons (pe_callB ci (by rfl) m_isinstance (by decide +kernel) (pa_cons (pv 0) (pa_cons (pe_glob (v := .ref C_NoLine) (by rfl) g_NoLine rfl) pa_nil))) (pa_cons (pe_callB ci (by rfl) m_isinstance (by decide +kernel) (pa_cons (pv 0) (pa_cons (pe_glob (v := .ref C_NoPlaces) (by rfl) g_NoPlaces rfl) pa_nil))) pa_nil))))))
      (pss_cons (ps_expr (pe_bm PySem.F.plainAttrs_list PySem.F.slot_list_extend PySem.F.type_list_extend mt_extend (pv 1) (pa_cons (pe_lst (pa_cons (pe_callB ci (by rfl) m_isinstance (by decide +kernel) (pa_cons (pv 0) (pa_cons (pe_glob (v := .ref C_Marked) (by rfl) g_Marked rfl) pa_nil))) (pa_cons (pe_callB ci (by rfl) m_isinstance (by decide +kernel) (pa_cons (pv 0) (pa_cons (pe_glob (v := .ref C_NoCounts) (by rfl) g_NoCounts rfl) pa_nil))) (pa_cons (pe_callB ci (by rfl) m_isinstance (by decide +kernel) (pa_cons (pv 0) (pa_cons (pe_glob (v := .ref C_NoLetting) (by rfl) g_NoLetting rfl) pa_nil))) (pa_cons (pe_callB ci (by rfl) m_isinstance (by decide +kernel) (pa_cons (pv 0) (pa_cons (pe_glob (v := .ref C_TooMany) (by rfl) g_TooMany rfl) pa_nil))) pa_nil))))) pa_nil)))
      (pss_cons (ps_expr (pe_bm PySem.F.plainAttrs_list PySem.F.slot_list_extend PySem.F.type_list_extend mt_extend (pv 1) (pa_cons (pe_lst (pa_cons (pe_callB ci (by rfl) m_isinstance (by decide +kernel) (pa_cons (pv 0) (pa_cons (pe_glob (v := .ref C_NoMove) (by rfl) g_NoMove rfl) pa_nil))) (pa_cons (pe_callB ci (by rfl) m_isinstance (by decide +kernel) (pa_cons (pv 0) (pa_cons (pe_glob (v := .ref C_NoText) (by rfl) g_NoText rfl) pa_nil))) (pa_cons (pe_callB ci (by rfl) m_isinstance (by decide +kernel) (pa_cons (pv 0) (pa_cons (pe_glob (v := .ref C_NoNumber) (by rfl) g_NoNumber rfl) pa_nil))) (pa_cons (pe_callB ci (by rfl) m_isinstance (by decide +kernel) (pa_cons (pv 0) (pa_cons (pe_glob (v := .ref C_Nothing) (by rfl) g_Nothing rfl) pa_nil))) pa_nil))))) pa_nil)))
      (pss_cons (ps_if (PW.pt (pw_or (pt_cmpR op_ne (pe_bm PySem.F.plainAttrs_list PySem.F.slot_list_count PySem.F.type_list_count Xa.mt_lcountV (pv 1) (pa_cons pe_bl pa_nil)) pe_int (nomark _)) (pw_or1 (pt_not (pt_val (pe_callB ci (by rfl) m_isinstance (by decide +kernel) (pa_cons (pv 0) (pa_cons (pe_bltn (v := .ty "ValueError") (by rfl) m_ValueError (by decide +kernel) rfl) pa_nil)))))))) (pss_one (ps_ret (pe_tupF (pa_cons pe_str (pa_cons (pe_un un_neg pe_int) pa_nil))))) pss_nil)
      (pss_one (ps_ret (pe_tupF (pa_cons pe_str (pa_cons (pe_bm PySem.F.plainAttrs_list PySem.F.slot_list_index PySem.F.type_list_index mt_index (pv 1) (pa_cons pe_bl pa_nil)) pa_nil))))))))), ?_⟩
  have sz : ∀ {n : Nat}, n ≤ 12 → n ≤ sizeLine := fun h => Sh.gl_le (by omega)
  refine is_rd rfl (kf.o 0 _ rfl) (is_rd rfl (kf.o 1 _ rfl) (is_rd rfl (kf.o 2 _ rfl) (is_rd rfl (kf.o 3 _ rfl) ⟨sz (by simp), fun l hl => ?_⟩)))
  refine ⟨_, rfl, .inl ⟨rfl, _, .of upd_same⟩, is_rd rfl (kf.o 4 _ rfl) (is_rd rfl (kf.o 5 _ rfl) (is_rd rfl (kf.o 6 _ rfl) (is_rd rfl (kf.o 7 _ rfl) ⟨sz (by simp), fun l2 hl2 => ?_⟩)))⟩
  have n12 : l ≠ l2 := fun e => by rw [← e, upd_same] at hl2; cases hl2
  refine ⟨l, l2, _, _, rfl, rfl, by rw [upd_ne n12, upd_same], upd_same, sz (by simp), ?_⟩
  refine ⟨_, rfl, .inl ⟨rfl, _, .of upd_same⟩, is_rd rfl (kf.o 8 _ rfl) (is_rd rfl (kf.o 9 _ rfl) (is_rd rfl (kf.o 10 _ rfl) (is_rd rfl (kf.o 11 _ rfl) ⟨sz (by simp), fun l3 hl3 => ?_⟩)))⟩
  have n13 : l ≠ l3 := fun e => by rw [← e, upd_same] at hl3; cases hl3
  refine ⟨l, l3, _, _, rfl, rfl, by rw [upd_ne n13, upd_same], upd_same, sz (by simp), ?_⟩
  have hn0 := kf.n0
  have hn1 := kf.n1
  have hcs : n = 0 ∨ n = 1 ∨ n = 2 ∨ n = 3 ∨ n = 4 ∨ n = 5 ∨ n = 6 ∨ n = 7 ∨ n = 8 ∨ n = 9 ∨ n = 10 ∨ n = 11 := by omega
  refine ⟨_, rfl, .inl ⟨rfl, _, .of upd_same⟩, l, _, _, rfl, rfl, .of upd_same, rfl, rfl, ?_⟩
  refine ⟨rfl, _, rfl, ?_⟩
  have fin : ∀ {j : Nat} {bs : List V} {H1 : Hp}, n = (j : Int) → j < 12 → H1 l = some (.lst bs) → bs.all flatV = true → bs[j]? = some (.bl true) → (bs.take j).all (fun z => !eqV z (.bl true)) = true → (∀ a o, H a = some o → H1 a = some o) →
      tRet (tTupF (tCons (tC (V.str "refused")) (tCons (tBM K "list" (rIndex K) (tVar 1) (tCons (tC (V.bl true)) tNil)) tNil))) { nx := fun _ H' => Q .non H', rt := Q } (List.set (L2.start ["_law_e", "_law_own"] [V.ref p.fst]) 1 (some (V.ref l))) H1 := fun {j bs H1} e hj h1 h2 h3 h4 hk => by
    refine ⟨_, rfl, .inl ⟨rfl, _, .of h1⟩, l, bs, .bl true, j, .bl true, rfl, rfl, .of h1, rfl, h2, h3, rfl, idx_pre h4, ?_⟩
    refine ⟨sz (by simp), ?_⟩
    intro p2 o2 hd2 hp2
    have hB2 : B p2 = none := by
      cases e2 : B p2 with
      | none => rfl
      | some u => rw [hk p2 u (sub p2 u e2)] at hp2; cases hp2
    have keepB : ∀ a o, H a = some o → upd H1 p2 (.frz o2 (.tup [.str "refused", .int (j : Int)])) a = some o := fun a o ea => by
      rw [upd_ne (ne_of_none (hk a o ea) hp2)]
      exact hk a o ea
    refine q (.ref p2) ⟨upd B p2 (.frz o2 (.tup [.str "refused", .int (j : Int)])), upd H1 p2 (.frz o2 (.tup [.str "refused", .int (j : Int)]))⟩ ⟨fun a o ea => ?_, fun a o _ ea => keepB a o ea, fun a ea na => ?_, fun a na => ?_⟩ (fun a o ea => ?_) ?_
    · show upd B p2 _ a = some o
      rw [upd_ne (ne_of_none ea hB2)]
      exact ea
    · show upd B p2 _ a = none
      by_cases e3 : a = p2
      · subst e3
        cases e4 : H a with
        | none => exact absurd e4 na
        | some u => rw [hk a u e4] at hp2; cases hp2
      · rw [upd_ne e3]
        exact ea
    · cases e4 : H a with
      | none => exact absurd e4 na
      | some u =>
        show upd H1 p2 _ a ≠ none
        rw [keepB a u e4]
        exact fun z => nomatch z
    · have ea : upd B p2 (.frz o2 (.tup [.str "refused", .int (j : Int)])) a = some o := ea
      show upd H1 p2 _ a = some o
      by_cases e3 : a = p2
      · subst e3
        rw [upd_same] at ea ⊢
        exact ea
      · rw [upd_ne e3] at ea
        exact keepB a o (sub a o ea)
    · rw [e]
      exact .tup hd2 upd_same (.cons (.str _) (.cons (.int _) .nil))
  have h2n : H l2 = none := by rw [upd_ne n12.symm] at hl2; exact hl2
  have h3n : H l3 = none := by
    rw [upd_ne n13.symm] at hl3
    by_cases e3 : l3 = l2
    · rw [e3, upd_same] at hl3; cases hl3
    · rw [upd_ne e3, upd_ne n13.symm] at hl3; exact hl3
  have kp : ∀ (x1 x2 x3 x4 x5 : HO) a o, H a = some o → upd (upd (upd (upd (upd H l x1) l2 x2) l x3) l3 x4) l x5 a = some o := fun x1 x2 x3 x4 x5 a o ea => by
    rw [upd_ne (ne_of_none ea hl), upd_ne (ne_of_none ea h3n), upd_ne (ne_of_none ea hl), upd_ne (ne_of_none ea h2n), upd_ne (ne_of_none ea hl)]
    exact ea
  rcases hcs with rfl | rfl | rfl | rfl | rfl | rfl | rfl | rfl | rfl | rfl | rfl | rfl
  · refine ite_f (by decide) (is_rdV rfl kf.v ⟨true, rfl, ite_f rfl ?_⟩)
    exact fin (j := 0) rfl (by decide) upd_same rfl rfl rfl (kp _ _ _ _ _)
  · refine ite_f (by decide) (is_rdV rfl kf.v ⟨true, rfl, ite_f rfl ?_⟩)
    exact fin (j := 1) rfl (by decide) upd_same rfl rfl rfl (kp _ _ _ _ _)
  · refine ite_f (by decide) (is_rdV rfl kf.v ⟨true, rfl, ite_f rfl ?_⟩)
    exact fin (j := 2) rfl (by decide) upd_same rfl rfl rfl (kp _ _ _ _ _)
  · refine ite_f (by decide) (is_rdV rfl kf.v ⟨true, rfl, ite_f rfl ?_⟩)
    exact fin (j := 3) rfl (by decide) upd_same rfl rfl rfl (kp _ _ _ _ _)
  · refine ite_f (by decide) (is_rdV rfl kf.v ⟨true, rfl, ite_f rfl ?_⟩)
    exact fin (j := 4) rfl (by decide) upd_same rfl rfl rfl (kp _ _ _ _ _)
  · refine ite_f (by decide) (is_rdV rfl kf.v ⟨true, rfl, ite_f rfl ?_⟩)
    exact fin (j := 5) rfl (by decide) upd_same rfl rfl rfl (kp _ _ _ _ _)
  · refine ite_f (by decide) (is_rdV rfl kf.v ⟨true, rfl, ite_f rfl ?_⟩)
    exact fin (j := 6) rfl (by decide) upd_same rfl rfl rfl (kp _ _ _ _ _)
  · refine ite_f (by decide) (is_rdV rfl kf.v ⟨true, rfl, ite_f rfl ?_⟩)
    exact fin (j := 7) rfl (by decide) upd_same rfl rfl rfl (kp _ _ _ _ _)
  · refine ite_f (by decide) (is_rdV rfl kf.v ⟨true, rfl, ite_f rfl ?_⟩)
    exact fin (j := 8) rfl (by decide) upd_same rfl rfl rfl (kp _ _ _ _ _)
  · refine ite_f (by decide) (is_rdV rfl kf.v ⟨true, rfl, ite_f rfl ?_⟩)
    exact fin (j := 9) rfl (by decide) upd_same rfl rfl rfl (kp _ _ _ _ _)
  · refine ite_f (by decide) (is_rdV rfl kf.v ⟨true, rfl, ite_f rfl ?_⟩)
    exact fin (j := 10) rfl (by decide) upd_same rfl rfl rfl (kp _ _ _ _ _)
  · refine ite_f (by decide) (is_rdV rfl kf.v ⟨true, rfl, ite_f rfl ?_⟩)
    exact fin (j := 11) rfl (by decide) upd_same rfl rfl rfl (kp _ _ _ _ _)
theorem ok_is_whole {f : Addr} {fd : FuncData} (D : Df K mg "is_whole" s_is_whole ["thing"] f fd) (m_bool : mg "bool" = none) (m_int : mg "int" = none) (m_isinstance : mg "isinstance" = none) : Cal P w K mg base 1 "is_whole" ["thing"] (spF K (fun d : Int => [.dt (.int d)]) (fun _ => True) fun _ => .bool true) f fd := by
  refine D.cal (ok_G D.F sc_is_whole (fun _ => rfl) (by decide) fun cdv A outer s H E hr => ⟨_, (pss_one (ps_ret (pe_and (pe_callB call_isi (by rfl) m_isinstance (by decide +kernel) (pa_cons (pv 0) (pa_cons (pe_bltn (v := .ty "int") (by rfl) m_int (by decide +kernel) rfl) pa_nil))) (pe_one (pe_not (pe_callB call_isi (by rfl) m_isinstance (by decide +kernel) (pa_cons (pv 0) (pa_cons (pe_bltn (v := .ty "bool") (by rfl) m_bool (by decide +kernel) rfl) pa_nil)))))))), fun x hp => ?_⟩)
  walk_at "s"
  walk_at "w"
  rfl
theorem ok_is_wholeO {f : Addr} {fd : FuncData} (D : Df K mg "is_whole" s_is_whole ["thing"] f fd) (m_bool : mg "bool" = none) (m_int : mg "int" = none) (m_isinstance : mg "isinstance" = none) : Cal P w K mg base 1 "is_whole" ["thing"] (spF K (fun d : Dat => [.dt d]) (fun d => isK d = true) fun d => .bool (isI d)) f fd := by
  refine D.cal (ok_G D.F sc_is_whole (fun _ => rfl) (by decide) fun cdv A outer s H E hr => ⟨_, (pss_one (ps_ret (pe_and (pe_callB call_isi (by rfl) m_isinstance (by decide +kernel) (pa_cons (pv 0) (pa_cons (pe_bltn (v := .ty "int") (by rfl) m_int (by decide +kernel) rfl) pa_nil))) (pe_one (pe_not (pe_callB call_isi (by rfl) m_isinstance (by decide +kernel) (pa_cons (pv 0) (pa_cons (pe_bltn (v := .ty "bool") (by rfl) m_bool (by decide +kernel) rfl) pa_nil)))))))), fun x hp => ?_⟩)
  cases x with
  | dict => cases hp
  | none =>
    walk_at "s"
    walk_at "w"
    rfl
  | bool b =>
    walk_at "s"
    walk_at "w"
    rfl
  | int b =>
    walk_at "s"
    walk_at "w"
    rfl
  | str b =>
    walk_at "s"
    walk_at "w"
    rfl
  | list b =>
    walk_at "s"
    walk_at "w"
    rfl
  | tuple b =>
    walk_at "s"
    walk_at "w"
    rfl
theorem ok_is_whole_within {f : Addr} {fd : FuncData} (D : Df K mg "is_whole_within" s_is_whole_within ["thing", "least", "most"] f fd) {f_is_whole : Addr} {d_is_whole : FuncData} (C_is_whole : Cal P w K mg base 1 "is_whole" ["thing"] (spF K (fun d : Int => [.dt (.int d)]) (fun _ => True) fun _ => .bool true) f_is_whole d_is_whole) : Cal P w K mg base 2 "is_whole_within" ["thing", "least", "most"] (spF K (fun p : Int × Int × Int => [.dt (.int p.1), .dt (.int p.2.1), .dt (.int p.2.2)]) (fun _ => True) fun p => .bool (decide (p.2.1 ≤ p.1) && decide (p.1 ≤ p.2.2))) f fd := by
  refine D.cal (ok_G D.F sc_is_whole_within (fun _ => rfl) (by decide) fun cdv A outer s H E hr => ⟨_, (pss_one (ps_ret (pe_and (pe_call C_is_whole.G (hr.mono (by decide)) (by rfl) C_is_whole.g C_is_whole.kp C_is_whole.b .nil pass0 (pa_cons (pv 0) pa_nil)) (pe_one (pe_chain op_le op_le (pv 1) (pv 0) (pv 2)))))), fun x hp => ?_⟩)
  walk_at "s"
  walk_at "w"
  refine ⟨_, rfl, trivial, ?_⟩
  walk_at "w"
  · rename_i h
    rw [h]
    rfl
  · rename_i h
    rw [h]
    rfl
theorem ok__numbers_of {f : Addr} {fd : FuncData} (D : Df K mg "_numbers_of" s__numbers_of ["things"] f fd) : Cal P w K mg base 1 "_numbers_of" ["things"] (spF K (fun r : List (Option Int) => [.dt (.tuple (oL r))]) (fun r => r.length ≤ 100) fun r => .list (iL (nums r))) f fd := by
  refine D.cal (ok_G D.F sc__numbers_of (fun _ => rfl) (by decide) fun cdv A outer s H E hr => ⟨_, (pss_one (ps_ret (pe_lc (own := [("thing", 1)]) rfl sc__numbers_of.nd (pi_tup (pv 0)) (blkOk_by (own := [("thing", 1)]) (N := ["things", "thing"]) (sc := (defScope s__numbers_of)) (by decide +kernel)) (fun _ _ _ _ _ => (pg_name (i := 1) sc__numbers_of.nd rfl (by first | exact Or.inl rfl | exact Or.inr rfl))) (fun _ _ _ _ _ => (pts_one (pt_cmpR oi_notN (pv 1) pe_non (nomark _)))) (fun _ _ _ _ _ => (pv 1))))), fun x hp => ?_⟩)
  walk_at "s"
  walk_at "w"
  apply ve_lcT (vs := [1]) oD x _ _ (by walk_at "n")
  walk_at "w"
  refine ⟨rfl, by simp, gl_lt (by omega), fun a ha => ⟨_, tg_name (by decide), fun acc srcs => ?_⟩, ?_⟩
  · walk_at "s"
    walk_at "w"
    refine ⟨rfl, fun _ => ?_, fun _ => rfl⟩
    walk_at "w"
    exact ⟨rfl, rfl⟩
  · walk_at "w"
    show PyData.list _ = _
    rw [nums_eq]
theorem ok_numbersO {f : Addr} {fd : FuncData} (D : Df K mg "_numbers_of" s__numbers_of ["things"] f fd) : Cal P w K mg base 1 "_numbers_of" ["things"] (spF K (fun r : List Dat => [.dt (.tuple r)]) (fun r => r.length ≤ 100) fun r => .list (r.filter fun d => !isNo d)) f fd := by
  refine D.cal (ok_G D.F sc__numbers_of (fun _ => rfl) (by decide) fun cdv A outer s H E hr => ⟨_, (pss_one (ps_ret (pe_lc (own := [("thing", 1)]) rfl sc__numbers_of.nd (pi_tup (pv 0)) (blkOk_by (own := [("thing", 1)]) (N := ["things", "thing"]) (sc := (defScope s__numbers_of)) (by decide +kernel)) (fun _ _ _ _ _ => (pg_name (i := 1) sc__numbers_of.nd rfl (by first | exact Or.inl rfl | exact Or.inr rfl))) (fun _ _ _ _ _ => (pts_one (pt_cmpR oi_notN (pv 1) pe_non (nomark _)))) (fun _ _ _ _ _ => (pv 1))))), fun x hp => ?_⟩)
  walk_at "s"
  walk_at "w"
  apply ve_lcT (vs := [1]) id x _ _ (by walk_at "n")
  walk_at "w"
  refine ⟨(List.map_id _).symm, by simp, gl_lt (by omega), fun a ha => ⟨_, tg_name (by decide), fun acc srcs => ?_⟩, ?_⟩
  · walk_at "s"
    walk_at "w"
    refine ⟨rfl, fun _ => ?_, fun _ => rfl⟩
    walk_at "w"
    exact ⟨rfl, rfl⟩
  · walk_at "w"
    rw [List.map_id]
    rfl
theorem ok_is_row {f : Addr} {fd : FuncData} (D : Df K mg "is_row" s_is_row ["thing"] f fd) {f__numbers_of : Addr} {d__numbers_of : FuncData} (C__numbers_of : Cal P w K mg base 1 "_numbers_of" ["things"] (spF K (fun r : List (Option Int) => [.dt (.tuple (oL r))]) (fun r => r.length ≤ 100) fun r => .list (iL (nums r))) f__numbers_of d__numbers_of) {f_is_whole : Addr} {d_is_whole : FuncData} (C_is_whole : Cal P w K mg base 1 "is_whole" ["thing"] (spF K (fun d : Int => [.dt (.int d)]) (fun _ => True) fun _ => .bool true) f_is_whole d_is_whole) (m_all : mg "all" = none) (m_isinstance : mg "isinstance" = none) (m_len : mg "len" = none) (m_set : mg "set" = none) (m_tuple : mg "tuple" = none) (c_MOST_THINGS : GlobI K mg "MOST_THINGS" 24) : Cal P w K mg base 2 "is_row" ["thing"] (spF K (fun r : List (Option Int) => [.dt (.tuple (oL r))]) RowOk fun _ => .bool true) f fd := by
  refine D.cal (ok_G D.F sc_is_row (fun _ => rfl) (by decide) fun cdv A outer s H E hr => ⟨_, (pss_cons (ps_if (PW.pt (pw_or (pt_not (pt_val (pe_callB call_isi (by rfl) m_isinstance (by decide +kernel) (pa_cons (pv 0) (pa_cons (pe_bltn (v := .ty "tuple") (by rfl) m_tuple (by decide +kernel) rfl) pa_nil))))) (pw_or1 (pt_cmpR op_gt (pe_callB cl_len (by rfl) m_len PySem.boot_len (pa_cons (pv 0) pa_nil)) (pe_glob (v := .int (24)) (by rfl) c_MOST_THINGS.u.choose_spec ⟨_, rfl⟩) (nomark _))))) (pss_one (ps_ret pe_bl)) pss_nil)
      (pss_cons (ps_set (i := 1) sc_is_row.nd rfl (Or.inl rfl) (pe_call C__numbers_of.G (hr.mono (by decide)) (by rfl) C__numbers_of.g C__numbers_of.kp C__numbers_of.b .nil pass0 (pa_cons (pv 0) pa_nil)))
      (pss_cons (ps_if (pt_not (pt_val (pe_callB (cr_all rfl) (by rfl) m_all (by decide +kernel) (pa_cons (pe_lc (own := [("number", 2)]) rfl sc_is_row.nd (pi_list (pv 1)) (blkOk_by (own := [("number", 2)]) (N := ["thing", "numbers", "number"]) (sc := (defScope s_is_row)) (by decide +kernel)) (fun _ _ _ _ _ => (pg_name (i := 2) sc_is_row.nd rfl (by first | exact Or.inl rfl | exact Or.inr rfl))) (fun _ _ _ _ _ => pts_nil) (fun _ _ _ _ _ => (pe_call C_is_whole.G (hr.mono (by decide)) (by rfl) C_is_whole.g C_is_whole.kp C_is_whole.b .nil pass0 (pa_cons (pv 2) pa_nil)))) pa_nil)))) (pss_one (ps_ret pe_bl)) pss_nil)
      (pss_one (ps_ret (pe_cmpR (op_eqD hr.units) (RZ.pe_lenSetI (by rfl) m_len (by rfl) m_set (pv 1)) (pe_callB cl_len (by rfl) m_len PySem.boot_len (pa_cons (pv 1) pa_nil)) (nomark _))))))), fun x hp => ?_⟩)
  have l1 := nums_len x
  have l2 := hp.1
  walk_at "s"
  walk_at "w"
  · exact absurd (by assumption) (by simp; omega)
  refine ⟨_, rfl, by omega, ?_⟩
  walk_at "w"
  apply ve_lcT (vs := [2]) PyData.int (nums x) _ _ (by walk_at "n")
  walk_at "w"
  refine ⟨rfl, by simp, gl_lt (by omega), fun a ha => ⟨_, tg_name (by decide), fun acc srcs => ?_⟩, ?_⟩
  · walk_at "s"
    walk_at "w"
    refine ⟨rfl, fun _ => ?_, fun _ => rfl⟩
    walk_at "w"
    refine ⟨_, rfl, trivial, ?_⟩
    walk_at "w"
    exact ⟨rfl, rfl⟩
  walk_at "w"
  refine c1_allF ((nums x).map fun _ => true) (by rw [fil_true, List.map_map] <;> rfl) ?_
  rw [show ((nums x).map fun _ => true).all id = true by simp]
  walk_at "w"
  refine ⟨hp.2, by omega, ?_⟩
  walk_at "w"
  show PyData.bool _ = _
  rw [List.length_map]
  simp [PyData.eqv]
theorem ok_is_rowO {f : Addr} {fd : FuncData} (D : Df K mg "is_row" s_is_row ["thing"] f fd) {f_is_wholeO : Addr} {d_is_wholeO : FuncData} (C_is_wholeO : Cal P w K mg base 1 "is_whole" ["thing"] (spF K (fun d : Dat => [.dt d]) (fun d => isK d = true) fun d => .bool (isI d)) f_is_wholeO d_is_wholeO) {f_numbersO : Addr} {d_numbersO : FuncData} (C_numbersO : Cal P w K mg base 1 "_numbers_of" ["things"] (spF K (fun r : List Dat => [.dt (.tuple r)]) (fun r => r.length ≤ 100) fun r => .list (r.filter fun d => !isNo d)) f_numbersO d_numbersO) (m_all : mg "all" = none) (m_isinstance : mg "isinstance" = none) (m_len : mg "len" = none) (m_set : mg "set" = none) (m_tuple : mg "tuple" = none) (c_MOST_THINGS : GlobI K mg "MOST_THINGS" 24) : Cal P w K mg base 2 "is_row" ["thing"] (spF K (fun i : Nat => [.dt (oddL.getD i .none)]) (fun i => i < 9) fun _ => .bool false) f fd := by
  refine D.cal (ok_G D.F sc_is_row (fun _ => rfl) (by decide) fun cdv A outer s H E hr => ⟨_, (pss_cons (ps_if (PW.pt (pw_or (pt_not (pt_val (pe_callB call_isi (by rfl) m_isinstance (by decide +kernel) (pa_cons (pv 0) (pa_cons (pe_bltn (v := .ty "tuple") (by rfl) m_tuple (by decide +kernel) rfl) pa_nil))))) (pw_or1 (pt_cmpR op_gt (pe_callB cl_len (by rfl) m_len PySem.boot_len (pa_cons (pv 0) pa_nil)) (pe_glob (v := .int (24)) (by rfl) c_MOST_THINGS.u.choose_spec ⟨_, rfl⟩) (nomark _))))) (pss_one (ps_ret pe_bl)) pss_nil)
      (pss_cons (ps_set (i := 1) sc_is_row.nd rfl (Or.inl rfl) (pe_call C_numbersO.G (hr.mono (by decide)) (by rfl) C_numbersO.g C_numbersO.kp C_numbersO.b .nil pass0 (pa_cons (pv 0) pa_nil)))
      (pss_cons (ps_if (pt_not (pt_val (pe_callB (cr_all rfl) (by rfl) m_all (by decide +kernel) (pa_cons (pe_lc (own := [("number", 2)]) rfl sc_is_row.nd (pi_list (pv 1)) (blkOk_by (own := [("number", 2)]) (N := ["thing", "numbers", "number"]) (sc := (defScope s_is_row)) (by decide +kernel)) (fun _ _ _ _ _ => (pg_name (i := 2) sc_is_row.nd rfl (by first | exact Or.inl rfl | exact Or.inr rfl))) (fun _ _ _ _ _ => pts_nil) (fun _ _ _ _ _ => (pe_call C_is_wholeO.G (hr.mono (by decide)) (by rfl) C_is_wholeO.g C_is_wholeO.kp C_is_wholeO.b .nil pass0 (pa_cons (pv 2) pa_nil)))) pa_nil)))) (pss_one (ps_ret pe_bl)) pss_nil)
      (pss_one (ps_ret (pe_cmpR (op_eqD hr.units) (RZ.pe_lenSetG (by rfl) m_len (by rfl) m_set (pv 1)) (pe_callB cl_len (by rfl) m_len PySem.boot_len (pa_cons (pv 1) pa_nil)) (nomark _))))))), fun x hp => ?_⟩)
  obtain rfl | rfl | rfl | rfl | rfl | rfl | rfl | rfl | rfl : x = 0 ∨ x = 1 ∨ x = 2 ∨ x = 3 ∨ x = 4 ∨ x = 5 ∨ x = 6 ∨ x = 7 ∨ x = 8 := by omega
  · show VSs K (cells0 _ [.dt .none]) _ _
    walk_at "s"
    walk_at "w"
  · show VSs K (cells0 _ [.dt (.int 5)]) _ _
    walk_at "s"
    walk_at "w"
  · show VSs K (cells0 _ [.dt (.list [.int 1, .int 2])]) _ _
    walk_at "s"
    walk_at "w"
  · show VSs K (cells0 _ [.dt (.tuple [.int 1, .int 1])]) _ _
    walk_at "s"
    walk_at "w"
    refine ⟨_, rfl, by decide, ?_⟩
    rw [show List.filter (fun d => !isNo d) [.int 1, .int 1] = [.int 1, .int 1] from rfl]
    walk_at "w"
    apply ve_lcT (vs := [2]) id [.int 1, .int 1] (fun _ => true) (fun d => PyData.bool (isI d)) (by walk_at "n")
    walk_at "w"
    refine ⟨rfl, by simp, gl_lt (by decide), fun a ha => ⟨_, tg_name (by decide), fun acc srcs => ?_⟩, ?_⟩
    · have hk : isK a = true := (List.all_eq_true.mp (show ([.int 1, .int 1] : List Dat).all isK = true from rfl)) a ha
      walk_at "s"
      walk_at "w"
      refine ⟨rfl, fun _ => ?_, fun _ => rfl⟩
      walk_at "w"
      refine ⟨a, rfl, hk, ?_⟩
      walk_at "w"
      exact ⟨rfl, rfl⟩
    walk_at "w"
    refine c1_allF [true, true] rfl ?_
    walk_at "w"
    refine ve_lenSetG ?_
    walk_at "w"
    refine ⟨[1, 1], rfl, by decide, ?_⟩
    walk_at "w"
    exact congrArg PyData.bool (by decide +kernel)
  · show VSs K (cells0 _ [.dt (.tuple [.int 1, .str "2"])]) _ _
    walk_at "s"
    walk_at "w"
    refine ⟨_, rfl, by decide, ?_⟩
    rw [show List.filter (fun d => !isNo d) [.int 1, .str "2"] = [.int 1, .str "2"] from rfl]
    walk_at "w"
    apply ve_lcT (vs := [2]) id [.int 1, .str "2"] (fun _ => true) (fun d => PyData.bool (isI d)) (by walk_at "n")
    walk_at "w"
    refine ⟨rfl, by simp, gl_lt (by decide), fun a ha => ⟨_, tg_name (by decide), fun acc srcs => ?_⟩, ?_⟩
    · have hk : isK a = true := (List.all_eq_true.mp (show ([.int 1, .str "2"] : List Dat).all isK = true from rfl)) a ha
      walk_at "s"
      walk_at "w"
      refine ⟨rfl, fun _ => ?_, fun _ => rfl⟩
      walk_at "w"
      refine ⟨a, rfl, hk, ?_⟩
      walk_at "w"
      exact ⟨rfl, rfl⟩
    walk_at "w"
    refine c1_allF [true, false] rfl ?_
    walk_at "w"
  · show VSs K (cells0 _ [.dt (.tuple [.bool true, .int 2])]) _ _
    walk_at "s"
    walk_at "w"
    refine ⟨_, rfl, by decide, ?_⟩
    rw [show List.filter (fun d => !isNo d) [.bool true, .int 2] = [.bool true, .int 2] from rfl]
    walk_at "w"
    apply ve_lcT (vs := [2]) id [.bool true, .int 2] (fun _ => true) (fun d => PyData.bool (isI d)) (by walk_at "n")
    walk_at "w"
    refine ⟨rfl, by simp, gl_lt (by decide), fun a ha => ⟨_, tg_name (by decide), fun acc srcs => ?_⟩, ?_⟩
    · have hk : isK a = true := (List.all_eq_true.mp (show ([.bool true, .int 2] : List Dat).all isK = true from rfl)) a ha
      walk_at "s"
      walk_at "w"
      refine ⟨rfl, fun _ => ?_, fun _ => rfl⟩
      walk_at "w"
      refine ⟨a, rfl, hk, ?_⟩
      walk_at "w"
      exact ⟨rfl, rfl⟩
    walk_at "w"
    refine c1_allF [false, true] rfl ?_
    walk_at "w"
  · show VSs K (cells0 _ [.dt (.tuple ((List.range 25).map fun i => .int (i : Nat)))]) _ _
    walk_at "s"
    walk_at "w"
  · show VSs K (cells0 _ [.dt (.tuple [.tuple [.int 1]])]) _ _
    walk_at "s"
    walk_at "w"
    refine ⟨_, rfl, by decide, ?_⟩
    rw [show List.filter (fun d => !isNo d) [.tuple [.int 1]] = [.tuple [.int 1]] from rfl]
    walk_at "w"
    apply ve_lcT (vs := [2]) id [.tuple [.int 1]] (fun _ => true) (fun d => PyData.bool (isI d)) (by walk_at "n")
    walk_at "w"
    refine ⟨rfl, by simp, gl_lt (by decide), fun a ha => ⟨_, tg_name (by decide), fun acc srcs => ?_⟩, ?_⟩
    · have hk : isK a = true := (List.all_eq_true.mp (show ([.tuple [.int 1]] : List Dat).all isK = true from rfl)) a ha
      walk_at "s"
      walk_at "w"
      refine ⟨rfl, fun _ => ?_, fun _ => rfl⟩
      walk_at "w"
      refine ⟨a, rfl, hk, ?_⟩
      walk_at "w"
      exact ⟨rfl, rfl⟩
    walk_at "w"
    refine c1_allF [false] rfl ?_
    walk_at "w"
  · show VSs K (cells0 _ [.dt (.tuple [.int 0, .bool false])]) _ _
    walk_at "s"
    walk_at "w"
    refine ⟨_, rfl, by decide, ?_⟩
    rw [show List.filter (fun d => !isNo d) [.int 0, .bool false] = [.int 0, .bool false] from rfl]
    walk_at "w"
    apply ve_lcT (vs := [2]) id [.int 0, .bool false] (fun _ => true) (fun d => PyData.bool (isI d)) (by walk_at "n")
    walk_at "w"
    refine ⟨rfl, by simp, gl_lt (by decide), fun a ha => ⟨_, tg_name (by decide), fun acc srcs => ?_⟩, ?_⟩
    · have hk : isK a = true := (List.all_eq_true.mp (show ([.int 0, .bool false] : List Dat).all isK = true from rfl)) a ha
      walk_at "s"
      walk_at "w"
      refine ⟨rfl, fun _ => ?_, fun _ => rfl⟩
      walk_at "w"
      refine ⟨a, rfl, hk, ?_⟩
      walk_at "w"
      exact ⟨rfl, rfl⟩
    walk_at "w"
    refine c1_allF [true, false] rfl ?_
    walk_at "w"
theorem ok_check_row {f : Addr} {fd : FuncData} (D : Df K mg "check_row" s_check_row ["row"] f fd) {f_is_row : Addr} {d_is_row : FuncData} (C_is_row : Cal P w K mg base 2 "is_row" ["thing"] (spF K (fun r : List (Option Int) => [.dt (.tuple (oL r))]) RowOk fun _ => .bool true) f_is_row d_is_row) : Cal P w K mg base 3 "check_row" ["row"] (spF K (fun r : List (Option Int) => [.dt (.tuple (oL r))]) RowOk fun _ => .none) f fd := by
  refine D.cal (ok_G D.F sc_check_row (fun _ => rfl) (by decide) fun cdv A outer s H E hr => ⟨_, (pss_one (ps_if (pt_not (pt_val (pe_call C_is_row.G (hr.mono (by decide)) (by rfl) C_is_row.g C_is_row.kp C_is_row.b .nil pass0 (pa_cons (pv 0) pa_nil)))) (pss_one ps_never) pss_nil)), fun x hp => ?_⟩)
  walk_at "s"
  walk_at "w"
  refine ⟨_, rfl, hp, ?_⟩
  walk_at "w"
theorem ok_check_rowR {f : Addr} {fd : FuncData} (D : Df K mg "check_row" s_check_row ["row"] f fd) {f_is_rowO : Addr} {d_is_rowO : FuncData} (C_is_rowO : Cal P w K mg base 2 "is_row" ["thing"] (spF K (fun i : Nat => [.dt (oddL.getD i .none)]) (fun i => i < 9) fun _ => .bool false) f_is_rowO d_is_rowO) {C_NoRow : Addr} (x_NoRow : ExcF K mg "NoRow" C_NoRow) : CalR P w K mg base 3 "check_row" ["row"] (spR K (fun i : Nat => [.dt (oddL.getD i .none)]) (fun i => i < 9) fun _ => C_NoRow) f fd := by
  refine D.calR (ok_R D.F sc_check_row (fun _ => rfl) (by decide) fun cdv A outer s H E hr => ⟨_, (pss_one (ps_if (pt_not (pt_val (pe_call C_is_rowO.G (hr.mono (by decide)) (by rfl) C_is_rowO.g C_is_rowO.kp C_is_rowO.b .nil pass0 (pa_cons (pv 0) pa_nil)))) (pss_one (L2N.ps_raise rfl (L2N.takes_of rfl rfl rfl rfl) (Xa.pmk_n1 PySem.F.excBase_ValueError x_NoRow.x x_NoRow.g x_NoRow.k (raises_own x_NoRow.b x_NoRow.t) rfl pe_str))) pss_nil)), fun x S0 hp hE => ?_⟩)
  walk_at "s"
  refine sr_if fun ss => ?_
  walk_at "w"
  refine ⟨x, rfl, hp, ?_⟩
  walk_at "w"
  refine sr_raise (ta := tC _) hE fun ss σ τ S E Q h => h _
theorem ok_check_unmarked {f : Addr} {fd : FuncData} (D : Df K mg "check_unmarked" s_check_unmarked ["row"] f fd) {f_check_row : Addr} {d_check_row : FuncData} (C_check_row : Cal P w K mg base 3 "check_row" ["row"] (spF K (fun r : List (Option Int) => [.dt (.tuple (oL r))]) RowOk fun _ => .none) f_check_row d_check_row) : Cal P w K mg base 4 "check_unmarked" ["row"] (spF K (fun r : List Int => [.dt (.tuple (iL r))]) (fun r => r.length ≤ 24 ∧ r.Nodup) fun _ => .none) f fd := by
  refine D.cal (ok_G D.F sc_check_unmarked (fun _ => rfl) (by decide) fun cdv A outer s H E hr => ⟨_, (pss_cons (ps_expr (pe_call C_check_row.G (hr.mono (by decide)) (by rfl) C_check_row.g C_check_row.kp C_check_row.b .nil pass0 (pa_cons (pv 0) pa_nil)))
      (pss_one (ps_if (pt_cmpR op_in_seq pe_non (pv 0) (by rfl)) (pss_one ps_never) pss_nil))), fun x hp => ?_⟩)
  walk_at "s"
  walk_at "w"
  refine ⟨x.map some, by rw [oL_some], ⟨by simpa using hp.1, by rw [nums_some]; exact hp.2⟩, ?_⟩
  walk_at "w"
  refine r2_in rd_dt sq_t rfl (by simp [flD]) ?_
  walk_at "w"
  · exact absurd (by assumption) (by simp [eqF])
theorem ok_check_unmarkedR {f : Addr} {fd : FuncData} (D : Df K mg "check_unmarked" s_check_unmarked ["row"] f fd) {C_NoRow : Addr} {f_check_rowR : Addr} {d_check_rowR : FuncData} (C_check_rowR : CalR P w K mg base 3 "check_row" ["row"] (spR K (fun i : Nat => [.dt (oddL.getD i .none)]) (fun i => i < 9) fun _ => C_NoRow) f_check_rowR d_check_rowR) : CalR P w K mg base 4 "check_unmarked" ["row"] (spR K (fun i : Nat => [.dt (oddL.getD i .none)]) (fun i => i < 9) fun _ => C_NoRow) f fd := by
  refine D.calR (ok_R D.F sc_check_unmarked (fun _ => rfl) (by decide) fun cdv A outer s H E hr => ⟨_, (pss_cons (ps_expr (pe_callS C_check_rowR.G (hr.mono (by decide)) (by rfl) C_check_rowR.g C_check_rowR.kp C_check_rowR.b (fun σ => L2N.passAt (L2N.takes_of rfl rfl rfl rfl) σ) (pa_cons (pv 0) pa_nil)))
      (pss_one ps_never)), fun x S0 hp hE => ?_⟩)
  walk_at "s"
  refine sr_first (sr_drop fun ss => er_call ?_)
  walk_at "w"
  exact ⟨x, rfl, hp, hE⟩
theorem ok_check_unmarkedM {f : Addr} {fd : FuncData} (D : Df K mg "check_unmarked" s_check_unmarked ["row"] f fd) {f_check_row : Addr} {d_check_row : FuncData} (C_check_row : Cal P w K mg base 3 "check_row" ["row"] (spF K (fun r : List (Option Int) => [.dt (.tuple (oL r))]) RowOk fun _ => .none) f_check_row d_check_row) {C_Marked : Addr} (x_Marked : ExcF K mg "Marked" C_Marked) : CalR P w K mg base 4 "check_unmarked" ["row"] (spR K (fun m : Nat => [.dt (.tuple [.int m, .none, .int 9])]) (fun m => m < 9) fun _ => C_Marked) f fd := by
  refine D.calR (ok_R D.F sc_check_unmarked (fun _ => rfl) (by decide) fun cdv A outer s H E hr => ⟨_, (pss_cons (ps_expr (pe_call C_check_row.G (hr.mono (by decide)) (by rfl) C_check_row.g C_check_row.kp C_check_row.b .nil pass0 (pa_cons (pv 0) pa_nil)))
      (pss_one (ps_if (pt_cmpR op_in_seq pe_non (pv 0) (by rfl)) (pss_one (L2N.ps_raise rfl (L2N.takes_of rfl rfl rfl rfl) (Xa.pmk_n1 PySem.F.excBase_ValueError x_Marked.x x_Marked.g x_Marked.k (raises_own x_Marked.b x_Marked.t) rfl pe_str))) pss_nil))), fun x S0 hp hE => ?_⟩)
  walk_at "s"
  refine sr_seq ?_
  walk_at "w"
  refine ⟨[some (x : Int), none, some 9], rfl, ⟨(by show 3 ≤ 24; decide), by show [(x : Int), 9].Nodup; simp; omega⟩, ?_⟩
  walk_at "w"
  refine sr_if fun ss => ?_
  walk_at "w"
  refine r2_in rd_dt sq_t rfl (by simp [flD]) ?_
  walk_at "w"
  · exact sr_raise (ta := tC _) hE fun ss σ τ S E Q h => h _
  try (· exact absurd (by assumption) (by simp [eqF]))
theorem ok_greater_aheadL {f : Addr} {fd : FuncData} (D : Df K mg "_greater_ahead" s__greater_ahead ["numbers"] f fd) (m_enumerate : mg "enumerate" = none) (m_len : mg "len" = none) : Cal P w K mg base 1 "_greater_ahead" ["numbers"] (spF K (fun r : List Int => [.dt (.list (iL r))]) (fun r => r.length ≤ 100) fun r => .list (iL (gr r))) f fd := by
  refine D.cal (ok_G D.F sc__greater_ahead (fun _ => rfl) (by decide) fun cdv A outer s H E hr => ⟨_, (pss_one (ps_ret (pe_lc (own := [("place", 1), ("number", 2)]) rfl sc__greater_ahead.nd (pi_enum (by rfl) m_enumerate (pa_cons (pv 0) pa_nil)) (blkOk_by (own := [("place", 1), ("number", 2)]) (N := ["numbers", "place", "number", "other"]) (sc := (defScope s__greater_ahead)) (by decide +kernel)) (fun _ _ _ _ _ => (pg_tupK (K := K) (n := 2) rfl rfl (pgs_cons (pg_name (i := 1) sc__greater_ahead.nd rfl (by first | exact Or.inl rfl | exact Or.inr rfl)) (pgs_cons (pg_name (i := 2) sc__greater_ahead.nd rfl (by first | exact Or.inl rfl | exact Or.inr rfl)) pgs_nil)))) (fun _ _ _ _ _ => pts_nil) (fun _ _ _ _ _ => (pe_callB (cl_lenK (K := K) rfl) (by rfl) m_len PySem.boot_len (pa_cons (pe_lc (own := [("other", 3)]) rfl sc__greater_ahead.nd (pi_listK (K := K) rfl (pe_slice (sl_listK (K := K) rfl) (pv 0) po_none (po_some (pv 1)))) (blkOk_by (own := [("other", 3)]) (N := ["numbers", "place", "number", "other"]) (sc := ⟨.function, [(".0", .local), ("place", .local), ("number", .cell), ("len", .globalImplicit), ("numbers", .cell)], false, false, []⟩) (by decide +kernel)) (fun _ _ _ _ _ => (pg_name (i := 3) sc__greater_ahead.nd rfl (by first | exact Or.inl rfl | exact Or.inr rfl))) (fun _ _ _ _ _ => (pts_one (pt_cmpR op_gt (pv 3) (pv 2) (nomark _)))) (fun _ _ _ _ _ => (pv 3))) pa_nil)))))), fun x hp => ?_⟩)
  walk_at "s"
  walk_at "w"
  apply ve_lcT (vs := [1, 2]) (fun p : Int × Nat => PyData.tuple [.int p.2, .int p.1]) x.zipIdx _ _ (by walk_at "n")
  walk_at "w"
  refine ⟨enum_iL x, by simp, gl_lt (by simp; omega), fun a ha => ⟨_, tg_pair (by decide) (by decide), fun acc srcs => ?_⟩, ?_⟩
  · walk_at "s"
    walk_at "w"
    refine ⟨rfl, fun _ => ?_, fun _ => rfl⟩
    walk_at "w"
    apply ve_lcT (vs := [3]) PyData.int (x.take a.2) _ _ (by walk_at "n")
    walk_at "w"
    refine ⟨(cut_to _ _).trans (iL_take _ _), by simp, gl_lt (by simp; omega), fun b hb => ⟨_, tg_name (by decide), fun acc srcs => ?_⟩, ?_⟩
    · walk_at "s"
      walk_at "w"
      refine ⟨rfl, fun _ => ?_, fun _ => rfl⟩
      walk_at "w"
      exact ⟨rfl, rfl⟩
    · walk_at "w"
      exact ⟨rfl, rfl⟩
  · walk_at "w"
    show PyData.list _ = PyData.list _
    unfold gr
    rw [fil_true]
    simp only [iL, List.map_map, List.length_map]
    rfl
theorem ok_counts {f : Addr} {fd : FuncData} (D : Df K mg "counts" s_counts ["row"] f fd) {f__numbers_of : Addr} {d__numbers_of : FuncData} (C__numbers_of : Cal P w K mg base 1 "_numbers_of" ["things"] (spF K (fun r : List (Option Int) => [.dt (.tuple (oL r))]) (fun r => r.length ≤ 100) fun r => .list (iL (nums r))) f__numbers_of d__numbers_of) {f_check_row : Addr} {d_check_row : FuncData} (C_check_row : Cal P w K mg base 3 "check_row" ["row"] (spF K (fun r : List (Option Int) => [.dt (.tuple (oL r))]) RowOk fun _ => .none) f_check_row d_check_row) {f_greater_aheadL : Addr} {d_greater_aheadL : FuncData} (C_greater_aheadL : Cal P w K mg base 1 "_greater_ahead" ["numbers"] (spF K (fun r : List Int => [.dt (.list (iL r))]) (fun r => r.length ≤ 100) fun r => .list (iL (gr r))) f_greater_aheadL d_greater_aheadL) : Cal P w K mg base 4 "counts" ["row"] (spF K (fun r : List (Option Int) => [.dt (.tuple (oL r))]) RowOk fun r => .list (iL (gr (nums r)))) f fd := by
  refine D.cal (ok_G D.F sc_counts (fun _ => rfl) (by decide) fun cdv A outer s H E hr => ⟨_, (pss_cons (ps_expr (pe_call C_check_row.G (hr.mono (by decide)) (by rfl) C_check_row.g C_check_row.kp C_check_row.b .nil pass0 (pa_cons (pv 0) pa_nil)))
      (pss_one (ps_ret (pe_call C_greater_aheadL.G (hr.mono (by decide)) (by rfl) C_greater_aheadL.g C_greater_aheadL.kp C_greater_aheadL.b .nil pass0 (pa_cons (pe_call C__numbers_of.G (hr.mono (by decide)) (by rfl) C__numbers_of.g C__numbers_of.kp C__numbers_of.b .nil pass0 (pa_cons (pv 0) pa_nil)) pa_nil))))), fun x hp => ?_⟩)
  have l1 := nums_len x
  have l2 := hp.1
  walk_at "s"
  walk_at "w"
  refine ⟨_, rfl, hp, ?_⟩
  walk_at "w"
  refine ⟨_, rfl, by omega, ?_⟩
  walk_at "w"
  refine ⟨_, rfl, by omega, ?_⟩
  walk_at "w"
theorem ok_countsR {f : Addr} {fd : FuncData} (D : Df K mg "counts" s_counts ["row"] f fd) {C_NoRow : Addr} {f_check_rowR : Addr} {d_check_rowR : FuncData} (C_check_rowR : CalR P w K mg base 3 "check_row" ["row"] (spR K (fun i : Nat => [.dt (oddL.getD i .none)]) (fun i => i < 9) fun _ => C_NoRow) f_check_rowR d_check_rowR) : CalR P w K mg base 4 "counts" ["row"] (spR K (fun i : Nat => [.dt (oddL.getD i .none)]) (fun i => i < 9) fun _ => C_NoRow) f fd := by
  refine D.calR (ok_R D.F sc_counts (fun _ => rfl) (by decide) fun cdv A outer s H E hr => ⟨_, (pss_cons (ps_expr (pe_callS C_check_rowR.G (hr.mono (by decide)) (by rfl) C_check_rowR.g C_check_rowR.kp C_check_rowR.b (fun σ => L2N.passAt (L2N.takes_of rfl rfl rfl rfl) σ) (pa_cons (pv 0) pa_nil)))
      (pss_one ps_never)), fun x S0 hp hE => ?_⟩)
  walk_at "s"
  refine sr_first (sr_drop fun ss => er_call ?_)
  walk_at "w"
  exact ⟨x, rfl, hp, hE⟩
theorem ok__none_greater_ahead {f : Addr} {fd : FuncData} (D : Df K mg "_none_greater_ahead" s__none_greater_ahead ["row", "place"] f fd) (m_max : mg "max" = none) (m_min : mg "min" = none) : Cal P w K mg base 1 "_none_greater_ahead" ["row", "place"] (spF K (fun p : List Int × Nat => [.dt (.tuple (iL p.1)), .dt (.int p.2)]) (fun p => p.1.length ≤ 24 ∧ p.2 ≤ p.1.length) fun p => .bool (cutB p.1 p.2)) f fd := by
  refine D.cal (ok_G D.F sc__none_greater_ahead (fun _ => rfl) (by decide) fun cdv A outer s H E hr => ⟨_, (pss_cons (ps_set (i := 2) sc__none_greater_ahead.nd rfl (Or.inl rfl) (pe_slice sl_tupF (pv 0) po_none (po_some (pv 1))))
      (pss_cons (ps_set (i := 3) sc__none_greater_ahead.nd rfl (Or.inl rfl) (pe_slice sl_tupF (pv 0) (po_some (pv 1)) po_none))
      (pss_one (ps_ret (pe_stopE (pe_or (pe_notT (pv 2)) (pe_or (pe_notT (pv 3)) (pe_one (pe_cmpR op_lt (pe_callB (cr_maxT rfl hr.units) (by rfl) m_max (by decide +kernel) (pa_cons (pv 2) pa_nil)) (pe_callB (cr_minT rfl hr.units) (by rfl) m_min (by decide +kernel) (pa_cons (pv 3) pa_nil)) (nomark _)))))))))), fun x hp => ?_⟩)
  obtain ⟨N, p⟩ := x
  obtain ⟨h1, h2⟩ := hp
  dsimp only at h1 h2 ⊢
  walk_at "s"
  walk_at "w"
  walk_at "s"
  rw [cut_to, iL_take]
  walk_at "w"
  walk_at "s"
  rw [cut_from, show (iL N).drop p = iL (N.drop p) from List.map_drop.symm]
  walk_at "w"
  refine ve_cut (.dt (.bool (cutB N p))) ?_ ?_
  · walk_at "w"
    · have e1 : N.take p = [] := by
        have := ‹(iL (List.take p N)).isEmpty = true›
        cases h : N.take p with
        | nil => rfl
        | cons a b => rw [h] at this; cases this
      exact ⟨by simp [cutB, e1], rfl⟩
    · have e1 : N.drop p = [] := by
        have := ‹(iL (List.drop p N)).isEmpty = true›
        cases h : N.drop p with
        | nil => rfl
        | cons a b => rw [h] at this; cases this
      exact ⟨by simp [cutB, e1], rfl⟩
    · have e1 : 0 < (N.take p).length := by
        have := ‹(iL (List.take p N)).isEmpty = false›
        cases h : N.take p with
        | nil => rw [h] at this; cases this
        | cons a b => simp
      have e2 : 0 < (N.drop p).length := by
        have := ‹(iL (List.drop p N)).isEmpty = false›
        cases h : N.drop p with
        | nil => rw [h] at this; cases this
        | cons a b => simp
      refine c1_maxT e1 fun m m1 m2 => ?_
      walk_at "w"
      refine c1_minT e2 fun u u1 u2 => ?_
      walk_at "w"
      exact ⟨by rw [cut_ends m1 m2 u1 u2], rfl⟩
  · walk_at "w"
theorem ok_may_mark {f : Addr} {fd : FuncData} (D : Df K mg "may_mark" s_may_mark ["row"] f fd) {f__none_greater_ahead : Addr} {d__none_greater_ahead : FuncData} (C__none_greater_ahead : Cal P w K mg base 1 "_none_greater_ahead" ["row", "place"] (spF K (fun p : List Int × Nat => [.dt (.tuple (iL p.1)), .dt (.int p.2)]) (fun p => p.1.length ≤ 24 ∧ p.2 ≤ p.1.length) fun p => .bool (cutB p.1 p.2)) f__none_greater_ahead d__none_greater_ahead) {f_check_unmarked : Addr} {d_check_unmarked : FuncData} (C_check_unmarked : Cal P w K mg base 4 "check_unmarked" ["row"] (spF K (fun r : List Int => [.dt (.tuple (iL r))]) (fun r => r.length ≤ 24 ∧ r.Nodup) fun _ => .none) f_check_unmarked d_check_unmarked) (m_len : mg "len" = none) (m_range : mg "range" = none) : Cal P w K mg base 5 "may_mark" ["row"] (spF K (fun N : List Int => [.dt (.tuple (iL N))]) (fun N => N.length ≤ 24 ∧ N.Nodup) fun N => .list (iL ((mayL N).map Int.ofNat))) f fd := by
  refine D.cal (ok_G D.F sc_may_mark (fun _ => rfl) (by decide) fun cdv A outer s H E hr => ⟨_, (pss_cons (ps_expr (pe_call C_check_unmarked.G (hr.mono (by decide)) (by rfl) C_check_unmarked.g C_check_unmarked.kp C_check_unmarked.b .nil pass0 (pa_cons (pv 0) pa_nil)))
      (pss_one (ps_ret (pe_lc (own := [("place", 1)]) rfl sc_may_mark.nd (pi_range1 (by rfl) m_range (pa_cons (pe_op op_add (pe_callB cl_len (by rfl) m_len PySem.boot_len (pa_cons (pv 0) pa_nil)) pe_int) pa_nil)) (blkOk_by (own := [("place", 1)]) (N := ["row", "place"]) (sc := (defScope s_may_mark)) (by decide +kernel)) (fun _ _ _ _ _ => (pg_name (i := 1) sc_may_mark.nd rfl (by first | exact Or.inl rfl | exact Or.inr rfl))) (fun _ _ _ _ _ => (pts_one (pt_val (pe_call C__none_greater_ahead.G (hr.mono (by decide)) (by rfl) C__none_greater_ahead.g C__none_greater_ahead.kp C__none_greater_ahead.b .nil pass0 (pa_cons (pv 0) (pa_cons (pv 1) pa_nil)))))) (fun _ _ _ _ _ => (pv 1)))))), fun x hp => ?_⟩)
  obtain ⟨h1, hn⟩ := hp
  have hNl : (iL x).length = x.length := List.length_map _
  walk_at "s"
  walk_at "w"
  refine ⟨x, rfl, ⟨h1, hn⟩, ?_⟩
  walk_at "w"
  apply ve_lcT (vs := [1]) (fun k : Nat => PyData.int k) (List.range (x.length + 1)) (cutB x) (fun k : Nat => PyData.int k) (by walk_at "n")
  walk_at "w"
  refine ⟨by omega, by omega, by rw [hNl]; exact rng0_eq (x.length + 1), by simp, gl_lt (by simp; omega), fun p hp => ⟨_, tg_name (by decide), fun acc srcs => ?_⟩, ?_⟩
  · have hp2 := List.mem_range.mp hp
    walk_at "s"
    walk_at "w"
    refine ⟨(x, p), rfl, ⟨h1, (by omega : p ≤ x.length)⟩, ?_⟩
    walk_at "w"
    refine ⟨rfl, fun _ => ?_, fun _ => rfl⟩
    walk_at "w"
    exact ⟨rfl, rfl⟩
  walk_at "w"
  rw [iL, List.map_map]
  rfl
theorem ok_may_markR {f : Addr} {fd : FuncData} (D : Df K mg "may_mark" s_may_mark ["row"] f fd) {C_NoRow : Addr} {f_check_unmarkedR : Addr} {d_check_unmarkedR : FuncData} (C_check_unmarkedR : CalR P w K mg base 4 "check_unmarked" ["row"] (spR K (fun i : Nat => [.dt (oddL.getD i .none)]) (fun i => i < 9) fun _ => C_NoRow) f_check_unmarkedR d_check_unmarkedR) : CalR P w K mg base 5 "may_mark" ["row"] (spR K (fun i : Nat => [.dt (oddL.getD i .none)]) (fun i => i < 9) fun _ => C_NoRow) f fd := by
  refine D.calR (ok_R D.F sc_may_mark (fun _ => rfl) (by decide) fun cdv A outer s H E hr => ⟨_, (pss_cons (ps_expr (pe_callS C_check_unmarkedR.G (hr.mono (by decide)) (by rfl) C_check_unmarkedR.g C_check_unmarkedR.kp C_check_unmarkedR.b (fun σ => L2N.passAt (L2N.takes_of rfl rfl rfl rfl) σ) (pa_cons (pv 0) pa_nil)))
      (pss_one ps_never)), fun x S0 hp hE => ?_⟩)
  walk_at "s"
  refine sr_first (sr_drop fun ss => er_call ?_)
  walk_at "w"
  exact ⟨x, rfl, hp, hE⟩
theorem ok_may_markM {f : Addr} {fd : FuncData} (D : Df K mg "may_mark" s_may_mark ["row"] f fd) {C_Marked : Addr} {f_check_unmarkedM : Addr} {d_check_unmarkedM : FuncData} (C_check_unmarkedM : CalR P w K mg base 4 "check_unmarked" ["row"] (spR K (fun m : Nat => [.dt (.tuple [.int m, .none, .int 9])]) (fun m => m < 9) fun _ => C_Marked) f_check_unmarkedM d_check_unmarkedM) : CalR P w K mg base 5 "may_mark" ["row"] (spR K (fun m : Nat => [.dt (.tuple [.int m, .none, .int 9])]) (fun m => m < 9) fun _ => C_Marked) f fd := by
  refine D.calR (ok_R D.F sc_may_mark (fun _ => rfl) (by decide) fun cdv A outer s H E hr => ⟨_, (pss_cons (ps_expr (pe_callS C_check_unmarkedM.G (hr.mono (by decide)) (by rfl) C_check_unmarkedM.g C_check_unmarkedM.kp C_check_unmarkedM.b (fun σ => L2N.passAt (L2N.takes_of rfl rfl rfl rfl) σ) (pa_cons (pv 0) pa_nil)))
      (pss_one ps_never)), fun x S0 hp hE => ?_⟩)
  walk_at "s"
  refine sr_first (sr_drop fun ss => er_call ?_)
  walk_at "w"
  exact ⟨x, rfl, hp, hE⟩
theorem ok_blocks {f : Addr} {fd : FuncData} (D : Df K mg "blocks" s_blocks ["row"] f fd) {f_may_mark : Addr} {d_may_mark : FuncData} (C_may_mark : Cal P w K mg base 5 "may_mark" ["row"] (spF K (fun N : List Int => [.dt (.tuple (iL N))]) (fun N => N.length ≤ 24 ∧ N.Nodup) fun N => .list (iL ((mayL N).map Int.ofNat))) f_may_mark d_may_mark) (m_zip : mg "zip" = none) : Cal P w K mg base 6 "blocks" ["row"] (spF K (fun N : List Int => [.dt (.tuple (iL N))]) (fun N => N.length ≤ 24 ∧ N.Nodup) fun N => .list (tL (blk N))) f fd := by
  refine D.cal (ok_G D.F sc_blocks (fun _ => rfl) (by decide) fun cdv A outer s H E hr => ⟨_, (pss_cons (ps_set (i := 1) sc_blocks.nd rfl (Or.inl rfl) (pe_call C_may_mark.G (hr.mono (by decide)) (by rfl) C_may_mark.g C_may_mark.kp C_may_mark.b .nil pass0 (pa_cons (pv 0) pa_nil)))
      (pss_one (ps_ret (pe_lc (own := [("start", 2), ("end", 3)]) rfl sc_blocks.nd (pi_zip (by rfl) m_zip (pa_cons (pv 1) (pa_cons (pe_slice sl_list (pv 1) (po_some pe_int) po_none) pa_nil))) (blkOk_by (own := [("start", 2), ("end", 3)]) (N := ["row", "ends", "start", "end"]) (sc := (defScope s_blocks)) (by decide +kernel)) (fun _ _ _ _ _ => (pg_tupK (K := K) (n := 2) rfl rfl (pgs_cons (pg_name (i := 2) sc_blocks.nd rfl (by first | exact Or.inl rfl | exact Or.inr rfl)) (pgs_cons (pg_name (i := 3) sc_blocks.nd rfl (by first | exact Or.inl rfl | exact Or.inr rfl)) pgs_nil)))) (fun _ _ _ _ _ => pts_nil) (fun _ _ _ _ _ => (pe_slice (sl_tupFK (K := K) rfl) (pv 0) (po_some (pv 2)) (po_some (pv 3)))))))), fun x hp => ?_⟩)
  obtain ⟨h1, hn⟩ := hp
  have hml := mayL_len x
  walk_at "s"
  walk_at "w"
  refine ⟨x, rfl, ⟨h1, hn⟩, ?_⟩
  walk_at "w"
  walk_at "s"
  apply ve_lcT (vs := [2, 3]) (fun p : Nat × Nat => PyData.tuple [.int (p.1 : Int), .int (p.2 : Int)]) ((mayL x).zip (mayL x).tail) (fun _ => true) (fun p => PyData.tuple (iL ((x.take p.2).drop p.1))) (by walk_at "n")
  walk_at "w"
  have e1 : Ld.cutD (iL (List.map Int.ofNat (mayL x))) (some 1) none = iL ((mayL x).tail.map Int.ofNat) := by
    rw [show (1 : Int) = ((1 : Nat) : Int) from rfl, cut_from, List.drop_one, iL, ← List.map_tail, ← List.map_tail]
  rw [e1]
  refine ⟨_, _, rfl, rfl, zip_NN _ _, by simp, gl_lt (by rw [List.length_zip]; omega), fun p hp => ⟨_, tg_pair (by decide) (by decide), fun acc srcs => ?_⟩, ?_⟩
  · walk_at "s"
    walk_at "w"
    refine ⟨rfl, fun _ => ?_, fun _ => rfl⟩
    walk_at "w"
    rw [cut_mid, iL_cut]
    exact ⟨rfl, rfl⟩
  walk_at "w"
  rw [fil_true, blk_zip]
theorem ok_blocksR {f : Addr} {fd : FuncData} (D : Df K mg "blocks" s_blocks ["row"] f fd) {C_NoRow : Addr} {f_may_markR : Addr} {d_may_markR : FuncData} (C_may_markR : CalR P w K mg base 5 "may_mark" ["row"] (spR K (fun i : Nat => [.dt (oddL.getD i .none)]) (fun i => i < 9) fun _ => C_NoRow) f_may_markR d_may_markR) : CalR P w K mg base 6 "blocks" ["row"] (spR K (fun i : Nat => [.dt (oddL.getD i .none)]) (fun i => i < 9) fun _ => C_NoRow) f fd := by
  refine D.calR (ok_R D.F sc_blocks (fun _ => rfl) (by decide) fun cdv A outer s H E hr => ⟨_, (pss_cons (ps_set (i := 1) sc_blocks.nd rfl (Or.inl rfl) (pe_callS C_may_markR.G (hr.mono (by decide)) (by rfl) C_may_markR.g C_may_markR.kp C_may_markR.b (fun σ => L2N.passAt (L2N.takes_of rfl rfl rfl rfl) σ) (pa_cons (pv 0) pa_nil)))
      (pss_one ps_never)), fun x S0 hp hE => ?_⟩)
  walk_at "s"
  refine sr_first (sr_asg fun ss => er_call ?_)
  walk_at "w"
  exact ⟨x, rfl, hp, hE⟩
theorem ok_blocksM {f : Addr} {fd : FuncData} (D : Df K mg "blocks" s_blocks ["row"] f fd) {C_Marked : Addr} {f_may_markM : Addr} {d_may_markM : FuncData} (C_may_markM : CalR P w K mg base 5 "may_mark" ["row"] (spR K (fun m : Nat => [.dt (.tuple [.int m, .none, .int 9])]) (fun m => m < 9) fun _ => C_Marked) f_may_markM d_may_markM) : CalR P w K mg base 6 "blocks" ["row"] (spR K (fun m : Nat => [.dt (.tuple [.int m, .none, .int 9])]) (fun m => m < 9) fun _ => C_Marked) f fd := by
  refine D.calR (ok_R D.F sc_blocks (fun _ => rfl) (by decide) fun cdv A outer s H E hr => ⟨_, (pss_cons (ps_set (i := 1) sc_blocks.nd rfl (Or.inl rfl) (pe_callS C_may_markM.G (hr.mono (by decide)) (by rfl) C_may_markM.g C_may_markM.kp C_may_markM.b (fun σ => L2N.passAt (L2N.takes_of rfl rfl rfl rfl) σ) (pa_cons (pv 0) pa_nil)))
      (pss_one ps_never)), fun x S0 hp hE => ?_⟩)
  walk_at "s"
  refine sr_first (sr_asg fun ss => er_call ?_)
  walk_at "w"
  exact ⟨x, rfl, hp, hE⟩
theorem ok_off {f : Addr} {fd : FuncData} (D : Df K mg "off" s_off ["row"] f fd) {f_counts : Addr} {d_counts : FuncData} (C_counts : Cal P w K mg base 4 "counts" ["row"] (spF K (fun r : List (Option Int) => [.dt (.tuple (oL r))]) RowOk fun r => .list (iL (gr (nums r)))) f_counts d_counts) (m_sum : mg "sum" = none) : Cal P w K mg base 5 "off" ["row"] (spF K (fun r : List (Option Int) => [.dt (.tuple (oL r))]) RowOk fun r => .int (gr (nums r)).sum) f fd := by
  refine D.cal (ok_G D.F sc_off (fun _ => rfl) (by decide) fun cdv A outer s H E hr => ⟨_, (pss_one (ps_ret (pe_callB (cr_sum rfl) (by rfl) m_sum (by decide +kernel) (pa_cons (pe_call C_counts.G (hr.mono (by decide)) (by rfl) C_counts.g C_counts.kp C_counts.b .nil pass0 (pa_cons (pv 0) pa_nil)) pa_nil)))), fun x hp => ?_⟩)
  walk_at "s"
  walk_at "w"
  refine ⟨x, rfl, hp, ?_⟩
  walk_at "w"
  refine c1_sum rd_dt ?_
  walk_at "w"
theorem ok_offR {f : Addr} {fd : FuncData} (D : Df K mg "off" s_off ["row"] f fd) {C_NoRow : Addr} {f_countsR : Addr} {d_countsR : FuncData} (C_countsR : CalR P w K mg base 4 "counts" ["row"] (spR K (fun i : Nat => [.dt (oddL.getD i .none)]) (fun i => i < 9) fun _ => C_NoRow) f_countsR d_countsR) (m_sum : mg "sum" = none) : CalR P w K mg base 5 "off" ["row"] (spR K (fun i : Nat => [.dt (oddL.getD i .none)]) (fun i => i < 9) fun _ => C_NoRow) f fd := by
  refine D.calR (ok_R D.F sc_off (fun _ => rfl) (by decide) fun cdv A outer s H E hr => ⟨_, (pss_one (ps_ret (pe_callB (cr_sum rfl) (by rfl) m_sum (by decide +kernel) (pa_cons (pe_callS C_countsR.G (hr.mono (by decide)) (by rfl) C_countsR.g C_countsR.kp C_countsR.b (fun σ => L2N.passAt (L2N.takes_of rfl rfl rfl rfl) σ) (pa_cons (pv 0) pa_nil)) pa_nil)))), fun x S0 hp hE => ?_⟩)
  walk_at "s"
  refine sr_ret fun ss => er_cb (ar_one (er_call ?_))
  walk_at "w"
  exact ⟨x, rfl, hp, hE⟩
theorem ok_opposite {f : Addr} {fd : FuncData} (D : Df K mg "opposite" s_opposite ["row"] f fd) {f_check_row : Addr} {d_check_row : FuncData} (C_check_row : Cal P w K mg base 3 "check_row" ["row"] (spF K (fun r : List (Option Int) => [.dt (.tuple (oL r))]) RowOk fun _ => .none) f_check_row d_check_row) (m_tuple : mg "tuple" = none) : Cal P w K mg base 4 "opposite" ["row"] (spF K (fun r : List (Option Int) => [.dt (.tuple (oL r))]) RowOk fun r => .tuple (oL (ot false r))) f fd := by
  refine D.cal (ok_G D.F sc_opposite (fun _ => rfl) (by decide) fun cdv A outer s H E hr => ⟨_, (pss_cons (ps_expr (pe_call C_check_row.G (hr.mono (by decide)) (by rfl) C_check_row.g C_check_row.kp C_check_row.b .nil pass0 (pa_cons (pv 0) pa_nil)))
      (pss_one (ps_ret (pe_callTy cl_tupleF (by rfl) m_tuple (by decide +kernel) (pa_cons (pe_lc (own := [("part", 1)]) rfl sc_opposite.nd (pi_tup (pv 0)) (blkOk_by (own := [("part", 1)]) (N := ["row", "part"]) (sc := (defScope s_opposite)) (by decide +kernel)) (fun _ _ _ _ _ => (pg_name (i := 1) sc_opposite.nd rfl (by first | exact Or.inl rfl | exact Or.inr rfl))) (fun _ _ _ _ _ => pts_nil) (fun _ _ _ _ _ => (pe_ifExp (pt_cmpR oi_isN (pv 1) pe_non (nomark _)) pe_non (pe_un un_neg (pv 1))))) pa_nil))))), fun x hp => ?_⟩)
  walk_at "s"
  walk_at "w"
  refine ⟨x, rfl, hp, ?_⟩
  walk_at "w"
  have hl := hp.1
  apply ve_lcT (vs := [1]) oD x (fun _ => true) (fun a => oD (a.map (sg false * ·))) (by walk_at "n")
  walk_at "w"
  refine ⟨rfl, by simp, gl_lt (by omega), fun a ha => ⟨_, tg_name (by decide), fun acc srcs => ?_⟩, ?_⟩
  · walk_at "s"
    cases a with
    | none =>
      walk_at "w"
      refine ⟨rfl, fun _ => ?_, fun _ => rfl⟩
      walk_at "w"
      exact ⟨rfl, rfl⟩
    | some a =>
      rw [show oD (some a) = PyData.int a from rfl]
      walk_at "w"
      refine ⟨rfl, fun _ => ?_, fun _ => rfl⟩
      walk_at "w"
      exact ⟨by show _ = PyData.int (sg false * a); rw [neg_sg], rfl⟩
  rw [fil_true]
  walk_at "w"
  rw [ot, oL, List.map_map]
  rfl
theorem ok_oppositeR {f : Addr} {fd : FuncData} (D : Df K mg "opposite" s_opposite ["row"] f fd) {C_NoRow : Addr} {f_check_rowR : Addr} {d_check_rowR : FuncData} (C_check_rowR : CalR P w K mg base 3 "check_row" ["row"] (spR K (fun i : Nat => [.dt (oddL.getD i .none)]) (fun i => i < 9) fun _ => C_NoRow) f_check_rowR d_check_rowR) : CalR P w K mg base 4 "opposite" ["row"] (spR K (fun i : Nat => [.dt (oddL.getD i .none)]) (fun i => i < 9) fun _ => C_NoRow) f fd := by
  refine D.calR (ok_R D.F sc_opposite (fun _ => rfl) (by decide) fun cdv A outer s H E hr => ⟨_, (pss_cons (ps_expr (pe_callS C_check_rowR.G (hr.mono (by decide)) (by rfl) C_check_rowR.g C_check_rowR.kp C_check_rowR.b (fun σ => L2N.passAt (L2N.takes_of rfl rfl rfl rfl) σ) (pa_cons (pv 0) pa_nil)))
      (pss_one ps_never)), fun x S0 hp hE => ?_⟩)
  walk_at "s"
  refine sr_first (sr_drop fun ss => er_call ?_)
  walk_at "w"
  exact ⟨x, rfl, hp, hE⟩
theorem ok_is_whole_withinO {f : Addr} {fd : FuncData} (D : Df K mg "is_whole_within" s_is_whole_within ["thing", "least", "most"] f fd) {f_is_wholeO : Addr} {d_is_wholeO : FuncData} (C_is_wholeO : Cal P w K mg base 1 "is_whole" ["thing"] (spF K (fun d : Dat => [.dt d]) (fun d => isK d = true) fun d => .bool (isI d)) f_is_wholeO d_is_wholeO) : Cal P w K mg base 2 "is_whole_within" ["thing", "least", "most"] (spF K (fun i : Nat => [.dt (oddN.getD i (.none, 0)).1, .dt (.int 0), .dt (.int (oddN.getD i (.none, 0)).2)]) (fun i => i < 11) fun _ => .bool false) f fd := by
  refine D.cal (ok_G D.F sc_is_whole_within (fun _ => rfl) (by decide) fun cdv A outer s H E hr => ⟨_, (pss_one (ps_ret (pe_and (pe_call C_is_wholeO.G (hr.mono (by decide)) (by rfl) C_is_wholeO.g C_is_wholeO.kp C_is_wholeO.b .nil pass0 (pa_cons (pv 0) pa_nil)) (pe_one (pe_chain op_le op_le (pv 1) (pv 0) (pv 2)))))), fun x hp => ?_⟩)
  obtain rfl | rfl | rfl | rfl | rfl | rfl | rfl | rfl | rfl | rfl | rfl : x = 0 ∨ x = 1 ∨ x = 2 ∨ x = 3 ∨ x = 4 ∨ x = 5 ∨ x = 6 ∨ x = 7 ∨ x = 8 ∨ x = 9 ∨ x = 10 := by omega
  · show VSs K (cells0 _ [.dt .none, .dt (.int 0), .dt (.int 24)]) _ _
    walk_at "s"
    walk_at "w"
    refine ⟨_, rfl, rfl, ?_⟩
    walk_at "w"
    try exact congrArg PyData.bool (by decide)
  · show VSs K (cells0 _ [.dt (.int (-1)), .dt (.int 0), .dt (.int 24)]) _ _
    walk_at "s"
    walk_at "w"
    refine ⟨_, rfl, rfl, ?_⟩
    walk_at "w"
    try exact congrArg PyData.bool (by decide)
  · show VSs K (cells0 _ [.dt (.int 25), .dt (.int 0), .dt (.int 24)]) _ _
    walk_at "s"
    walk_at "w"
    refine ⟨_, rfl, rfl, ?_⟩
    walk_at "w"
    try exact congrArg PyData.bool (by decide)
  · show VSs K (cells0 _ [.dt (.str "1"), .dt (.int 0), .dt (.int 24)]) _ _
    walk_at "s"
    walk_at "w"
    refine ⟨_, rfl, rfl, ?_⟩
    walk_at "w"
    try exact congrArg PyData.bool (by decide)
  · show VSs K (cells0 _ [.dt (.bool true), .dt (.int 0), .dt (.int 24)]) _ _
    walk_at "s"
    walk_at "w"
    refine ⟨_, rfl, rfl, ?_⟩
    walk_at "w"
    try exact congrArg PyData.bool (by decide)
  · show VSs K (cells0 _ [.dt (.tuple [.int 1]), .dt (.int 0), .dt (.int 24)]) _ _
    walk_at "s"
    walk_at "w"
    refine ⟨_, rfl, rfl, ?_⟩
    walk_at "w"
    try exact congrArg PyData.bool (by decide)
  · show VSs K (cells0 _ [.dt .none, .dt (.int 0), .dt (.int 9)]) _ _
    walk_at "s"
    walk_at "w"
    refine ⟨_, rfl, rfl, ?_⟩
    walk_at "w"
    try exact congrArg PyData.bool (by decide)
  · show VSs K (cells0 _ [.dt (.int (-1)), .dt (.int 0), .dt (.int 9)]) _ _
    walk_at "s"
    walk_at "w"
    refine ⟨_, rfl, rfl, ?_⟩
    walk_at "w"
    try exact congrArg PyData.bool (by decide)
  · show VSs K (cells0 _ [.dt (.int 10), .dt (.int 0), .dt (.int 9)]) _ _
    walk_at "s"
    walk_at "w"
    refine ⟨_, rfl, rfl, ?_⟩
    walk_at "w"
    try exact congrArg PyData.bool (by decide)
  · show VSs K (cells0 _ [.dt (.str "1"), .dt (.int 0), .dt (.int 9)]) _ _
    walk_at "s"
    walk_at "w"
    refine ⟨_, rfl, rfl, ?_⟩
    walk_at "w"
    try exact congrArg PyData.bool (by decide)
  · show VSs K (cells0 _ [.dt (.bool true), .dt (.int 0), .dt (.int 9)]) _ _
    walk_at "s"
    walk_at "w"
    refine ⟨_, rfl, rfl, ?_⟩
    walk_at "w"
    try exact congrArg PyData.bool (by decide)
theorem ok_check_places {f : Addr} {fd : FuncData} (D : DfD K mg "check_places" s_check_places ["places", "least"] (0) f fd) {f_is_whole_within : Addr} {d_is_whole_within : FuncData} (C_is_whole_within : Cal P w K mg base 2 "is_whole_within" ["thing", "least", "most"] (spF K (fun p : Int × Int × Int => [.dt (.int p.1), .dt (.int p.2.1), .dt (.int p.2.2)]) (fun _ => True) fun p => .bool (decide (p.2.1 ≤ p.1) && decide (p.1 ≤ p.2.2))) f_is_whole_within d_is_whole_within) (c_MOST_PLACES : GlobI K mg "MOST_PLACES" 9) : CalD P w K mg base 3 "check_places" ["places", "least"] (spF K (fun p : Nat × Nat => [.dt (.int p.1), .dt (.int p.2)]) (fun p => p.2 ≤ p.1 ∧ p.1 ≤ 9) fun _ => .none) (0) f fd := by
  refine D.cal (ok_Gd D.F sc_check_places (fun _ => rfl) (by decide) fun cdv A outer s H E hr => ⟨_, (pss_one (ps_if (pt_not (pt_val (pe_call C_is_whole_within.G (hr.mono (by decide)) (by rfl) C_is_whole_within.g C_is_whole_within.kp C_is_whole_within.b .nil pass0 (pa_cons (pv 0) (pa_cons (pv 1) (pa_cons (pe_glob (v := .int (9)) (by rfl) c_MOST_PLACES.u.choose_spec ⟨_, rfl⟩) pa_nil)))))) (pss_one ps_never) pss_nil)), fun x hp => ?_⟩)
  walk_at "s"
  walk_at "w"
  refine ⟨(x.1, x.2, 9), rfl, trivial, ?_⟩
  walk_at "w"
  · have h1 : decide ((x.2 : Int) ≤ (x.1 : Int)) = true := decide_eq_true (by have := hp.1; omega)
    have h2 : decide ((x.1 : Int) ≤ 9) = true := decide_eq_true (by have := hp.2; omega)
    simp [h1, h2] at *
    exfalso
    omega
theorem ok_check_placesR {f : Addr} {fd : FuncData} (D : DfD K mg "check_places" s_check_places ["places", "least"] (0) f fd) {f_is_whole_withinO : Addr} {d_is_whole_withinO : FuncData} (C_is_whole_withinO : Cal P w K mg base 2 "is_whole_within" ["thing", "least", "most"] (spF K (fun i : Nat => [.dt (oddN.getD i (.none, 0)).1, .dt (.int 0), .dt (.int (oddN.getD i (.none, 0)).2)]) (fun i => i < 11) fun _ => .bool false) f_is_whole_withinO d_is_whole_withinO) (c_MOST_PLACES : GlobI K mg "MOST_PLACES" 9) {C_NoPlaces : Addr} (x_NoPlaces : ExcF K mg "NoPlaces" C_NoPlaces) : CalRD P w K mg base 3 "check_places" ["places", "least"] (spR K (fun i : Nat => [.dt (oddN.getD (i + 6) (.none, 0)).1, .dt (.int 0)]) (fun i => i < 5) fun _ => C_NoPlaces) (0) f fd := by
  refine D.calR (ok_Rd D.F sc_check_places (fun _ => rfl) (by decide) fun cdv A outer s H E hr => ⟨_, (pss_one (ps_if (pt_not (pt_val (pe_call C_is_whole_withinO.G (hr.mono (by decide)) (by rfl) C_is_whole_withinO.g C_is_whole_withinO.kp C_is_whole_withinO.b .nil pass0 (pa_cons (pv 0) (pa_cons (pv 1) (pa_cons (pe_glob (v := .int (9)) (by rfl) c_MOST_PLACES.u.choose_spec ⟨_, rfl⟩) pa_nil)))))) (pss_one (L2N.ps_raise rfl (L2N.takes_of rfl rfl rfl rfl) (Xa.pmk_n1 PySem.F.excBase_ValueError x_NoPlaces.x x_NoPlaces.g x_NoPlaces.k (raises_own x_NoPlaces.b x_NoPlaces.t) rfl (pe_joined (PJ.cons pe_str (PJ.cons (pe_fmt (pv 1)) (PJ.cons pe_str (PJ.cons (pe_fmt (pe_glob (v := .int (9)) (by rfl) c_MOST_PLACES.u.choose_spec ⟨_, rfl⟩)) PJ.nil)))))))) pss_nil)), fun x S0 hp hE => ?_⟩)
  walk_at "s"
  refine sr_first (sr_if fun ss => ?_)
  walk_at "w"
  have hx : x < 5 := hp
  refine ⟨x + 6, ?_, by omega, ?_⟩
  · obtain rfl | rfl | rfl | rfl | rfl : x = 0 ∨ x = 1 ∨ x = 2 ∨ x = 3 ∨ x = 4 := (by omega) <;> rfl
  walk_at "w"
  refine sr_raise (ta := fun σ H Q => tJs _ Str.empty σ H fun out H1 => Q (.str out) H1) hE fun ss σ τ S Ev Q h => ?_
  obtain ⟨w, h1, h2⟩ := id Ev.ok
  obtain ⟨v, ev, dv⟩ := h1 1 _ rfl
  cases dv
  exact ⟨_, rfl, by decide, _, ev, .inr ⟨0, rfl, by decide, _, rfl, by decide, _, rfl, by decide, .inr ⟨9, rfl, by decide, _, rfl, by decide, h _⟩⟩⟩
theorem ok_sorted_by {f : Addr} {fd : FuncData} (D : Df K mg "sorted_by" s_sorted_by ["many", "places"] f fd) {f_check_places : Addr} {d_check_places : FuncData} (C_check_places : CalD P w K mg base 3 "check_places" ["places", "least"] (spF K (fun p : Nat × Nat => [.dt (.int p.1), .dt (.int p.2)]) (fun p => p.2 ≤ p.1 ∧ p.1 ≤ 9) fun _ => .none) (0) f_check_places d_check_places) {f_is_whole_within : Addr} {d_is_whole_within : FuncData} (C_is_whole_within : Cal P w K mg base 2 "is_whole_within" ["thing", "least", "most"] (spF K (fun p : Int × Int × Int => [.dt (.int p.1), .dt (.int p.2.1), .dt (.int p.2.2)]) (fun _ => True) fun p => .bool (decide (p.2.1 ≤ p.1) && decide (p.1 ≤ p.2.2))) f_is_whole_within d_is_whole_within) (m_min : mg "min" = none) (m_range : mg "range" = none) (c_MOST_THINGS : GlobI K mg "MOST_THINGS" 24) : Cal P w K mg base 4 "sorted_by" ["many", "places"] (spF K (fun p : Nat × Nat => [.dt (.int p.1), .dt (.int p.2)]) (fun p => p.1 ≤ 24 ∧ p.2 ≤ 9) fun p => .int (sby p.1 p.2 : Nat)) f fd := by
  refine D.cal (ok_G D.F sc_sorted_by (fun _ => rfl) (by decide) fun cdv A outer s H E hr => ⟨_, (pss_cons (ps_if (pt_not (pt_val (pe_call C_is_whole_within.G (hr.mono (by decide)) (by rfl) C_is_whole_within.g C_is_whole_within.kp C_is_whole_within.b .nil pass0 (pa_cons (pv 0) (pa_cons pe_int (pa_cons (pe_glob (v := .int (24)) (by rfl) c_MOST_THINGS.u.choose_spec ⟨_, rfl⟩) pa_nil)))))) (pss_one ps_never) pss_nil)
      (pss_cons (ps_expr (pe_call C_check_places.G (hr.mono (by decide)) (by rfl) C_check_places.g C_check_places.kp C_check_places.b1.choose_spec.2 C_check_places.b1.choose_spec.1 pass0 (pa_cons (pv 1) pa_nil)))
      (pss_cons (ps_set (i := 2) sc_sorted_by.nd rfl (Or.inl rfl) pe_int)
      (pss_cons (ps_for PassesOwn.never rfl (pi_range1 (by rfl) m_range (pa_cons (pv 0) pa_nil)) (pg_name (i := 3) sc_sorted_by.nd rfl (by first | exact Or.inl rfl | exact Or.inr rfl)) (pss_one (ps_aug (i := 2) sc_sorted_by.nd rfl (Or.inl rfl) (pe_op op_add (pe_callB (cl_min2 rfl) (by rfl) m_min (by decide +kernel) (pa_cons (pv 3) (pa_cons (pv 1) pa_nil))) pe_int) iop_mul)))
      (pss_one (ps_ret (pv 2))))))), fun x hp => ?_⟩)
  obtain ⟨n, b⟩ := x
  obtain ⟨h1, h2⟩ := hp
  dsimp only at h1 h2 ⊢
  walk_at "s"
  walk_at "w"
  refine ⟨(n, 0, 24), rfl, trivial, ?_⟩
  walk_at "w"
  · have h3 : decide ((n : Int) ≤ 24) = true := decide_eq_true (by omega)
    simp [h3] at *
  refine ⟨(b, 0), rfl, ⟨Nat.zero_le _, h2⟩, ?_⟩
  walk_at "w"
  walk_at "s"
  refine ss_for (fun i Γ => ∃ c : Cell, Γ = [.dt (.int n), .dt (.int b), .dt (.int (sby i b : Nat)), c]) fun ss => ?_
  walk_at "w"
  refine ⟨by omega, by omega, ⟨_, rfl⟩, fun i d Γ2 hd ⟨c, ec⟩ => ?_, fun Γ2 ⟨c, ec⟩ => ?_⟩
  · subst ec
    obtain ⟨hi, rfl⟩ := rng0 hd
    walk_at "w"
    walk_at "s"
    walk_at "w"
    refine ⟨_, _, rfl, rfl, .inr ⟨by omega, by omega⟩, ⟨.dt (.int i), ?_⟩⟩
    have e : ((sby i b : Nat) : Int) * (min (i : Int) (b : Int) + 1) = ((sby (i + 1) b : Nat) : Int) := by
      show _ = ((sby i b * (min i b + 1) : Nat) : Int)
      rw [Int.natCast_mul]
      congr 1
      omega
    rw [e]
  · subst ec
    rw [rng0_len]
    walk_at "w"
theorem ok_sorted_byR {f : Addr} {fd : FuncData} (D : Df K mg "sorted_by" s_sorted_by ["many", "places"] f fd) {f_is_whole_withinO : Addr} {d_is_whole_withinO : FuncData} (C_is_whole_withinO : Cal P w K mg base 2 "is_whole_within" ["thing", "least", "most"] (spF K (fun i : Nat => [.dt (oddN.getD i (.none, 0)).1, .dt (.int 0), .dt (.int (oddN.getD i (.none, 0)).2)]) (fun i => i < 11) fun _ => .bool false) f_is_whole_withinO d_is_whole_withinO) (c_MOST_THINGS : GlobI K mg "MOST_THINGS" 24) {C_TooMany : Addr} (x_TooMany : ExcF K mg "TooMany" C_TooMany) : CalR P w K mg base 3 "sorted_by" ["many", "places"] (spR K (fun i : Nat => [.dt (oddN.getD i (.none, 0)).1, .dt .none]) (fun i => i < 6) fun _ => C_TooMany) f fd := by
  refine D.calR (ok_R D.F sc_sorted_by (fun _ => rfl) (by decide) fun cdv A outer s H E hr => ⟨_, (pss_cons (ps_if (pt_not (pt_val (pe_call C_is_whole_withinO.G (hr.mono (by decide)) (by rfl) C_is_whole_withinO.g C_is_whole_withinO.kp C_is_whole_withinO.b .nil pass0 (pa_cons (pv 0) (pa_cons pe_int (pa_cons (pe_glob (v := .int (24)) (by rfl) c_MOST_THINGS.u.choose_spec ⟨_, rfl⟩) pa_nil)))))) (pss_one (L2N.ps_raise rfl (L2N.takes_of rfl rfl rfl rfl) (Xa.pmk_n1 PySem.F.excBase_ValueError x_TooMany.x x_TooMany.g x_TooMany.k (raises_own x_TooMany.b x_TooMany.t) rfl (pe_joined (PJ.cons pe_str (PJ.cons (pe_fmt (pe_glob (v := .int (24)) (by rfl) c_MOST_THINGS.u.choose_spec ⟨_, rfl⟩)) (PJ.cons pe_str PJ.nil))))))) pss_nil)
      (pss_cons ps_never
      (pss_cons ps_never
      (pss_cons ps_never
      (pss_one ps_never))))), fun x S0 hp hE => ?_⟩)
  walk_at "s"
  refine sr_first (sr_if fun ss => ?_)
  walk_at "w"
  have hx : x < 6 := hp
  refine ⟨x, ?_, by omega, ?_⟩
  · obtain rfl | rfl | rfl | rfl | rfl | rfl : x = 0 ∨ x = 1 ∨ x = 2 ∨ x = 3 ∨ x = 4 ∨ x = 5 := (by omega) <;> rfl
  walk_at "w"
  refine sr_raise (ta := fun σ H Q => tJs _ Str.empty σ H fun out H1 => Q (.str out) H1) hE fun ss σ τ S Ev Q h => ?_
  exact ⟨_, rfl, by decide, .inr ⟨24, rfl, by decide, _, rfl, by decide, _, rfl, by decide, h _⟩⟩
theorem ok_sorted_byP {f : Addr} {fd : FuncData} (D : Df K mg "sorted_by" s_sorted_by ["many", "places"] f fd) {C_NoPlaces : Addr} {f_check_placesR : Addr} {d_check_placesR : FuncData} (C_check_placesR : CalRD P w K mg base 3 "check_places" ["places", "least"] (spR K (fun i : Nat => [.dt (oddN.getD (i + 6) (.none, 0)).1, .dt (.int 0)]) (fun i => i < 5) fun _ => C_NoPlaces) (0) f_check_placesR d_check_placesR) {f_is_whole_within : Addr} {d_is_whole_within : FuncData} (C_is_whole_within : Cal P w K mg base 2 "is_whole_within" ["thing", "least", "most"] (spF K (fun p : Int × Int × Int => [.dt (.int p.1), .dt (.int p.2.1), .dt (.int p.2.2)]) (fun _ => True) fun p => .bool (decide (p.2.1 ≤ p.1) && decide (p.1 ≤ p.2.2))) f_is_whole_within d_is_whole_within) (c_MOST_THINGS : GlobI K mg "MOST_THINGS" 24) : CalR P w K mg base 4 "sorted_by" ["many", "places"] (spR K (fun i : Nat => [.dt (.int 3), .dt (oddN.getD (i + 6) (.none, 0)).1]) (fun i => i < 5) fun _ => C_NoPlaces) f fd := by
  refine D.calR (ok_R D.F sc_sorted_by (fun _ => rfl) (by decide) fun cdv A outer s H E hr => ⟨_, (pss_cons (ps_if (pt_not (pt_val (pe_call C_is_whole_within.G (hr.mono (by decide)) (by rfl) C_is_whole_within.g C_is_whole_within.kp C_is_whole_within.b .nil pass0 (pa_cons (pv 0) (pa_cons pe_int (pa_cons (pe_glob (v := .int (24)) (by rfl) c_MOST_THINGS.u.choose_spec ⟨_, rfl⟩) pa_nil)))))) (pss_one ps_never) pss_nil)
      (pss_cons (ps_expr (pe_callSD C_check_placesR.G (hr.mono (by decide)) (by rfl) C_check_placesR.g C_check_placesR.kp C_check_placesR.b1.choose_spec.2 C_check_placesR.b1.choose_spec.1 (fun σ => L2N.passAt (L2N.takes_of rfl rfl rfl rfl) σ) (pa_cons (pv 1) pa_nil)))
      (pss_cons ps_never
      (pss_cons ps_never
      (pss_one ps_never))))), fun x S0 hp hE => ?_⟩)
  walk_at "s"
  refine sr_seq ?_
  walk_at "w"
  refine ⟨(3, 0, 24), rfl, trivial, ?_⟩
  walk_at "w"
  refine sr_first (sr_drop fun ss => er_callD ?_)
  walk_at "w"
  exact ⟨x, rfl, hp, hE⟩
theorem ok_need_just {f : Addr} {fd : FuncData} (D : Df K mg "need_just" s_need_just ["many", "places"] f fd) {f_sorted_by : Addr} {d_sorted_by : FuncData} (C_sorted_by : Cal P w K mg base 4 "sorted_by" ["many", "places"] (spF K (fun p : Nat × Nat => [.dt (.int p.1), .dt (.int p.2)]) (fun p => p.1 ≤ 24 ∧ p.2 ≤ 9) fun p => .int (sby p.1 p.2 : Nat)) f_sorted_by d_sorted_by) : Cal P w K mg base 5 "need_just" ["many", "places"] (spF K (fun p : Nat × Nat => [.dt (.int p.1), .dt (.int p.2)]) (fun p => p.1 ≤ 24 ∧ p.2 ≤ 9) fun p => .int (nj p.1 p.2)) f fd := by
  refine D.cal (ok_G D.F sc_need_just (fun _ => rfl) (by decide) fun cdv A outer s H E hr => ⟨_, (pss_cons (ps_set (i := 2) sc_need_just.nd rfl (Or.inl rfl) (pe_call C_sorted_by.G (hr.mono (by decide)) (by rfl) C_sorted_by.g C_sorted_by.kp C_sorted_by.b .nil pass0 (pa_cons (pv 0) (pa_cons (pv 1) pa_nil))))
      (pss_cons (ps_if (pt_cmpR (op_eqD hr.units) (pv 1) pe_int (nomark _)) (pss_one (ps_ret (pv 2))) pss_nil)
      (pss_one (ps_ret (pe_op op_sub (pv 2) (pe_call C_sorted_by.G (hr.mono (by decide)) (by rfl) C_sorted_by.g C_sorted_by.kp C_sorted_by.b .nil pass0 (pa_cons (pv 0) (pa_cons (pe_op op_sub (pv 1) pe_int) pa_nil)))))))), fun x hp => ?_⟩)
  obtain ⟨n, b⟩ := x
  obtain ⟨h1, h2⟩ := hp
  dsimp only at h1 h2 ⊢
  walk_at "s"
  walk_at "w"
  refine ⟨(n, b), rfl, ⟨h1, h2⟩, ?_⟩
  walk_at "w"
  walk_at "s"
  walk_at "w"
  · have e0 := of_decide_eq_true ‹decide ((b : Int) = 0) = true›
    obtain rfl : b = 0 := by omega
    rfl
  have e0 := of_decide_eq_false ‹decide ((b : Int) = 0) = false›
  refine ⟨(n, b - 1), ?_, ⟨h1, (by omega : b - 1 ≤ 9)⟩, ?_⟩
  · rw [show (b : Int) - 1 = ((b - 1 : Nat) : Int) by omega]
  walk_at "w"
  rw [nj, if_neg (by omega)]
theorem ok_need_justR {f : Addr} {fd : FuncData} (D : Df K mg "need_just" s_need_just ["many", "places"] f fd) {C_TooMany : Addr} {f_sorted_byR : Addr} {d_sorted_byR : FuncData} (C_sorted_byR : CalR P w K mg base 3 "sorted_by" ["many", "places"] (spR K (fun i : Nat => [.dt (oddN.getD i (.none, 0)).1, .dt .none]) (fun i => i < 6) fun _ => C_TooMany) f_sorted_byR d_sorted_byR) : CalR P w K mg base 4 "need_just" ["many", "places"] (spR K (fun i : Nat => [.dt (oddN.getD i (.none, 0)).1, .dt .none]) (fun i => i < 6) fun _ => C_TooMany) f fd := by
  refine D.calR (ok_R D.F sc_need_just (fun _ => rfl) (by decide) fun cdv A outer s H E hr => ⟨_, (pss_cons (ps_set (i := 2) sc_need_just.nd rfl (Or.inl rfl) (pe_callS C_sorted_byR.G (hr.mono (by decide)) (by rfl) C_sorted_byR.g C_sorted_byR.kp C_sorted_byR.b (fun σ => L2N.passAt (L2N.takes_of rfl rfl rfl rfl) σ) (pa_cons (pv 0) (pa_cons (pv 1) pa_nil))))
      (pss_cons ps_never
      (pss_one ps_never))), fun x S0 hp hE => ?_⟩)
  walk_at "s"
  refine sr_first (sr_asg fun ss => er_call ?_)
  walk_at "w"
  exact ⟨x, rfl, hp, hE⟩
theorem ok_need_justP {f : Addr} {fd : FuncData} (D : Df K mg "need_just" s_need_just ["many", "places"] f fd) {C_NoPlaces : Addr} {f_sorted_byP : Addr} {d_sorted_byP : FuncData} (C_sorted_byP : CalR P w K mg base 4 "sorted_by" ["many", "places"] (spR K (fun i : Nat => [.dt (.int 3), .dt (oddN.getD (i + 6) (.none, 0)).1]) (fun i => i < 5) fun _ => C_NoPlaces) f_sorted_byP d_sorted_byP) : CalR P w K mg base 5 "need_just" ["many", "places"] (spR K (fun i : Nat => [.dt (.int 3), .dt (oddN.getD (i + 6) (.none, 0)).1]) (fun i => i < 5) fun _ => C_NoPlaces) f fd := by
  refine D.calR (ok_R D.F sc_need_just (fun _ => rfl) (by decide) fun cdv A outer s H E hr => ⟨_, (pss_cons (ps_set (i := 2) sc_need_just.nd rfl (Or.inl rfl) (pe_callS C_sorted_byP.G (hr.mono (by decide)) (by rfl) C_sorted_byP.g C_sorted_byP.kp C_sorted_byP.b (fun σ => L2N.passAt (L2N.takes_of rfl rfl rfl rfl) σ) (pa_cons (pv 0) (pa_cons (pv 1) pa_nil))))
      (pss_cons ps_never
      (pss_one ps_never))), fun x S0 hp hE => ?_⟩)
  walk_at "s"
  refine sr_first (sr_asg fun ss => er_call ?_)
  walk_at "w"
  exact ⟨x, rfl, hp, hE⟩
theorem ok__law_ask {f : Addr} {fd : FuncData} (D : Df K mg "_law_ask" s__law_ask ["_law_what", "_law_one", "_law_two"] f fd) {C_Marked : Addr} {C_NoPlaces : Addr} {C_NoRow : Addr} {C_TooMany : Addr} {f_blocks : Addr} {d_blocks : FuncData} (C_blocks : Cal P w K mg base 6 "blocks" ["row"] (spF K (fun N : List Int => [.dt (.tuple (iL N))]) (fun N => N.length ≤ 24 ∧ N.Nodup) fun N => .list (tL (blk N))) f_blocks d_blocks) {f_blocksM : Addr} {d_blocksM : FuncData} (C_blocksM : CalR P w K mg base 6 "blocks" ["row"] (spR K (fun m : Nat => [.dt (.tuple [.int m, .none, .int 9])]) (fun m => m < 9) fun _ => C_Marked) f_blocksM d_blocksM) {f_blocksR : Addr} {d_blocksR : FuncData} (C_blocksR : CalR P w K mg base 6 "blocks" ["row"] (spR K (fun i : Nat => [.dt (oddL.getD i .none)]) (fun i => i < 9) fun _ => C_NoRow) f_blocksR d_blocksR) {f_may_mark : Addr} {d_may_mark : FuncData} (C_may_mark : Cal P w K mg base 5 "may_mark" ["row"] (spF K (fun N : List Int => [.dt (.tuple (iL N))]) (fun N => N.length ≤ 24 ∧ N.Nodup) fun N => .list (iL ((mayL N).map Int.ofNat))) f_may_mark d_may_mark) {f_may_markM : Addr} {d_may_markM : FuncData} (C_may_markM : CalR P w K mg base 5 "may_mark" ["row"] (spR K (fun m : Nat => [.dt (.tuple [.int m, .none, .int 9])]) (fun m => m < 9) fun _ => C_Marked) f_may_markM d_may_markM) {f_may_markR : Addr} {d_may_markR : FuncData} (C_may_markR : CalR P w K mg base 5 "may_mark" ["row"] (spR K (fun i : Nat => [.dt (oddL.getD i .none)]) (fun i => i < 9) fun _ => C_NoRow) f_may_markR d_may_markR) {f_need_just : Addr} {d_need_just : FuncData} (C_need_just : Cal P w K mg base 5 "need_just" ["many", "places"] (spF K (fun p : Nat × Nat => [.dt (.int p.1), .dt (.int p.2)]) (fun p => p.1 ≤ 24 ∧ p.2 ≤ 9) fun p => .int (nj p.1 p.2)) f_need_just d_need_just) {f_need_justP : Addr} {d_need_justP : FuncData} (C_need_justP : CalR P w K mg base 5 "need_just" ["many", "places"] (spR K (fun i : Nat => [.dt (.int 3), .dt (oddN.getD (i + 6) (.none, 0)).1]) (fun i => i < 5) fun _ => C_NoPlaces) f_need_justP d_need_justP) {f_need_justR : Addr} {d_need_justR : FuncData} (C_need_justR : CalR P w K mg base 4 "need_just" ["many", "places"] (spR K (fun i : Nat => [.dt (oddN.getD i (.none, 0)).1, .dt .none]) (fun i => i < 6) fun _ => C_TooMany) f_need_justR d_need_justR) {f_off : Addr} {d_off : FuncData} (C_off : Cal P w K mg base 5 "off" ["row"] (spF K (fun r : List (Option Int) => [.dt (.tuple (oL r))]) RowOk fun r => .int (gr (nums r)).sum) f_off d_off) {f_offR : Addr} {d_offR : FuncData} (C_offR : CalR P w K mg base 5 "off" ["row"] (spR K (fun i : Nat => [.dt (oddL.getD i .none)]) (fun i => i < 9) fun _ => C_NoRow) f_offR d_offR) {f_opposite : Addr} {d_opposite : FuncData} (C_opposite : Cal P w K mg base 4 "opposite" ["row"] (spF K (fun r : List (Option Int) => [.dt (.tuple (oL r))]) RowOk fun r => .tuple (oL (ot false r))) f_opposite d_opposite) {f_oppositeR : Addr} {d_oppositeR : FuncData} (C_oppositeR : CalR P w K mg base 4 "opposite" ["row"] (spR K (fun i : Nat => [.dt (oddL.getD i .none)]) (fun i => i < 9) fun _ => C_NoRow) f_oppositeR d_oppositeR) {C_ShelfError : Addr} (g_ShelfError : mg "ShelfError" = some (.ref C_ShelfError)) {idx : Addr → Option Int} {f_w : Addr} {d_w : FuncData} (W_which : Xa.FnE P w K mg base 1 f_w d_w ["_law_e"] (spE idx)) (w_g : mg "_law_which" = some (.ref f_w)) (w_k : PySem.W.keepIn K (.ref f_w) = true) (w_b : Binds K d_w ["_law_e"] []) (w_eMarked : PySem.W.exmOne K (.ref C_Marked) (.ref C_ShelfError) = some true) (w_iMarked : idx C_Marked = some 4) (w_eNoPlaces : PySem.W.exmOne K (.ref C_NoPlaces) (.ref C_ShelfError) = some true) (w_iNoPlaces : idx C_NoPlaces = some 3) (w_eNoRow : PySem.W.exmOne K (.ref C_NoRow) (.ref C_ShelfError) = some true) (w_iNoRow : idx C_NoRow = some 0) (w_eTooMany : PySem.W.exmOne K (.ref C_TooMany) (.ref C_ShelfError) = some true) (w_iTooMany : idx C_TooMany = some 7) : Cal P w K mg base 7 "_law_ask" ["_law_what", "_law_one", "_law_two"] (spF K (fun p : Nat × Nat × Nat => askA p) (fun p => askP p) fun p => askV p) f fd := by
  cases C_may_mark.g.symm.trans C_may_markR.g
  cases C_may_mark.g.symm.trans C_may_markM.g
  cases C_blocks.g.symm.trans C_blocksR.g
  cases C_blocks.g.symm.trans C_blocksM.g
  cases C_off.g.symm.trans C_offR.g
  cases C_opposite.g.symm.trans C_oppositeR.g
  cases C_need_just.g.symm.trans C_need_justR.g
  cases C_need_just.g.symm.trans C_need_justP.g
  refine D.cal (ok_G D.F sc__law_ask askA_len (by decide) fun cdv A outer s H E hr => ⟨_, (pss_one (L2N.ps_try_as (i := 3) (ts := fun a cl d => tRet (tCall (spE idx a cl d) [] E0 (tCons (tVar 3) tNil))) rfl rfl sc__law_ask.nd rfl rfl ⟨rfl, by decide, .inl g_ShelfError⟩ Xa.takes0N (fun W pn xe tk _ => (pss_cons (ps_if (pt_cmpR op_lt (pv 0) pe_int (nomark _)) (pss_one (ps_ret (Xa.pe_callAny (E := fun σ => WE W σ) (Xa.ccons (Xa.cal0 C_may_mark.G (hr.mono (by decide)) C_may_mark.kp C_may_mark.b) (Xa.ccons (Xa.calW C_may_markR.G (hr.mono (by decide)) C_may_markR.kp C_may_markR.b tk) (Xa.ccons (Xa.calW C_may_markM.G (hr.mono (by decide)) C_may_markM.kp C_may_markM.b tk) (Xa.ccons (Xa.cal0 C_blocks.G (hr.mono (by decide)) C_blocks.kp C_blocks.b) (Xa.ccons (Xa.calW C_blocksR.G (hr.mono (by decide)) C_blocksR.kp C_blocksR.b tk) (Xa.ccons (Xa.calW C_blocksM.G (hr.mono (by decide)) C_blocksM.kp C_blocksM.b tk) (Xa.ccons (Xa.cal0 C_off.G (hr.mono (by decide)) C_off.kp C_off.b) (Xa.ccons (Xa.calW C_offR.G (hr.mono (by decide)) C_offR.kp C_offR.b tk) (Xa.ccons (Xa.cal0 C_opposite.G (hr.mono (by decide)) C_opposite.kp C_opposite.b) (Xa.ccons (Xa.calW C_oppositeR.G (hr.mono (by decide)) C_oppositeR.kp C_oppositeR.b tk) Xa.cnil)))))))))) (pe_ix (ix_listK (K := K) rfl) (pe_lst (pa_cons (pe_glob (v := .ref f_may_mark) (by rfl) C_may_mark.g rfl) (pa_cons (pe_glob (v := .ref f_blocks) (by rfl) C_blocks.g rfl) (pa_cons (pe_glob (v := .ref f_off) (by rfl) C_off.g rfl) (pa_cons (pe_glob (v := .ref f_opposite) (by rfl) C_opposite.g rfl) pa_nil))))) (pv 0) (fun _ _ => rfl)) (pa_cons (pv 1) pa_nil)))) pss_nil) (pss_one (ps_ret (Xa.pe_callAny (E := fun σ => WE W σ) (Xa.ccons (Xa.cal0 C_need_just.G (hr.mono (by decide)) C_need_just.kp C_need_just.b) (Xa.ccons (Xa.calW C_need_justR.G (hr.mono (by decide)) C_need_justR.kp C_need_justR.b tk) (Xa.ccons (Xa.calW C_need_justP.G (hr.mono (by decide)) C_need_justP.kp C_need_justP.b tk) Xa.cnil))) (pe_glob (v := .ref f_need_just) (by rfl) C_need_just.g rfl) (pa_cons (pv 1) (pa_cons (pv 2) pa_nil))))))) (fun a oe cls d pn hz hf => (pss_one (ps_ret (Xa.pe_callE (p := (a, oe)) (cls := cls) (d := d) W_which (L2H.RoomH.mono (Ld.roomX hr _) (by decide)) ⟨rfl, hf.choose, hf.choose_spec, hz.2.2 _ hf.choose_spec⟩ List.mem_cons_self hz (by rfl) w_g w_k w_b (pa_cons (pv 3) pa_nil))))))), fun x hp => ?_⟩)
  obtain ⟨c, i, j⟩ := x
  match c, hp with
  | 0, hp =>
    have hp1 : i < 4 := hp.1
    show VSs K [.dt (.int i), .dt (oddL.getD j .none), .dt .none, .no] _ _
    refine ss_tryIf true (fun ss => ?_) (fun e => ?_) (fun e => ?_)
    · walk_at "w"
      exact ⟨decide_eq_true (by omega), rfl⟩
    · obtain rfl | rfl | rfl | rfl : i = 0 ∨ i = 1 ∨ i = 2 ∨ i = 3 := by omega
      · refine ss_tryTab (fs := [f_may_mark, f_blocks, f_off, f_opposite]) (j := 0) (f := f_may_mark) (by show 3 < 4; decide) (by simp) rfl rfl (List.mem_cons_of_mem _ List.mem_cons_self) (fun ss => ?_)
        walk_at "w"
        exact ⟨j, 0, rfl, hp.2, w_eNoRow, w_iNoRow, rfl⟩
      · refine ss_tryTab (fs := [f_may_mark, f_blocks, f_off, f_opposite]) (j := 1) (f := f_blocks) (by show 3 < 4; decide) (by simp) rfl rfl (List.mem_cons_of_mem _ (List.mem_cons_of_mem _ (List.mem_cons_of_mem _ (List.mem_cons_of_mem _ List.mem_cons_self)))) (fun ss => ?_)
        walk_at "w"
        exact ⟨j, 0, rfl, hp.2, w_eNoRow, w_iNoRow, rfl⟩
      · refine ss_tryTab (fs := [f_may_mark, f_blocks, f_off, f_opposite]) (j := 2) (f := f_off) (by show 3 < 4; decide) (by simp) rfl rfl (List.mem_cons_of_mem _ (List.mem_cons_of_mem _ (List.mem_cons_of_mem _ (List.mem_cons_of_mem _ (List.mem_cons_of_mem _ (List.mem_cons_of_mem _ (List.mem_cons_of_mem _ List.mem_cons_self))))))) (fun ss => ?_)
        walk_at "w"
        exact ⟨j, 0, rfl, hp.2, w_eNoRow, w_iNoRow, rfl⟩
      · refine ss_tryTab (fs := [f_may_mark, f_blocks, f_off, f_opposite]) (j := 3) (f := f_opposite) (by show 3 < 4; decide) (by simp) rfl rfl (List.mem_cons_of_mem _ (List.mem_cons_of_mem _ (List.mem_cons_of_mem _ (List.mem_cons_of_mem _ (List.mem_cons_of_mem _ (List.mem_cons_of_mem _ (List.mem_cons_of_mem _ (List.mem_cons_of_mem _ (List.mem_cons_of_mem _ List.mem_cons_self))))))))) (fun ss => ?_)
        walk_at "w"
        exact ⟨j, 0, rfl, hp.2, w_eNoRow, w_iNoRow, rfl⟩
    · cases e
  | 1, hp =>
    have hp1 : i < 3 := hp.1
    have hp2 : j < 9 := hp.2
    show VSs K [.dt (.int i), .dt (.tuple [.int j, .none, .int 9]), .dt .none, .no] _ _
    refine ss_tryIf true (fun ss => ?_) (fun e => ?_) (fun e => ?_)
    · walk_at "w"
      exact ⟨decide_eq_true (by omega), rfl⟩
    · obtain rfl | rfl | rfl : i = 0 ∨ i = 1 ∨ i = 2 := by omega
      · refine ss_tryTab (fs := [f_may_mark, f_blocks, f_off, f_opposite]) (j := 0) (f := f_may_mark) (by show 3 < 4; decide) (by simp) rfl rfl (List.mem_cons_of_mem _ (List.mem_cons_of_mem _ List.mem_cons_self)) (fun ss => ?_)
        walk_at "w"
        exact ⟨j, 4, rfl, hp.2, w_eMarked, w_iMarked, rfl⟩
      · refine ss_tryTab (fs := [f_may_mark, f_blocks, f_off, f_opposite]) (j := 1) (f := f_blocks) (by show 3 < 4; decide) (by simp) rfl rfl (List.mem_cons_of_mem _ (List.mem_cons_of_mem _ (List.mem_cons_of_mem _ (List.mem_cons_of_mem _ (List.mem_cons_of_mem _ List.mem_cons_self))))) (fun ss => ?_)
        walk_at "w"
        exact ⟨j, 4, rfl, hp.2, w_eMarked, w_iMarked, rfl⟩
      · refine ss_retD fun D ss => ?_
        refine vd_of (ve_callTab (fs := [f_may_mark, f_blocks, f_off, f_opposite]) (j := 2) (f := f_off) (by simp) rfl rfl (List.mem_cons_of_mem _ (List.mem_cons_of_mem _ (List.mem_cons_of_mem _ (List.mem_cons_of_mem _ (List.mem_cons_of_mem _ (List.mem_cons_of_mem _ List.mem_cons_self)))))) ?_)
        walk_at "w"
        refine ⟨[some (j : Int), none, some 9], rfl, ⟨(by show 3 ≤ 24; decide), by show [(j : Int), 9].Nodup; simp; omega⟩, ?_⟩
        intro d ed
        subst ed
        walk_at "w"
        show PyData.int (gr [(j : Int), 9]).sum = PyData.int 0
        refine congrArg PyData.int ?_
        simp [gr]
        omega
    · cases e
  | 2, hp =>
    show VSs K [.dt (.int 4), .dt (oddN.getD j (.none, 0)).1, .dt .none, .no] _ _
    refine ss_tryIf false (fun ss => ?_) (fun e => ?_) (fun e => ?_)
    · walk_at "w"
      exact ⟨by decide, rfl⟩
    · cases e
    · refine ss_tryRef (by show 3 < 4; decide) (List.mem_cons_of_mem _ List.mem_cons_self) (fun ss => ?_)
      walk_at "w"
      exact ⟨j, 7, rfl, hp, w_eTooMany, w_iTooMany, rfl⟩
  | 3, hp =>
    show VSs K [.dt (.int 4), .dt (.int 3), .dt (oddN.getD (j + 6) (.none, 0)).1, .no] _ _
    refine ss_tryIf false (fun ss => ?_) (fun e => ?_) (fun e => ?_)
    · walk_at "w"
      exact ⟨by decide, rfl⟩
    · cases e
    · refine ss_tryRef (by show 3 < 4; decide) (List.mem_cons_of_mem _ (List.mem_cons_of_mem _ List.mem_cons_self)) (fun ss => ?_)
      walk_at "w"
      exact ⟨j, 3, rfl, hp, w_eNoPlaces, w_iNoPlaces, rfl⟩
  | 4, hp =>
    have hp1 : i < 4 := hp
    show VSs K [.dt (.int i), .dt (.tuple []), .dt .none, .no] _ _
    refine ss_tryIf true (fun ss => ?_) (fun e => ?_) (fun e => ?_)
    · walk_at "w"
      exact ⟨decide_eq_true (by omega), rfl⟩
    · obtain rfl | rfl | rfl | rfl : i = 0 ∨ i = 1 ∨ i = 2 ∨ i = 3 := by omega
      · refine ss_retD fun D ss => ?_
        refine vd_of (ve_callTab (fs := [f_may_mark, f_blocks, f_off, f_opposite]) (j := 0) (f := f_may_mark) (by simp) rfl rfl List.mem_cons_self ?_)
        walk_at "w"
        refine ⟨[], rfl, ⟨by decide, by decide⟩, ?_⟩
        intro d ed
        subst ed
        walk_at "w"
        rfl
      · refine ss_retD fun D ss => ?_
        refine vd_of (ve_callTab (fs := [f_may_mark, f_blocks, f_off, f_opposite]) (j := 1) (f := f_blocks) (by simp) rfl rfl (List.mem_cons_of_mem _ (List.mem_cons_of_mem _ (List.mem_cons_of_mem _ List.mem_cons_self))) ?_)
        walk_at "w"
        refine ⟨[], rfl, ⟨by decide, by decide⟩, ?_⟩
        intro d ed
        subst ed
        walk_at "w"
        rfl
      · refine ss_retD fun D ss => ?_
        refine vd_of (ve_callTab (fs := [f_may_mark, f_blocks, f_off, f_opposite]) (j := 2) (f := f_off) (by simp) rfl rfl (List.mem_cons_of_mem _ (List.mem_cons_of_mem _ (List.mem_cons_of_mem _ (List.mem_cons_of_mem _ (List.mem_cons_of_mem _ (List.mem_cons_of_mem _ List.mem_cons_self)))))) ?_)
        walk_at "w"
        refine ⟨[], rfl, ⟨by decide, by decide⟩, ?_⟩
        intro d ed
        subst ed
        walk_at "w"
        rfl
      · refine ss_retD fun D ss => ?_
        refine vd_of (ve_callTab (fs := [f_may_mark, f_blocks, f_off, f_opposite]) (j := 3) (f := f_opposite) (by simp) rfl rfl (List.mem_cons_of_mem _ (List.mem_cons_of_mem _ (List.mem_cons_of_mem _ (List.mem_cons_of_mem _ (List.mem_cons_of_mem _ (List.mem_cons_of_mem _ (List.mem_cons_of_mem _ (List.mem_cons_of_mem _ List.mem_cons_self)))))))) ?_)
        walk_at "w"
        refine ⟨[], rfl, ⟨by decide, by decide⟩, ?_⟩
        intro d ed
        subst ed
        walk_at "w"
        rfl
    · cases e
  | 5, hp =>
    show VSs K [.dt (.int 4), .dt (.int 24), .dt (.int 0), .no] _ _
    refine ss_tryIf false (fun ss => ?_) (fun e => ?_) (fun e => ?_)
    · walk_at "w"
      exact ⟨by decide, rfl⟩
    · cases e
    · refine ss_retD fun D ss => ?_
      refine vd_of (ve_callRef List.mem_cons_self ?_)
      walk_at "w"
      refine ⟨(24, 0), rfl, ⟨by decide, by decide⟩, ?_⟩
      intro d ed
      subst ed
      walk_at "w"
      show PyData.int (nj 24 0) = PyData.int 1
      exact congrArg PyData.int (by decide +kernel)
  | c + 6, hp =>
    show VSs K [.dt (.int 3), .dt (.tuple [.int 3, .none, .int (-1)]), .dt .none, .no] _ _
    refine ss_tryIf true (fun ss => ?_) (fun e => ?_) (fun e => ?_)
    · walk_at "w"
      exact ⟨decide_eq_true (by decide), rfl⟩
    · refine ss_retD fun D ss => ?_
      refine vd_of (ve_callTab (fs := [f_may_mark, f_blocks, f_off, f_opposite]) (j := 3) (f := f_opposite) (by simp) rfl rfl (List.mem_cons_of_mem _ (List.mem_cons_of_mem _ (List.mem_cons_of_mem _ (List.mem_cons_of_mem _ (List.mem_cons_of_mem _ (List.mem_cons_of_mem _ (List.mem_cons_of_mem _ (List.mem_cons_of_mem _ List.mem_cons_self)))))))) ?_)
      walk_at "w"
      refine ⟨[some 3, none, some (-1)], rfl, ⟨(by show 3 ≤ 24; decide), by decide⟩, ?_⟩
      intro d ed
      subst ed
      walk_at "w"
      rfl
    · cases e
theorem ok__law_cell_at {f : Addr} {fd : FuncData} (D : Df K mg "_law_cell_at" s__law_cell_at ["_law_script", "_law_k"] f fd) (m_len : mg "len" = none) (m_min : mg "min" = none) (m_range : mg "range" = none) : Cal P w K mg base 1 "_law_cell_at" ["_law_script", "_law_k"] (spG K (fun p : List Int × Nat => [.sc p.1, .dt (.int p.2)]) (fun p => p.1.length ≤ 63) fun _ d => ∃ i, d = .int i) f fd := by
  refine D.cal (ok_G D.F sc__law_cell_at (fun _ => rfl) (by decide) fun cdv A outer s H E hr => ⟨_, (pss_cons (ps_if (pt_cmpR op_lt (pv 1) (pe_callB cl_len (by rfl) m_len PySem.boot_len (pa_cons (pv 0) pa_nil)) (nomark _)) (pss_one (ps_ret (pe_ix ix_list (pv 0) (pv 1) (fun _ _ => rfl)))) pss_nil)
      (pss_cons (ps_if (pt_cmpR (op_eqD hr.units) (pv 0) (pe_lst pa_nil) (nomark _)) (pss_one (ps_ret pe_int)) pss_nil)
      (pss_cons (ps_set (i := 2) sc__law_cell_at.nd rfl (Or.inl rfl) (pe_ix ix_list (pv 0) (pe_op op_mod (pv 1) (pe_callB cl_len (by rfl) m_len PySem.boot_len (pa_cons (pv 0) pa_nil))) (fun _ _ => rfl)))
      (pss_cons (ps_for PassesOwn.never rfl (pi_range1 (by rfl) m_range (pa_cons (pe_callB (cl_min2 rfl) (by rfl) m_min (by decide +kernel) (pa_cons (pe_op op_fdiv (pv 1) (pe_callB cl_len (by rfl) m_len PySem.boot_len (pa_cons (pv 0) pa_nil))) (pa_cons pe_int pa_nil))) pa_nil)) (pg_name (i := 3) sc__law_cell_at.nd rfl (by first | exact Or.inl rfl | exact Or.inr rfl)) (pss_one (ps_set (i := 2) sc__law_cell_at.nd rfl (Or.inl rfl) (pe_op op_fdiv (pv 2) pe_int))))
      (pss_one (ps_ret (pe_op op_add (pe_op op_add (pe_op op_mul (pe_ix ix_list (pv 0) (pe_op op_mod (pv 1) (pe_callB cl_len (by rfl) m_len PySem.boot_len (pa_cons (pv 0) pa_nil))) (fun _ _ => rfl)) pe_int) (pv 1)) (pe_op op_mul (pv 2) pe_int)))))))), fun x hp => ?_⟩)
  obtain ⟨ns, k⟩ := x
  dsimp only at hp
  walk_at "s"
  walk_at "w"
  · have h := of_decide_eq_true ‹decide ((k : Int) < (ns.length : Int)) = true›
    obtain ⟨x, hx, _⟩ := atI_in (xs := ns) (i := (k : Int)) (by omega) h
    refine r2_ixS hx ?_
    walk_at "w"
    exact ⟨_, rfl⟩
  refine r2_eqSL (ys := []) rd_fr ?_
  walk_at "w"
  · exact ⟨_, rfl⟩
  have hl : 0 < ns.length := List.length_pos_iff.mpr (of_decide_eq_false ‹decide (ns = []) = false›)
  have hm : ∃ x, atI ns ((k : Int) % (ns.length : Int)) = some x ∧ x ∈ ns := atI_in (Int.emod_nonneg _ (by omega)) (Int.emod_lt_of_pos _ (by omega))
  obtain ⟨y, hy, _⟩ := hm
  walk_at "w"
  refine r2_ixS hy ?_
  walk_at "w"
  refine ss_for (fun i Γ => ∃ a c, Γ = [.sc ns, .dt (.int k), .dt (.int a), c]) fun ss => ?_
  walk_at "w"
  have hq : 0 ≤ (k : Int) / (ns.length : Int) := Int.ediv_nonneg (by omega) (by omega)
  refine ⟨by omega, by omega, ⟨_, _, rfl⟩, fun i d Γ2 hd ⟨a, c, ec⟩ => ?_, fun Γ2 ⟨a, c, ec⟩ => ?_⟩
  · subst ec
    have hi : i < (rngD 0 (min ((k : Int) / (ns.length : Int)) 60)).length := (List.getElem?_eq_some_iff.mp hd).1
    rw [rngD_len] at hi
    rw [rngD_at hi] at hd
    cases hd
    walk_at "w"
    walk_at "s"
    exact ⟨_, _, rfl⟩
  · subst ec
    walk_at "w"
    refine r2_ixS hy ?_
    walk_at "w"
    exact ⟨_, rfl⟩
theorem ok__law_mixed {f : Addr} {fd : FuncData} (D : Df K mg "_law_mixed" s__law_mixed ["_law_script", "_law_k", "_law_bound"] f fd) {f__law_cell_at : Addr} {d__law_cell_at : FuncData} (C__law_cell_at : Cal P w K mg base 1 "_law_cell_at" ["_law_script", "_law_k"] (spG K (fun p : List Int × Nat => [.sc p.1, .dt (.int p.2)]) (fun p => p.1.length ≤ 63) fun _ d => ∃ i, d = .int i) f__law_cell_at d__law_cell_at) : Cal P w K mg base 2 "_law_mixed" ["_law_script", "_law_k", "_law_bound"] (spG K (fun p : List Int × Nat × Nat => [.sc p.1, .dt (.int p.2.1), .dt (.int p.2.2)]) (fun p => p.1.length ≤ 63 ∧ 0 < p.2.2) fun p d => ∃ i : Nat, d = .int i ∧ i < p.2.2) f fd := by
  refine D.cal (ok_G D.F sc__law_mixed (fun _ => rfl) (by decide) fun cdv A outer s H E hr => ⟨_, (pss_cons (ps_set (i := 3) sc__law_mixed.nd rfl (Or.inl rfl) (pe_op op_mod (pe_op op_add (pe_op op_add (pe_op op_mul (pe_call C__law_cell_at.G (hr.mono (by decide)) (by rfl) C__law_cell_at.g C__law_cell_at.kp C__law_cell_at.b .nil pass0 (pa_cons (pv 0) (pa_cons (pv 1) pa_nil))) pe_int) (pe_op op_mul pe_int (pv 1))) pe_int) pe_int))
      (pss_one (ps_ret (pe_op op_mod (pe_op op_mod (pe_op op_mod (pe_op op_pow (pv 3) pe_int) pe_int) pe_int) (pv 2))))), fun x hp => ?_⟩)
  obtain ⟨ns, k, b⟩ := x
  dsimp only at hp
  have hb := hp.2
  walk_at "s"
  walk_at "w"
  refine ⟨(ns, k), rfl, hp.1, fun d ⟨i, e⟩ => ?_⟩
  subst e
  walk_at "w"
  
  have h1 := Int.emod_nonneg (((i * 1103515245 + 7919 * (k : Int) + 12345) % 2147483647) ^ (5 : Int).toNat % 2147483647 % 999983) (show (b : Int) ≠ 0 by omega)
  have h2 := Int.emod_lt_of_pos (((i * 1103515245 + 7919 * (k : Int) + 12345) % 2147483647) ^ (5 : Int).toNat % 2147483647 % 999983) (show (0 : Int) < b by omega)
  obtain ⟨n, hn⟩ := Int.eq_ofNat_of_zero_le h1
  exact ⟨n, by rw [← hn], by omega⟩
theorem ok__law_draw {f : Addr} {fd : FuncData} (D : Df K mg "_law_draw" s__law_draw ["_law_script", "_law_town", "_law_bound"] f fd) {f__law_mixed : Addr} {d__law_mixed : FuncData} (C__law_mixed : Cal P w K mg base 2 "_law_mixed" ["_law_script", "_law_k", "_law_bound"] (spG K (fun p : List Int × Nat × Nat => [.sc p.1, .dt (.int p.2.1), .dt (.int p.2.2)]) (fun p => p.1.length ≤ 63 ∧ 0 < p.2.2) fun p d => ∃ i : Nat, d = .int i ∧ i < p.2.2) f__law_mixed d__law_mixed) (m_len : mg "len" = none) : Cal P w K mg base 3 "_law_draw" ["_law_script", "_law_town", "_law_bound"] (spW K (fun p : List Int × Nat => (.sc p.1, [.dt (.int p.2)])) (fun p zs => p.1.length ≤ 63 ∧ 0 < p.2 ∧ zs.length ≤ 50000) fun p zs zs1 d => zs1.length = zs.length + 1 ∧ ∃ i : Nat, d = .int i ∧ i < p.2) f fd := by
  refine D.cal (ok_W D.F sc__law_draw (fun _ => rfl) (by decide) fun cdv A outer s H E hr => ⟨_, (pss_cons (ps_expr (pe_bm PySem.F.plainAttrs_list PySem.F.slot_list_append PySem.F.type_list_append mt_append (pv 1) (pa_cons pe_int pa_nil)))
      (pss_one (ps_ret (pe_call C__law_mixed.G (hr.mono (by decide)) (by rfl) C__law_mixed.g C__law_mixed.kp C__law_mixed.b .nil pass0 (pa_cons (pv 0) (pa_cons (pe_callB cl_len (by rfl) m_len PySem.boot_len (pa_cons (pv 1) pa_nil)) (pa_cons (pv 2) pa_nil))))))), fun x zs hp => ?_⟩)
  obtain ⟨ns, b⟩ := x
  dsimp only at hp
  walk_at "s"
  walk_at "w"
  refine ⟨_, _, rfl, isl_ln rfl, gl_lt (by omega), ?_⟩
  walk_at "s"
  walk_at "w"
  refine ⟨(ns, (zs ++ [PyData.int 0]).length, b), rfl, ⟨hp.1, hp.2.1⟩, fun d h => ?_⟩
  walk_at "w"
  exact ⟨_, rfl, by simp, h⟩
theorem ok_law {f : Addr} {fd : FuncData} (D : Df K mg "law" s_law ["_law_script"] f fd) {f__law_ask : Addr} {d__law_ask : FuncData} (C__law_ask : Cal P w K mg base 7 "_law_ask" ["_law_what", "_law_one", "_law_two"] (spF K (fun p : Nat × Nat × Nat => askA p) (fun p => askP p) fun p => askV p) f__law_ask d__law_ask) {f__law_draw : Addr} {d__law_draw : FuncData} (C__law_draw : Cal P w K mg base 3 "_law_draw" ["_law_script", "_law_town", "_law_bound"] (spW K (fun p : List Int × Nat => (.sc p.1, [.dt (.int p.2)])) (fun p zs => p.1.length ≤ 63 ∧ 0 < p.2 ∧ zs.length ≤ 50000) fun p zs zs1 d => zs1.length = zs.length + 1 ∧ ∃ i : Nat, d = .int i ∧ i < p.2) f__law_draw d__law_draw) (m_list : mg "list" = none) (m_range : mg "range" = none) (m_tuple : mg "tuple" = none) : Cal P w K mg base 8 "law" ["_law_script"] (spF K (fun ns : List Int => [.sc ns]) (fun ns => ns.length ≤ 63) fun _ => .bool true) f fd := by
  refine D.cal (ok_G D.F sc_law (fun _ => rfl) (by decide) fun cdv A outer s H E hr => ⟨_, (pss_cons (ps_set (i := 1) sc_law.nd rfl (Or.inl rfl) (pe_lst pa_nil))
      (pss_cons (ps_set (i := 2) sc_law.nd rfl (Or.inl rfl) (pe_lst (pa_cons pe_non (pa_cons pe_int (pa_cons (pe_lst (pa_cons pe_int (pa_cons pe_int pa_nil))) (pa_cons (pe_tupF (pa_cons pe_int (pa_cons pe_int pa_nil))) (pa_cons (pe_tupF (pa_cons pe_int (pa_cons pe_str pa_nil))) (pa_cons (pe_tupF (pa_cons pe_bl (pa_cons pe_int pa_nil))) (pa_cons (pe_callTy cl_tupleF (by rfl) m_tuple (by decide +kernel) (pa_cons (pe_listRg rfl (by rfl) m_list (prg_1 (by rfl) m_range pe_int)) pa_nil)) (pa_cons (pe_tupF (pa_cons (pe_tupF (pa_cons pe_int pa_nil)) pa_nil)) (pa_cons (pe_tupF (pa_cons pe_int (pa_cons pe_bl pa_nil))) pa_nil)))))))))))
      (pss_cons (ps_for PassesOwn.never rfl (pi_list (pv 2)) (pg_name (i := 3) sc_law.nd rfl (by first | exact Or.inl rfl | exact Or.inr rfl)) (pss_one (ps_stop (ps_if (pt_cmpR (op_neD hr.units) (pe_lc (own := [("_law_what", 7)]) rfl sc_law.nd (pi_range1 (by rfl) m_range (pa_cons pe_int pa_nil)) (blkOk_by (own := [("_law_what", 7)]) (N := ["_law_script", "_law_town", "_law_odd", "_law_off_one", "_law_marked", "_law_many", "_law_some", "_law_what"]) (sc := (defScope s_law)) (by decide +kernel)) (fun _ _ _ _ _ => (pg_name (i := 7) sc_law.nd rfl (by first | exact Or.inl rfl | exact Or.inr rfl))) (fun _ _ _ _ _ => pts_nil) (fun _ _ _ _ _ => (pe_call C__law_ask.G (hr.mono (by decide)) (by rfl) C__law_ask.g C__law_ask.kp C__law_ask.b .nil pass0 (pa_cons (pv 7) (pa_cons (pv 3) (pa_cons pe_non pa_nil)))))) (pe_op op_rep (pe_lst (pa_cons (pe_tupF (pa_cons pe_str (pa_cons pe_int pa_nil))) pa_nil)) pe_int) (nomark _)) (pss_one (ps_ret pe_bl)) pss_nil))))
      (pss_cons (ps_set (i := 4) sc_law.nd rfl (Or.inr rfl) (pe_tupF (pa_cons (pe_call C__law_draw.G (hr.mono (by decide)) (by rfl) C__law_draw.g C__law_draw.kp C__law_draw.b .nil pass0 (pa_cons (pv 0) (pa_cons (pv 1) (pa_cons pe_int pa_nil)))) (pa_cons pe_non (pa_cons pe_int pa_nil)))))
      (pss_cons (ps_stop (ps_if (pt_stop (PW.pt (pw_or (pt_cmpR (op_neD hr.units) (pe_lc (own := [("_law_what", 7)]) rfl sc_law.nd (pi_range1 (by rfl) m_range (pa_cons pe_int pa_nil)) (blkOk_by (own := [("_law_what", 7)]) (N := ["_law_script", "_law_town", "_law_odd", "_law_off_one", "_law_marked", "_law_many", "_law_some", "_law_what"]) (sc := (defScope s_law)) (by decide +kernel)) (fun _ _ _ _ _ => (pg_name (i := 7) sc_law.nd rfl (by first | exact Or.inl rfl | exact Or.inr rfl))) (fun _ _ _ _ _ => pts_nil) (fun _ _ _ _ _ => (pe_call C__law_ask.G (hr.mono (by decide)) (by rfl) C__law_ask.g C__law_ask.kp C__law_ask.b .nil pass0 (pa_cons (pv 7) (pa_cons (pv 4) (pa_cons pe_non pa_nil)))))) (pe_op op_rep (pe_lst (pa_cons (pe_tupF (pa_cons pe_str (pa_cons pe_int pa_nil))) pa_nil)) pe_int) (nomark _)) (pw_or1 (pt_cmpR (op_neD hr.units) (pe_call C__law_ask.G (hr.mono (by decide)) (by rfl) C__law_ask.g C__law_ask.kp C__law_ask.b .nil pass0 (pa_cons pe_int (pa_cons (pv 4) (pa_cons pe_non pa_nil)))) pe_int (nomark _)))))) (pss_one (ps_ret pe_bl)) pss_nil))
      (pss_cons (ps_for PassesOwn.never rfl (pi_list (pe_lst (pa_cons pe_non (pa_cons (pe_un un_neg pe_int) (pa_cons pe_int (pa_cons pe_str (pa_cons pe_bl (pa_cons (pe_tupF (pa_cons pe_int pa_nil)) pa_nil)))))))) (pg_name (i := 5) sc_law.nd rfl (by first | exact Or.inl rfl | exact Or.inr rfl)) (pss_one (ps_stop (ps_if (pt_cmpR (op_neD hr.units) (pe_call C__law_ask.G (hr.mono (by decide)) (by rfl) C__law_ask.g C__law_ask.kp C__law_ask.b .nil pass0 (pa_cons pe_int (pa_cons (pv 5) (pa_cons pe_non pa_nil)))) (pe_tupF (pa_cons pe_str (pa_cons pe_int pa_nil))) (nomark _)) (pss_one (ps_ret pe_bl)) pss_nil))))
      (pss_cons (ps_for PassesOwn.never rfl (pi_list (pe_lst (pa_cons pe_non (pa_cons (pe_un un_neg pe_int) (pa_cons pe_int (pa_cons pe_str (pa_cons pe_bl pa_nil))))))) (pg_name (i := 6) sc_law.nd rfl (by first | exact Or.inl rfl | exact Or.inr rfl)) (pss_one (ps_stop (ps_if (pt_cmpR (op_neD hr.units) (pe_call C__law_ask.G (hr.mono (by decide)) (by rfl) C__law_ask.g C__law_ask.kp C__law_ask.b .nil pass0 (pa_cons pe_int (pa_cons pe_int (pa_cons (pv 6) pa_nil)))) (pe_tupF (pa_cons pe_str (pa_cons pe_int pa_nil))) (nomark _)) (pss_one (ps_ret pe_bl)) pss_nil))))
      (pss_cons (ps_stop (ps_if (pt_cmpR (op_neD hr.units) (pe_lc (own := [("_law_what", 7)]) rfl sc_law.nd (pi_range1 (by rfl) m_range (pa_cons pe_int pa_nil)) (blkOk_by (own := [("_law_what", 7)]) (N := ["_law_script", "_law_town", "_law_odd", "_law_off_one", "_law_marked", "_law_many", "_law_some", "_law_what"]) (sc := (defScope s_law)) (by decide +kernel)) (fun _ _ _ _ _ => (pg_name (i := 7) sc_law.nd rfl (by first | exact Or.inl rfl | exact Or.inr rfl))) (fun _ _ _ _ _ => pts_nil) (fun _ _ _ _ _ => (pe_call C__law_ask.G (hr.mono (by decide)) (by rfl) C__law_ask.g C__law_ask.kp C__law_ask.b .nil pass0 (pa_cons (pv 7) (pa_cons (pe_tupF pa_nil) (pa_cons pe_non pa_nil)))))) (pe_lst (pa_cons (pe_lst (pa_cons pe_int pa_nil)) (pa_cons (pe_lst pa_nil) (pa_cons pe_int (pa_cons (pe_tupF pa_nil) pa_nil))))) (nomark _)) (pss_one (ps_ret pe_bl)) pss_nil))
      (pss_one (ps_ret (pe_stopE (pe_and (pe_cmpR (op_eqD hr.units) (pe_call C__law_ask.G (hr.mono (by decide)) (by rfl) C__law_ask.g C__law_ask.kp C__law_ask.b .nil pass0 (pa_cons pe_int (pa_cons pe_int (pa_cons pe_int pa_nil)))) pe_int (nomark _)) (pe_one (pe_cmpR (op_eqD hr.units) (pe_call C__law_ask.G (hr.mono (by decide)) (by rfl) C__law_ask.g C__law_ask.kp C__law_ask.b .nil pass0 (pa_cons pe_int (pa_cons (pe_tupF (pa_cons pe_int (pa_cons pe_non (pa_cons (pe_un un_neg pe_int) pa_nil)))) (pa_cons pe_non pa_nil)))) (pe_tupF (pa_cons (pe_un un_neg pe_int) (pa_cons pe_non (pa_cons pe_int pa_nil)))) (nomark _))))))))))))))), fun x hp => ?_⟩)
  walk_at "s"
  walk_at "w"
  refine ⟨by decide, ?_⟩
  walk_at "w"
  walk_at "s"
  show VSs K [.sc x, .ow [], .ow oddL, .no, .no, .no, .no, .no] _ _
  refine ss_for (fun i Γ => ∃ o : Cell, Γ = [.sc x, .ow [], .dt (.list oddL), o, .no, .no, .no, .no]) fun ss => ?_
  walk_at "w"
  refine ⟨fun i d Γ2 hd ⟨o, ec⟩ => ?_, fun Γ2 ⟨o, ec⟩ => ?_⟩
  · subst ec
    have hi : i < 9 := (List.getElem?_eq_some_iff.mp hd).1
    have hd2 : d = oddL.getD i .none := by rw [List.getD_eq_getElem?_getD, hd]; rfl
    subst hd2
    walk_at "w"
    walk_at "s"
    refine ss_same ?_ ?_
    · refine ss_if fun ss => ?_
      refine vt_cutT false ?_ ?_
      · walk_at "w"
        apply ve_lcT (vs := [7]) (fun k : Nat => PyData.int k) (List.range 4) (fun _ => true) (fun _ => PyData.tuple [.str "refused", .int 0]) (by walk_at "n")
        walk_at "w"
        refine ⟨by decide, by decide, rfl, by simp, gl_lt (by decide), fun k hk => ⟨_, tg_name (by decide), fun acc srcs => ?_⟩, ?_⟩
        · have hk2 := List.mem_range.mp hk
          walk_at "s"
          walk_at "w"
          refine ⟨rfl, fun _ => ?_, fun _ => rfl⟩
          walk_at "w"
          refine ⟨(0, k, i), rfl, ⟨hk2, hi⟩, ?_⟩
          walk_at "w"
          exact ⟨rfl, rfl⟩
        rw [fil_true]
        walk_at "w"
        refine r2_rep (.inr rfl) (by decide) (by decide) (gl_le (by decide)) ?_
        refine r2_neD rd_fr rd_fr (by decide +kernel) (by decide +kernel) ?_
        rw [show PyData.eqv (.list (List.map (fun _ : Nat => PyData.tuple [.str "refused", .int 0]) (List.range 4))) (.list (List.replicate (4 : Int).toNat [PyData.tuple [.str "refused", .int 0]]).flatten) = true by decide +kernel]
        walk_at "w"
        exact ⟨rfl, rfl⟩
      · refine ⟨fun e => (by cases e), fun _ => ?_⟩
        walk_at "w"
    walk_at "w"
    exact ⟨_, rfl⟩
  · subst ec
    walk_at "w"
    refine ⟨(x, 9), _, isl_ow rfl, rfl, ⟨hp, by simp, by simp⟩, fun zs1 d ⟨g1, m, g2, g3⟩ => ?_⟩
    subst g2
    dsimp only at g3
    walk_at "s"
    walk_at "w"
    walk_at "s"
    refine ss_same ?_ ?_
    · walk_at "w"
      refine vt_cut false ?_ ?_
      · walk_at "w"
        apply ve_lcT (vs := [7]) (fun k : Nat => PyData.int k) (List.range 2) (fun _ => true) (fun _ => PyData.tuple [.str "refused", .int 4]) (by walk_at "n")
        walk_at "w"
        refine ⟨by decide, by decide, rfl, by simp, gl_lt (by decide), fun k hk => ⟨_, tg_name (by decide), fun acc srcs => ?_⟩, ?_⟩
        · have hk2 := List.mem_range.mp hk
          walk_at "s"
          walk_at "w"
          refine ⟨rfl, fun _ => ?_, fun _ => rfl⟩
          walk_at "w"
          refine ⟨(1, k, m), rfl, ⟨(by omega : k < 3), g3⟩, ?_⟩
          walk_at "w"
          obtain rfl | rfl : k = 0 ∨ k = 1 := by omega
          · exact ⟨rfl, rfl⟩
          · exact ⟨rfl, rfl⟩
        rw [fil_true]
        walk_at "w"
        refine r2_rep (.inr rfl) (by decide) (by decide) (gl_le (by decide)) ?_
        refine r2_neD rd_fr rd_fr (by decide +kernel) (by decide +kernel) ?_
        rw [show PyData.eqv (.list (List.map (fun _ : Nat => PyData.tuple [.str "refused", .int 4]) (List.range 2))) (.list (List.replicate (2 : Int).toNat [PyData.tuple [.str "refused", .int 4]]).flatten) = true by decide +kernel]
        walk_at "w"
        refine ⟨(1, 2, m), rfl, ⟨(by decide : 2 < 3), g3⟩, ?_⟩
        walk_at "w"
        show R2V K (rNeD K) _ _ (.dt (.int 0)) (.dt (.int 0)) _
        refine r2_neI ?_
        rw [decide_eq_true rfl]
        walk_at "w"
        exact ⟨rfl, rfl⟩
      · refine ⟨fun e => (by cases e), fun _ => ?_⟩
        walk_at "w"
    walk_at "w"
    refine ss_for (fun i Γ => ∃ q : Cell, Γ = [.sc x, .ow zs1, .dt (.list oddL), o, .dt (.tuple [.int m, .none, .int 9]), q, .no, .no]) fun ss => ?_
    walk_at "w"
    refine ⟨fun i d Γ2 hd ⟨q, ec⟩ => ?_, fun Γ2 ⟨q5, ec⟩ => ?_⟩
    · subst ec
      have hi : i < 6 := (List.getElem?_eq_some_iff.mp hd).1
      have hd2 : d = (oddN.getD (i) (.none, 0)).1 := by
        obtain rfl | rfl | rfl | rfl | rfl | rfl : i = 0 ∨ i = 1 ∨ i = 2 ∨ i = 3 ∨ i = 4 ∨ i = 5 := by omega
        · cases hd; rfl
        · cases hd; rfl
        · cases hd; rfl
        · cases hd; rfl
        · cases hd; rfl
        · cases hd; rfl
      subst hd2
      walk_at "w"
      walk_at "s"
      refine ss_same ?_ ?_
      · refine ss_if fun ss => ?_
        refine vt_cutT false ?_ ?_
        · walk_at "w"
          refine ⟨(2, 0, i), rfl, hi, ?_⟩
          walk_at "w"
          refine r2_neD rd_dt rd_dt (by show SeqAt.shaped (.tuple [.str "refused", .int 7]) = true; decide +kernel) (by decide +kernel) ?_
          rw [show PyData.eqv (askV (2, 0, i)) (.tuple [.str "refused", .int 7]) = true by show PyData.eqv (.tuple [.str "refused", .int 7]) (.tuple [.str "refused", .int 7]) = true; decide +kernel]
          walk_at "w"
          exact ⟨rfl, rfl⟩
        · refine ⟨fun e => (by cases e), fun _ => ?_⟩
          walk_at "w"
      walk_at "w"
      exact ⟨_, rfl⟩
    subst ec
    walk_at "w"
    refine ss_for (fun i Γ => ∃ q : Cell, Γ = [.sc x, .ow zs1, .dt (.list oddL), o, .dt (.tuple [.int m, .none, .int 9]), q5, q, .no]) fun ss => ?_
    walk_at "w"
    refine ⟨fun i d Γ2 hd ⟨q, ec⟩ => ?_, fun Γ2 ⟨q6, ec⟩ => ?_⟩
    · subst ec
      have hi : i < 5 := (List.getElem?_eq_some_iff.mp hd).1
      have hd2 : d = (oddN.getD (i + 6) (.none, 0)).1 := by
        obtain rfl | rfl | rfl | rfl | rfl : i = 0 ∨ i = 1 ∨ i = 2 ∨ i = 3 ∨ i = 4 := by omega
        · cases hd; rfl
        · cases hd; rfl
        · cases hd; rfl
        · cases hd; rfl
        · cases hd; rfl
      subst hd2
      walk_at "w"
      walk_at "s"
      refine ss_same ?_ ?_
      · refine ss_if fun ss => ?_
        refine vt_cutT false ?_ ?_
        · walk_at "w"
          refine ⟨(3, 0, i), rfl, hi, ?_⟩
          walk_at "w"
          refine r2_neD rd_dt rd_dt (by show SeqAt.shaped (.tuple [.str "refused", .int 3]) = true; decide +kernel) (by decide +kernel) ?_
          rw [show PyData.eqv (askV (3, 0, i)) (.tuple [.str "refused", .int 3]) = true by show PyData.eqv (.tuple [.str "refused", .int 3]) (.tuple [.str "refused", .int 3]) = true; decide +kernel]
          walk_at "w"
          exact ⟨rfl, rfl⟩
        · refine ⟨fun e => (by cases e), fun _ => ?_⟩
          walk_at "w"
      walk_at "w"
      exact ⟨_, rfl⟩
    subst ec
    walk_at "w"
    walk_at "s"
    refine ss_same ?_ ?_
    · refine ss_if fun ss => ?_
      refine vt_cutT false ?_ ?_
      · walk_at "w"
        apply ve_lcT (vs := [7]) (fun k : Nat => PyData.int k) (List.range 4) (fun _ => true) (fun k => askV (4, k, 0)) (by walk_at "n")
        walk_at "w"
        refine ⟨by decide, by decide, rfl, by simp, gl_lt (by decide), fun k hk => ⟨_, tg_name (by decide), fun acc srcs => ?_⟩, ?_⟩
        · have hk2 := List.mem_range.mp hk
          walk_at "s"
          walk_at "w"
          refine ⟨rfl, fun _ => ?_, fun _ => rfl⟩
          walk_at "w"
          refine ⟨(4, k, 0), rfl, hk2, ?_⟩
          walk_at "w"
          exact ⟨rfl, rfl⟩
        rw [fil_true]
        walk_at "w"
        refine r2_neD rd_fr rd_fr (by decide +kernel) (by decide +kernel) ?_
        rw [show PyData.eqv (.list ((List.range 4).map fun k => askV (4, k, 0))) (.list [.list [.int 0], .list [], .int 0, .tuple []]) = true by decide +kernel]
        walk_at "w"
        exact ⟨rfl, rfl⟩
      · refine ⟨fun e => (by cases e), fun _ => ?_⟩
        walk_at "w"
    walk_at "w"
    show VE K _ _ (tAndV _ _) _
    walk_at "w"
    refine ⟨(5, 0, 0), rfl, trivial, ?_⟩
    walk_at "w"
    show R2V K (rEqD K) _ _ (.dt (.int 1)) (.dt (.int 1)) _
    refine r2_eqI ?_
    rw [decide_eq_true rfl]
    walk_at "w"
    refine ⟨(6, 0, 0), rfl, trivial, ?_⟩
    walk_at "w"
    refine r2_eqD rd_dt rd_dt (by show SeqAt.shaped (.tuple [.int (-3), .none, .int 1]) = true; decide +kernel) (by decide +kernel) ?_
    rw [show PyData.eqv (askV (6, 0, 0)) (.tuple [.int (-3), .none, .int 1]) = true by show PyData.eqv (.tuple [.int (-3), .none, .int 1]) (.tuple [.int (-3), .none, .int 1]) = true; decide +kernel]
    walk_at "w"
end
set_option maxHeartbeats 0 in
theorem factsL {P : Program} {w : World} {K : PySem.W.Frag} {h : Heap} {mg : Str → Option Value} {f : Addr} (X : K.In h) (G : h.Ns mainGlobals mg) (hfa : mg ("law" : Str) = some (.ref f)) (c : He.SaysX faL fnL exL K) :
    ∃ fd : FuncData, (∀ (s : Shared) (v : Value), BindsTo s fd ⟨[v], []⟩ [("_law_script", v)]) ∧ ∀ base : Heap, K.In base → base.Ns mainGlobals mg → FnOk P w K mg base CX0 8 f fd ["_law_script"] (spF K (fun ns : List Int => [.sc ns]) (fun ns => ns.length ≤ 63) fun _ => .bool true) := by
  have cX := c
  have c := cX.d
  obtain ⟨e_is_whole, F_is_whole⟩ := c.def_ 0 (d := d_is_whole) rfl
  have g_is_whole := He.glo_ok X G (c.fact 0 (f := .glo "is_whole") rfl)
  obtain ⟨e_is_whole_within, F_is_whole_within⟩ := c.def_ 1 (d := d_is_whole_within) rfl
  have g_is_whole_within := He.glo_ok X G (c.fact 1 (f := .glo "is_whole_within") rfl)
  obtain ⟨e__numbers_of, F__numbers_of⟩ := c.def_ 2 (d := d__numbers_of) rfl
  have g__numbers_of := He.glo_ok X G (c.fact 2 (f := .glo "_numbers_of") rfl)
  obtain ⟨e_is_row, F_is_row⟩ := c.def_ 3 (d := d_is_row) rfl
  have g_is_row := He.glo_ok X G (c.fact 3 (f := .glo "is_row") rfl)
  obtain ⟨e_check_row, F_check_row⟩ := c.def_ 4 (d := d_check_row) rfl
  have g_check_row := He.glo_ok X G (c.fact 4 (f := .glo "check_row") rfl)
  obtain ⟨e_check_unmarked, F_check_unmarked⟩ := c.def_ 5 (d := d_check_unmarked) rfl
  have g_check_unmarked := He.glo_ok X G (c.fact 5 (f := .glo "check_unmarked") rfl)
  obtain ⟨e__greater_ahead, F__greater_ahead⟩ := c.def_ 6 (d := d__greater_ahead) rfl
  have g__greater_ahead := He.glo_ok X G (c.fact 6 (f := .glo "_greater_ahead") rfl)
  obtain ⟨e_counts, F_counts⟩ := c.def_ 7 (d := d_counts) rfl
  have g_counts := He.glo_ok X G (c.fact 7 (f := .glo "counts") rfl)
  obtain ⟨e__none_greater_ahead, F__none_greater_ahead⟩ := c.def_ 8 (d := d__none_greater_ahead) rfl
  have g__none_greater_ahead := He.glo_ok X G (c.fact 8 (f := .glo "_none_greater_ahead") rfl)
  obtain ⟨e_may_mark, F_may_mark⟩ := c.def_ 9 (d := d_may_mark) rfl
  have g_may_mark := He.glo_ok X G (c.fact 9 (f := .glo "may_mark") rfl)
  obtain ⟨e_blocks, F_blocks⟩ := c.def_ 10 (d := d_blocks) rfl
  have g_blocks := He.glo_ok X G (c.fact 10 (f := .glo "blocks") rfl)
  obtain ⟨e_off, F_off⟩ := c.def_ 11 (d := d_off) rfl
  have g_off := He.glo_ok X G (c.fact 11 (f := .glo "off") rfl)
  obtain ⟨e_opposite, F_opposite⟩ := c.def_ 12 (d := d_opposite) rfl
  have g_opposite := He.glo_ok X G (c.fact 12 (f := .glo "opposite") rfl)
  obtain ⟨e_check_places, F_check_places⟩ := c.def_ 13 (d := d_check_places) rfl
  have g_check_places := He.glo_ok X G (c.fact 13 (f := .glo "check_places") rfl)
  obtain ⟨e_sorted_by, F_sorted_by⟩ := c.def_ 14 (d := d_sorted_by) rfl
  have g_sorted_by := He.glo_ok X G (c.fact 14 (f := .glo "sorted_by") rfl)
  obtain ⟨e_need_just, F_need_just⟩ := c.def_ 15 (d := d_need_just) rfl
  have g_need_just := He.glo_ok X G (c.fact 15 (f := .glo "need_just") rfl)
  obtain ⟨e__law_ask, F__law_ask⟩ := c.def_ 16 (d := d__law_ask) rfl
  have g__law_ask := He.glo_ok X G (c.fact 16 (f := .glo "_law_ask") rfl)
  obtain ⟨e__law_cell_at, F__law_cell_at⟩ := c.def_ 17 (d := d__law_cell_at) rfl
  have g__law_cell_at := He.glo_ok X G (c.fact 17 (f := .glo "_law_cell_at") rfl)
  obtain ⟨e__law_mixed, F__law_mixed⟩ := c.def_ 18 (d := d__law_mixed) rfl
  have g__law_mixed := He.glo_ok X G (c.fact 18 (f := .glo "_law_mixed") rfl)
  obtain ⟨e__law_draw, F__law_draw⟩ := c.def_ 19 (d := d__law_draw) rfl
  have g__law_draw := He.glo_ok X G (c.fact 19 (f := .glo "_law_draw") rfl)
  obtain ⟨e_law, F_law⟩ := c.def_ 20 (d := d_law) rfl
  have g_law := He.glo_ok X G (c.fact 20 (f := .glo "law") rfl)
  obtain ⟨e__law_which, F__law_which⟩ := c.def_ 21 (d := d__law_which) rfl
  have g__law_which := He.glo_ok X G (c.fact 21 (f := .glo "_law_which") rfl)
  have m_ValueError := He.free_ok X G (c.fact 22 (f := .free "ValueError") rfl)
  have m_all := He.free_ok X G (c.fact 23 (f := .free "all") rfl)
  have m_bool := He.free_ok X G (c.fact 24 (f := .free "bool") rfl)
  have m_enumerate := He.free_ok X G (c.fact 25 (f := .free "enumerate") rfl)
  have m_int := He.free_ok X G (c.fact 26 (f := .free "int") rfl)
  have m_isinstance := He.free_ok X G (c.fact 27 (f := .free "isinstance") rfl)
  have m_len := He.free_ok X G (c.fact 28 (f := .free "len") rfl)
  have m_list := He.free_ok X G (c.fact 29 (f := .free "list") rfl)
  have m_max := He.free_ok X G (c.fact 30 (f := .free "max") rfl)
  have m_min := He.free_ok X G (c.fact 31 (f := .free "min") rfl)
  have m_range := He.free_ok X G (c.fact 32 (f := .free "range") rfl)
  have m_set := He.free_ok X G (c.fact 33 (f := .free "set") rfl)
  have m_sum := He.free_ok X G (c.fact 34 (f := .free "sum") rfl)
  have m_tuple := He.free_ok X G (c.fact 35 (f := .free "tuple") rfl)
  have m_zip := He.free_ok X G (c.fact 36 (f := .free "zip") rfl)
  have c_MOST_PLACES : GlobI K mg "MOST_PLACES" 9 := ⟨He.int_ok X G (c.fact 37 (f := .int "MOST_PLACES" 9) rfl)⟩
  have c_MOST_THINGS : GlobI K mg "MOST_THINGS" 24 := ⟨He.int_ok X G (c.fact 38 (f := .int "MOST_THINGS" 24) rfl)⟩
  have e := hfa.symm.trans g_law
  cases e
  have D_is_whole : Df K mg "is_whole" s_is_whole ["thing"] (He.ga K "is_whole") e_is_whole := Df.of F_is_whole g_is_whole fun _ _ _ _ _ _ us hl => match us, hl with | [_], _ => rfl
  have D_is_whole_within : Df K mg "is_whole_within" s_is_whole_within ["thing", "least", "most"] (He.ga K "is_whole_within") e_is_whole_within := Df.of F_is_whole_within g_is_whole_within fun _ _ _ _ _ _ us hl => match us, hl with | [_, _, _], _ => rfl
  have D__numbers_of : Df K mg "_numbers_of" s__numbers_of ["things"] (He.ga K "_numbers_of") e__numbers_of := Df.of F__numbers_of g__numbers_of fun _ _ _ _ _ _ us hl => match us, hl with | [_], _ => rfl
  have D_is_row : Df K mg "is_row" s_is_row ["thing"] (He.ga K "is_row") e_is_row := Df.of F_is_row g_is_row fun _ _ _ _ _ _ us hl => match us, hl with | [_], _ => rfl
  have D_check_row : Df K mg "check_row" s_check_row ["row"] (He.ga K "check_row") e_check_row := Df.of F_check_row g_check_row fun _ _ _ _ _ _ us hl => match us, hl with | [_], _ => rfl
  have D_check_unmarked : Df K mg "check_unmarked" s_check_unmarked ["row"] (He.ga K "check_unmarked") e_check_unmarked := Df.of F_check_unmarked g_check_unmarked fun _ _ _ _ _ _ us hl => match us, hl with | [_], _ => rfl
  have D__greater_ahead : Df K mg "_greater_ahead" s__greater_ahead ["numbers"] (He.ga K "_greater_ahead") e__greater_ahead := Df.of F__greater_ahead g__greater_ahead fun _ _ _ _ _ _ us hl => match us, hl with | [_], _ => rfl
  have D_counts : Df K mg "counts" s_counts ["row"] (He.ga K "counts") e_counts := Df.of F_counts g_counts fun _ _ _ _ _ _ us hl => match us, hl with | [_], _ => rfl
  have D__none_greater_ahead : Df K mg "_none_greater_ahead" s__none_greater_ahead ["row", "place"] (He.ga K "_none_greater_ahead") e__none_greater_ahead := Df.of F__none_greater_ahead g__none_greater_ahead fun _ _ _ _ _ _ us hl => match us, hl with | [_, _], _ => rfl
  have D_may_mark : Df K mg "may_mark" s_may_mark ["row"] (He.ga K "may_mark") e_may_mark := Df.of F_may_mark g_may_mark fun _ _ _ _ _ _ us hl => match us, hl with | [_], _ => rfl
  have D_blocks : Df K mg "blocks" s_blocks ["row"] (He.ga K "blocks") e_blocks := Df.of F_blocks g_blocks fun _ _ _ _ _ _ us hl => match us, hl with | [_], _ => rfl
  have D_off : Df K mg "off" s_off ["row"] (He.ga K "off") e_off := Df.of F_off g_off fun _ _ _ _ _ _ us hl => match us, hl with | [_], _ => rfl
  have D_opposite : Df K mg "opposite" s_opposite ["row"] (He.ga K "opposite") e_opposite := Df.of F_opposite g_opposite fun _ _ _ _ _ _ us hl => match us, hl with | [_], _ => rfl
  have D_check_places : DfD K mg "check_places" s_check_places ["places", "least"] (0) (He.ga K "check_places") e_check_places := DfD.of 1 F_check_places g_check_places rfl (fun _ _ _ _ _ _ _ us its hl hi => match us, its, hl, hi with | [_, _], [_], _, _ => ⟨_, rfl, rfl⟩) (fun _ _ _ _ _ _ _ us its hl hi => match us, its, hl, hi with | [_], [_], _, _ => ⟨_, rfl, rfl⟩)
  have D_sorted_by : Df K mg "sorted_by" s_sorted_by ["many", "places"] (He.ga K "sorted_by") e_sorted_by := Df.of F_sorted_by g_sorted_by fun _ _ _ _ _ _ us hl => match us, hl with | [_, _], _ => rfl
  have D_need_just : Df K mg "need_just" s_need_just ["many", "places"] (He.ga K "need_just") e_need_just := Df.of F_need_just g_need_just fun _ _ _ _ _ _ us hl => match us, hl with | [_, _], _ => rfl
  have D__law_ask : Df K mg "_law_ask" s__law_ask ["_law_what", "_law_one", "_law_two"] (He.ga K "_law_ask") e__law_ask := Df.of F__law_ask g__law_ask fun _ _ _ _ _ _ us hl => match us, hl with | [_, _, _], _ => rfl
  have D__law_cell_at : Df K mg "_law_cell_at" s__law_cell_at ["_law_script", "_law_k"] (He.ga K "_law_cell_at") e__law_cell_at := Df.of F__law_cell_at g__law_cell_at fun _ _ _ _ _ _ us hl => match us, hl with | [_, _], _ => rfl
  have D__law_mixed : Df K mg "_law_mixed" s__law_mixed ["_law_script", "_law_k", "_law_bound"] (He.ga K "_law_mixed") e__law_mixed := Df.of F__law_mixed g__law_mixed fun _ _ _ _ _ _ us hl => match us, hl with | [_, _, _], _ => rfl
  have D__law_draw : Df K mg "_law_draw" s__law_draw ["_law_script", "_law_town", "_law_bound"] (He.ga K "_law_draw") e__law_draw := Df.of F__law_draw g__law_draw fun _ _ _ _ _ _ us hl => match us, hl with | [_, _, _], _ => rfl
  have D_law : Df K mg "law" s_law ["_law_script"] (He.ga K "law") e_law := Df.of F_law g_law fun _ _ _ _ _ _ us hl => match us, hl with | [_], _ => rfl
  have D__law_which : Df K mg "_law_which" s__law_which ["_law_e"] (He.ga K "_law_which") e__law_which := Df.of F__law_which g__law_which fun _ _ _ _ _ _ us hl => match us, hl with | [_], _ => rfl
  have b := FunD.bindsA (ps := ["_law_script"]) F_law fun _ _ _ _ _ _ us hl => match us, hl with | [_], _ => rfl
  have g_NoRow := He.glo_ok X G (c.fact 39 (f := .glo "NoRow") rfl)
  have g_NoShelf := He.glo_ok X G (c.fact 40 (f := .glo "NoShelf") rfl)
  have g_NoLine := He.glo_ok X G (c.fact 41 (f := .glo "NoLine") rfl)
  have g_NoPlaces := He.glo_ok X G (c.fact 42 (f := .glo "NoPlaces") rfl)
  have g_Marked := He.glo_ok X G (c.fact 43 (f := .glo "Marked") rfl)
  have g_NoCounts := He.glo_ok X G (c.fact 44 (f := .glo "NoCounts") rfl)
  have g_NoLetting := He.glo_ok X G (c.fact 45 (f := .glo "NoLetting") rfl)
  have g_TooMany := He.glo_ok X G (c.fact 46 (f := .glo "TooMany") rfl)
  have g_NoMove := He.glo_ok X G (c.fact 47 (f := .glo "NoMove") rfl)
  have g_NoText := He.glo_ok X G (c.fact 48 (f := .glo "NoText") rfl)
  have g_NoNumber := He.glo_ok X G (c.fact 49 (f := .glo "NoNumber") rfl)
  have g_Nothing := He.glo_ok X G (c.fact 50 (f := .glo "Nothing") rfl)
  have g_ShelfError := He.glo_ok X G (c.fact 51 (f := .glo "ShelfError") rfl)
  have x_NoRow := ExcF.of X G (c.fact 39 (f := .glo "NoRow") rfl) (c.fact 52 (f := .exc "NoRow") rfl)
  have x_Marked := ExcF.of X G (c.fact 43 (f := .glo "Marked") rfl) (c.fact 53 (f := .exc "Marked") rfl)
  have x_TooMany := ExcF.of X G (c.fact 46 (f := .glo "TooMany") rfl) (c.fact 54 (f := .exc "TooMany") rfl)
  have x_NoPlaces := ExcF.of X G (c.fact 42 (f := .glo "NoPlaces") rfl) (c.fact 55 (f := .exc "NoPlaces") rfl)
  have w_g := D__law_which.g
  have w_k := D__law_which.F.kp
  have w_b := D__law_which.b
  have w_eNoRow := He.exm_ok (c.fact 56 (f := .exm "NoRow" "ShelfError" true) rfl)
  have w_iNoRow : Ld.idxK K [He.ga K "NoRow", He.ga K "NoShelf", He.ga K "NoLine", He.ga K "NoPlaces", He.ga K "Marked", He.ga K "NoCounts", He.ga K "NoLetting", He.ga K "TooMany", He.ga K "NoMove", He.ga K "NoText", He.ga K "NoNumber", He.ga K "Nothing"] (He.ga K "NoRow") = some 0 := Ld.idxK_of rfl (He.klB_ok (by decide) (cX.x 0 rfl))
  have w_eMarked := He.exm_ok (c.fact 57 (f := .exm "Marked" "ShelfError" true) rfl)
  have w_iMarked : Ld.idxK K [He.ga K "NoRow", He.ga K "NoShelf", He.ga K "NoLine", He.ga K "NoPlaces", He.ga K "Marked", He.ga K "NoCounts", He.ga K "NoLetting", He.ga K "TooMany", He.ga K "NoMove", He.ga K "NoText", He.ga K "NoNumber", He.ga K "Nothing"] (He.ga K "Marked") = some 4 := Ld.idxK_of rfl (He.klB_ok (by decide) (cX.x 1 rfl))
  have w_eTooMany := He.exm_ok (c.fact 58 (f := .exm "TooMany" "ShelfError" true) rfl)
  have w_iTooMany : Ld.idxK K [He.ga K "NoRow", He.ga K "NoShelf", He.ga K "NoLine", He.ga K "NoPlaces", He.ga K "Marked", He.ga K "NoCounts", He.ga K "NoLetting", He.ga K "TooMany", He.ga K "NoMove", He.ga K "NoText", He.ga K "NoNumber", He.ga K "Nothing"] (He.ga K "TooMany") = some 7 := Ld.idxK_of rfl (He.klB_ok (by decide) (cX.x 2 rfl))
  have w_eNoPlaces := He.exm_ok (c.fact 59 (f := .exm "NoPlaces" "ShelfError" true) rfl)
  have w_iNoPlaces : Ld.idxK K [He.ga K "NoRow", He.ga K "NoShelf", He.ga K "NoLine", He.ga K "NoPlaces", He.ga K "Marked", He.ga K "NoCounts", He.ga K "NoLetting", He.ga K "TooMany", He.ga K "NoMove", He.ga K "NoText", He.ga K "NoNumber", He.ga K "Nothing"] (He.ga K "NoPlaces") = some 3 := Ld.idxK_of rfl (He.klB_ok (by decide) (cX.x 3 rfl))
  have w_e := w_eNoRow
  have w_i := w_iNoRow
  refine ⟨e_law, fun s v => b s [v] rfl, fun base _ _ => ?_⟩
  have W_which := ok__law_which (P := P) (w := w) (mg := mg) (base := base) D__law_which g_NoRow g_NoShelf g_NoLine g_NoPlaces g_Marked g_NoCounts g_NoLetting g_TooMany g_NoMove g_NoText g_NoNumber g_Nothing m_isinstance m_ValueError (idx := Ld.idxK K [He.ga K "NoRow", He.ga K "NoShelf", He.ga K "NoLine", He.ga K "NoPlaces", He.ga K "Marked", He.ga K "NoCounts", He.ga K "NoLetting", He.ga K "TooMany", He.ga K "NoMove", He.ga K "NoText", He.ga K "NoNumber", He.ga K "Nothing"]) (fun X n h => Ld.idxK_kit h)
  have C_is_whole := ok_is_whole (P := P) (w := w) (mg := mg) (base := base) D_is_whole m_bool m_int m_isinstance
  have C_is_wholeO := ok_is_wholeO (P := P) (w := w) (mg := mg) (base := base) D_is_whole m_bool m_int m_isinstance
  have C_is_whole_within := ok_is_whole_within (P := P) (w := w) (mg := mg) (base := base) D_is_whole_within C_is_whole
  have C__numbers_of := ok__numbers_of (P := P) (w := w) (mg := mg) (base := base) D__numbers_of 
  have C_numbersO := ok_numbersO (P := P) (w := w) (mg := mg) (base := base) D__numbers_of 
  have C_is_row := ok_is_row (P := P) (w := w) (mg := mg) (base := base) D_is_row C__numbers_of C_is_whole m_all m_isinstance m_len m_set m_tuple c_MOST_THINGS
  have C_is_rowO := ok_is_rowO (P := P) (w := w) (mg := mg) (base := base) D_is_row C_is_wholeO C_numbersO m_all m_isinstance m_len m_set m_tuple c_MOST_THINGS
  have C_check_row := ok_check_row (P := P) (w := w) (mg := mg) (base := base) D_check_row C_is_row
  have C_check_rowR := ok_check_rowR (P := P) (w := w) (mg := mg) (base := base) D_check_row C_is_rowO x_NoRow
  have C_check_unmarked := ok_check_unmarked (P := P) (w := w) (mg := mg) (base := base) D_check_unmarked C_check_row
  have C_check_unmarkedR := ok_check_unmarkedR (P := P) (w := w) (mg := mg) (base := base) D_check_unmarked C_check_rowR
  have C_check_unmarkedM := ok_check_unmarkedM (P := P) (w := w) (mg := mg) (base := base) D_check_unmarked C_check_row x_Marked
  have C_greater_aheadL := ok_greater_aheadL (P := P) (w := w) (mg := mg) (base := base) D__greater_ahead m_enumerate m_len
  have C_counts := ok_counts (P := P) (w := w) (mg := mg) (base := base) D_counts C__numbers_of C_check_row C_greater_aheadL
  have C_countsR := ok_countsR (P := P) (w := w) (mg := mg) (base := base) D_counts C_check_rowR
  have C__none_greater_ahead := ok__none_greater_ahead (P := P) (w := w) (mg := mg) (base := base) D__none_greater_ahead m_max m_min
  have C_may_mark := ok_may_mark (P := P) (w := w) (mg := mg) (base := base) D_may_mark C__none_greater_ahead C_check_unmarked m_len m_range
  have C_may_markR := ok_may_markR (P := P) (w := w) (mg := mg) (base := base) D_may_mark C_check_unmarkedR
  have C_may_markM := ok_may_markM (P := P) (w := w) (mg := mg) (base := base) D_may_mark C_check_unmarkedM
  have C_blocks := ok_blocks (P := P) (w := w) (mg := mg) (base := base) D_blocks C_may_mark m_zip
  have C_blocksR := ok_blocksR (P := P) (w := w) (mg := mg) (base := base) D_blocks C_may_markR
  have C_blocksM := ok_blocksM (P := P) (w := w) (mg := mg) (base := base) D_blocks C_may_markM
  have C_off := ok_off (P := P) (w := w) (mg := mg) (base := base) D_off C_counts m_sum
  have C_offR := ok_offR (P := P) (w := w) (mg := mg) (base := base) D_off C_countsR m_sum
  have C_opposite := ok_opposite (P := P) (w := w) (mg := mg) (base := base) D_opposite C_check_row m_tuple
  have C_oppositeR := ok_oppositeR (P := P) (w := w) (mg := mg) (base := base) D_opposite C_check_rowR
  have C_is_whole_withinO := ok_is_whole_withinO (P := P) (w := w) (mg := mg) (base := base) D_is_whole_within C_is_wholeO
  have C_check_places := ok_check_places (P := P) (w := w) (mg := mg) (base := base) D_check_places C_is_whole_within c_MOST_PLACES
  have C_check_placesR := ok_check_placesR (P := P) (w := w) (mg := mg) (base := base) D_check_places C_is_whole_withinO c_MOST_PLACES x_NoPlaces
  have C_sorted_by := ok_sorted_by (P := P) (w := w) (mg := mg) (base := base) D_sorted_by C_check_places C_is_whole_within m_min m_range c_MOST_THINGS
  have C_sorted_byR := ok_sorted_byR (P := P) (w := w) (mg := mg) (base := base) D_sorted_by C_is_whole_withinO c_MOST_THINGS x_TooMany
  have C_sorted_byP := ok_sorted_byP (P := P) (w := w) (mg := mg) (base := base) D_sorted_by C_check_placesR C_is_whole_within c_MOST_THINGS
  have C_need_just := ok_need_just (P := P) (w := w) (mg := mg) (base := base) D_need_just C_sorted_by
  have C_need_justR := ok_need_justR (P := P) (w := w) (mg := mg) (base := base) D_need_just C_sorted_byR
  have C_need_justP := ok_need_justP (P := P) (w := w) (mg := mg) (base := base) D_need_just C_sorted_byP
  have C__law_ask := ok__law_ask (P := P) (w := w) (mg := mg) (base := base) D__law_ask C_blocks C_blocksM C_blocksR C_may_mark C_may_markM C_may_markR C_need_just C_need_justP C_need_justR C_off C_offR C_opposite C_oppositeR g_ShelfError W_which w_g w_k w_b w_eMarked w_iMarked w_eNoPlaces w_iNoPlaces w_eNoRow w_iNoRow w_eTooMany w_iTooMany
  have C__law_cell_at := ok__law_cell_at (P := P) (w := w) (mg := mg) (base := base) D__law_cell_at m_len m_min m_range
  have C__law_mixed := ok__law_mixed (P := P) (w := w) (mg := mg) (base := base) D__law_mixed C__law_cell_at
  have C__law_draw := ok__law_draw (P := P) (w := w) (mg := mg) (base := base) D__law_draw C__law_mixed m_len
  have C_law := ok_law (P := P) (w := w) (mg := mg) (base := base) D_law C__law_ask C__law_draw m_list m_range m_tuple
  exact C_law.G
end Sh
set_option maxHeartbeats 0 in
theorem PySem.Challenge.cw_shelfrows_k22_blocks_refused_holds : PySem.Challenge.rw_shelfrows_k22_blocks_refused.Holds := by
  refine Sh.endL fun {w} {K} {h} {mg} {f} KX G hmg c => ?_
  obtain ⟨fd, hb, hF⟩ := Sh.factsL (P := (PySem.Challenge.rw_shelfrows_k22_blocks_refused).prog) (w := w) KX G hmg c
  exact ⟨fd, _, hb, fun H a ns hl hS => Ld.law_sp hl hS, hF⟩
