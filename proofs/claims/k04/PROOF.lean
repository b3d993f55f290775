import PyProof.Rows.All
import Wide.All
import OpenK.AllK
import Wide.FinOn
import PyProof.EqAt
import PyProof.EqKinds
import PyProof.TupleCall
import HandS.Base
import HandS.Call
import HandS.List
import HandS.TupAny
import HandS.Strs
import HandS.Conv
import KE.GoesMore
import PyProof.EnumMake
import HandS.Iter
import HandS.Zip
import HandS.SortInts
import HandS.SortKw
import HandS.Comp
import HandS.Ends
import HandS.Dict
import HandS.Text
import HandS.Walk
import HandS.Words
import HandS.WordsList
import HandS.TupMul
import HandS.Style
import HandS.IsInst
import HandS.More
import HandS.SetFor
import HandS.Wide
import KE.KIndexOf
import KE.KStateDown
import HandS.WordsExc
import HandS.Defaults
import HandS.Head0
import HandS.Head1
import HandS.Head2
import HandS.HeadEnd
import HandS.HeadHook1
import HandS.HeadHook2
import PySem.Challenge.RW_shelfrows_k04_whole_how_far_moved
set_option Elab.async false
set_option linter.all false
set_option maxRecDepth 100000
namespace Sh
open PySem PySem.Spec PyProof.Rows L2
def topS (i : Nat) : Stmt := PySem.Challenge.pw_shelfrows_k04_whole_how_far_moved.main.body.getD i (.Pass ⟨0, 0, 0, 0⟩)
abbrev s_is_whole : Stmt := topS 5
theorem sc_is_whole : FnScope ["thing"] ["thing"] (defScope s_is_whole) := ⟨rfl, rfl, rfl, by decide +kernel, rfl, by decide +kernel, by decide +kernel⟩
abbrev s_is_whole_within : Stmt := topS 6
theorem sc_is_whole_within : FnScope ["thing", "least", "most"] ["thing", "least", "most"] (defScope s_is_whole_within) := ⟨rfl, rfl, rfl, by decide +kernel, rfl, by decide +kernel, by decide +kernel⟩
abbrev s__numbers_of : Stmt := topS 12
theorem sc__numbers_of : FnScope ["things", "thing"] ["things"] (defScope s__numbers_of) := ⟨rfl, rfl, rfl, by decide +kernel, rfl, by decide +kernel, by decide +kernel⟩
abbrev s_is_row : Stmt := topS 9
theorem sc_is_row : FnScope ["thing", "numbers", "number"] ["thing"] (defScope s_is_row) := ⟨rfl, rfl, rfl, by decide +kernel, rfl, by decide +kernel, by decide +kernel⟩
abbrev s_check_row : Stmt := topS 10
theorem sc_check_row : FnScope ["row"] ["row"] (defScope s_check_row) := ⟨rfl, rfl, rfl, by decide +kernel, rfl, by decide +kernel, by decide +kernel⟩
abbrev s_stretches : Stmt := topS 11
theorem sc_stretches : FnScope ["row", "told", "part"] ["row"] (defScope s_stretches) := ⟨rfl, rfl, rfl, by decide +kernel, rfl, by decide +kernel, by decide +kernel⟩
abbrev s__is_word : Stmt := topS 21
theorem sc__is_word : FnScope ["thing"] ["thing"] (defScope s__is_word) := ⟨rfl, rfl, rfl, by decide +kernel, rfl, by decide +kernel, by decide +kernel⟩
abbrev s__is_places : Stmt := topS 22
theorem sc__is_places : FnScope ["thing"] ["thing"] (defScope s__is_places) := ⟨rfl, rfl, rfl, by decide +kernel, rfl, by decide +kernel, by decide +kernel⟩
abbrev s_is_shelf : Stmt := topS 17
theorem sc_is_shelf : FnScope ["thing"] ["thing"] (defScope s_is_shelf) := ⟨rfl, rfl, rfl, by decide +kernel, rfl, by decide +kernel, by decide +kernel⟩
abbrev s__check_shelf : Stmt := topS 23
theorem sc__check_shelf : FnScope ["shelf"] ["shelf"] (defScope s__check_shelf) := ⟨rfl, rfl, rfl, by decide +kernel, rfl, by decide +kernel, by decide +kernel⟩
abbrev s_let_on : Stmt := topS 20
theorem sc_let_on : FnScope ["standing", "word", "most", "gone", "one"] ["standing", "word", "most"] (defScope s_let_on) := ⟨rfl, rfl, rfl, by decide +kernel, rfl, by decide +kernel, by decide +kernel⟩
abbrev s__let_past : Stmt := topS 24
theorem sc__let_past : FnScope ["numbers", "word", "places", "standing", "came", "number", "most"] ["numbers", "word", "places"] (defScope s__let_past) := ⟨rfl, rfl, rfl, by decide +kernel, rfl, by decide +kernel, by decide +kernel⟩
abbrev s_past : Stmt := topS 18
theorem sc_past : FnScope ["row", "shelf", "word", "places", "came", "stretch"] ["row", "shelf"] (defScope s_past) := ⟨rfl, rfl, rfl, by decide +kernel, rfl, by decide +kernel, by decide +kernel⟩
abbrev s_moved : Stmt := topS 19
theorem sc_moved : FnScope ["row", "shelf", "came", "place", "part"] ["row", "shelf"] (defScope s_moved) := ⟨rfl, rfl, rfl, by decide +kernel, rfl, by decide +kernel, by decide +kernel⟩
abbrev s__law_cell_at : Stmt := topS 26
theorem sc__law_cell_at : FnScope ["_law_script", "_law_k", "_law_spare", "_law_again"] ["_law_script", "_law_k"] (defScope s__law_cell_at) := ⟨rfl, rfl, rfl, by decide +kernel, rfl, by decide +kernel, by decide +kernel⟩
abbrev s__law_mixed : Stmt := topS 27
theorem sc__law_mixed : FnScope ["_law_script", "_law_k", "_law_bound", "_law_spun"] ["_law_script", "_law_k", "_law_bound"] (defScope s__law_mixed) := ⟨rfl, rfl, rfl, by decide +kernel, rfl, by decide +kernel, by decide +kernel⟩
abbrev s__law_draw : Stmt := topS 28
theorem sc__law_draw : FnScope ["_law_script", "_law_town", "_law_bound"] ["_law_script", "_law_town", "_law_bound"] (defScope s__law_draw) := ⟨rfl, rfl, rfl, by decide +kernel, rfl, by decide +kernel, by decide +kernel⟩
abbrev s__law_pick : Stmt := topS 29
theorem sc__law_pick : FnScope ["_law_script", "_law_town", "_law_some"] ["_law_script", "_law_town", "_law_some"] (defScope s__law_pick) := ⟨rfl, rfl, rfl, by decide +kernel, rfl, by decide +kernel, by decide +kernel⟩
abbrev s__law_some_plain : Stmt := topS 30
theorem sc__law_some_plain : FnScope ["_law_script", "_law_town", "_law_most_there", "_law_many", "_law_made", "_law_number", "_law_again", "_law_far_here"] ["_law_script", "_law_town", "_law_most_there"] (defScope s__law_some_plain) := ⟨rfl, rfl, rfl, by decide +kernel, rfl, by decide +kernel, by decide +kernel⟩
abbrev s__law_some_row : Stmt := topS 31
theorem sc__law_some_row : FnScope ["_law_script", "_law_town", "_law_most_there", "_law_made", "_law_again"] ["_law_script", "_law_town", "_law_most_there"] (defScope s__law_some_row) := ⟨rfl, rfl, rfl, by decide +kernel, rfl, by decide +kernel, by decide +kernel⟩
abbrev s__law_some_shelf : Stmt := topS 32
theorem sc__law_some_shelf : FnScope ["_law_script", "_law_town"] ["_law_script", "_law_town"] (defScope s__law_some_shelf) := ⟨rfl, rfl, rfl, by decide +kernel, rfl, by decide +kernel, by decide +kernel⟩
abbrev s__law_numbers : Stmt := topS 33
theorem sc__law_numbers : FnScope ["_law_row", "_law_one"] ["_law_row"] (defScope s__law_numbers) := ⟨rfl, rfl, rfl, by decide +kernel, rfl, by decide +kernel, by decide +kernel⟩
abbrev s__law_greater : Stmt := topS 34
theorem sc__law_greater : FnScope ["_law_numbers_here", "_law_made", "_law_at", "_law_one"] ["_law_numbers_here"] (defScope s__law_greater) := ⟨rfl, rfl, rfl, by decide +kernel, rfl, by decide +kernel, by decide +kernel⟩
abbrev s__law_lots : Stmt := topS 35
theorem sc__law_lots : FnScope ["_law_row", "_law_made", "_law_one"] ["_law_row"] (defScope s__law_lots) := ⟨rfl, rfl, rfl, by decide +kernel, rfl, by decide +kernel, by decide +kernel⟩
abbrev s__law_lowered : Stmt := topS 36
theorem sc__law_lowered : FnScope ["_law_numbers_here", "_law_room", "_law_far_here", "_law_made", "_law_number"] ["_law_numbers_here", "_law_room"] (defScope s__law_lowered) := ⟨rfl, rfl, rfl, by decide +kernel, rfl, by decide +kernel, by decide +kernel⟩
abbrev s__law_far : Stmt := topS 37
theorem sc__law_far : FnScope ["_law_own", "_law_less", "_law_number", "_law_room", "_law_made"] ["_law_own", "_law_less", "_law_number", "_law_room"] (defScope s__law_far) := ⟨rfl, rfl, rfl, by decide +kernel, rfl, by decide +kernel, by decide +kernel⟩
abbrev s_law : Stmt := topS 38
theorem sc_law : FnScope ["_law_script", "_law_town", "_law_row", "_law_shelf", "_law_made", "_law_later", "_law_numbers_here", "_law_number", "_law_due", "_law_turn", "_law_own", "_law_rows", "_law_steps", "_law_at", "_law_gone", "_law_step", "_law_one"] ["_law_script"] (defScope s_law) := ⟨rfl, rfl, rfl, by decide +kernel, rfl, by decide +kernel, by decide +kernel⟩
/-! ### the head -/
def d_is_whole : He.DefD := ⟨("is_whole", none), "is_whole", "is_whole", defArgs s_is_whole, defBody s_is_whole, defScope s_is_whole, [], []⟩
def d_is_whole_within : He.DefD := ⟨("is_whole_within", none), "is_whole_within", "is_whole_within", defArgs s_is_whole_within, defBody s_is_whole_within, defScope s_is_whole_within, [], []⟩
def d__numbers_of : He.DefD := ⟨("_numbers_of", none), "_numbers_of", "_numbers_of", defArgs s__numbers_of, defBody s__numbers_of, defScope s__numbers_of, [], []⟩
def d_is_row : He.DefD := ⟨("is_row", none), "is_row", "is_row", defArgs s_is_row, defBody s_is_row, defScope s_is_row, [], []⟩
def d_check_row : He.DefD := ⟨("check_row", none), "check_row", "check_row", defArgs s_check_row, defBody s_check_row, defScope s_check_row, [], []⟩
def d_stretches : He.DefD := ⟨("stretches", none), "stretches", "stretches", defArgs s_stretches, defBody s_stretches, defScope s_stretches, [], []⟩
def d__is_word : He.DefD := ⟨("_is_word", none), "_is_word", "_is_word", defArgs s__is_word, defBody s__is_word, defScope s__is_word, [], []⟩
def d__is_places : He.DefD := ⟨("_is_places", none), "_is_places", "_is_places", defArgs s__is_places, defBody s__is_places, defScope s__is_places, [], []⟩
def d_is_shelf : He.DefD := ⟨("is_shelf", none), "is_shelf", "is_shelf", defArgs s_is_shelf, defBody s_is_shelf, defScope s_is_shelf, [], []⟩
def d__check_shelf : He.DefD := ⟨("_check_shelf", none), "_check_shelf", "_check_shelf", defArgs s__check_shelf, defBody s__check_shelf, defScope s__check_shelf, [], []⟩
def d_let_on : He.DefD := ⟨("let_on", none), "let_on", "let_on", defArgs s_let_on, defBody s_let_on, defScope s_let_on, [], []⟩
def d__let_past : He.DefD := ⟨("_let_past", none), "_let_past", "_let_past", defArgs s__let_past, defBody s__let_past, defScope s__let_past, [], []⟩
def d_past : He.DefD := ⟨("past", none), "past", "past", defArgs s_past, defBody s_past, defScope s_past, [], []⟩
def d_moved : He.DefD := ⟨("moved", none), "moved", "moved", defArgs s_moved, defBody s_moved, defScope s_moved, [], []⟩
def d__law_cell_at : He.DefD := ⟨("_law_cell_at", none), "_law_cell_at", "_law_cell_at", defArgs s__law_cell_at, defBody s__law_cell_at, defScope s__law_cell_at, [], []⟩
def d__law_mixed : He.DefD := ⟨("_law_mixed", none), "_law_mixed", "_law_mixed", defArgs s__law_mixed, defBody s__law_mixed, defScope s__law_mixed, [], []⟩
def d__law_draw : He.DefD := ⟨("_law_draw", none), "_law_draw", "_law_draw", defArgs s__law_draw, defBody s__law_draw, defScope s__law_draw, [], []⟩
def d__law_pick : He.DefD := ⟨("_law_pick", none), "_law_pick", "_law_pick", defArgs s__law_pick, defBody s__law_pick, defScope s__law_pick, [], []⟩
def d__law_some_plain : He.DefD := ⟨("_law_some_plain", none), "_law_some_plain", "_law_some_plain", defArgs s__law_some_plain, defBody s__law_some_plain, defScope s__law_some_plain, [], []⟩
def d__law_some_row : He.DefD := ⟨("_law_some_row", none), "_law_some_row", "_law_some_row", defArgs s__law_some_row, defBody s__law_some_row, defScope s__law_some_row, [], []⟩
def d__law_some_shelf : He.DefD := ⟨("_law_some_shelf", none), "_law_some_shelf", "_law_some_shelf", defArgs s__law_some_shelf, defBody s__law_some_shelf, defScope s__law_some_shelf, [], []⟩
def d__law_numbers : He.DefD := ⟨("_law_numbers", none), "_law_numbers", "_law_numbers", defArgs s__law_numbers, defBody s__law_numbers, defScope s__law_numbers, [], []⟩
def d__law_greater : He.DefD := ⟨("_law_greater", none), "_law_greater", "_law_greater", defArgs s__law_greater, defBody s__law_greater, defScope s__law_greater, [], []⟩
def d__law_lots : He.DefD := ⟨("_law_lots", none), "_law_lots", "_law_lots", defArgs s__law_lots, defBody s__law_lots, defScope s__law_lots, [], []⟩
def d__law_lowered : He.DefD := ⟨("_law_lowered", none), "_law_lowered", "_law_lowered", defArgs s__law_lowered, defBody s__law_lowered, defScope s__law_lowered, [], []⟩
def d__law_far : He.DefD := ⟨("_law_far", none), "_law_far", "_law_far", defArgs s__law_far, defBody s__law_far, defScope s__law_far, [], []⟩
def d_law : He.DefD := ⟨("law", none), "law", "law", defArgs s_law, defBody s_law, defScope s_law, [], []⟩
def fnL : List He.DefD := [d_is_whole, d_is_whole_within, d__numbers_of, d_is_row, d_check_row, d_stretches, d__is_word, d__is_places, d_is_shelf, d__check_shelf, d_let_on, d__let_past, d_past, d_moved, d__law_cell_at, d__law_mixed, d__law_draw, d__law_pick, d__law_some_plain, d__law_some_row, d__law_some_shelf, d__law_numbers, d__law_greater, d__law_lots, d__law_lowered, d__law_far, d_law]
def faL : List He.Fa := [.glo "is_whole", .glo "is_whole_within", .glo "_numbers_of", .glo "is_row", .glo "check_row", .glo "stretches", .glo "_is_word", .glo "_is_places", .glo "is_shelf", .glo "_check_shelf", .glo "let_on", .glo "_let_past", .glo "past", .glo "moved", .glo "_law_cell_at", .glo "_law_mixed", .glo "_law_draw", .glo "_law_pick", .glo "_law_some_plain", .glo "_law_some_row", .glo "_law_some_shelf", .glo "_law_numbers", .glo "_law_greater", .glo "_law_lots", .glo "_law_lowered", .glo "_law_far", .glo "law", .free "all", .free "bool", .free "enumerate", .free "int", .free "isinstance", .free "len", .free "list", .free "max", .free "min", .free "range", .free "set", .free "sorted", .free "str", .free "sum", .free "tuple", .free "zip", .str "HEAVY" "heavy", .str "LIGHT" "light", .int "MOST_PLACES" 9, .int "MOST_THINGS" 24]
abbrev RR : PySem.W.OpenRow := PySem.W.OpenLaw.row PySem.Challenge.rw_shelfrows_k04_whole_how_far_moved
abbrev hkL : PySem.W.Hook := He.hookD 4 faL fnL
def obL (s : PySem.W.SharedT) : He.AlD := He.obsDG 4 faL fnL (HandSHeadRun.getT s)
theorem obL_eq (s : PySem.W.SharedT) : obL s = hkL.obs s.abs := He.obsDG_eq (HandSHeadRun.getT_eq s)
def lo0 : List PySem.Str := ["__name__", "ShelfError", "NoRow", "NoShelf", "is_whole", "is_whole_within", "MOST_THINGS", "is_row", "check_row", "stretches", "_numbers_of", "LIGHT", "HEAVY", "MOST_PLACES", "is_shelf", "past", "moved", "let_on", "_is_word", "_is_places", "_check_shelf", "_let_past", "_law_cell_at", "_law_mixed", "_law_draw", "_law_pick", "_law_some_plain", "_law_some_row", "_law_some_shelf", "_law_numbers"]
def lo1 : List PySem.Str := ["_law_greater", "_law_lots", "_law_lowered", "_law_far"]
def looseL : List PySem.Str := lo0 ++ lo1
set_option maxHeartbeats 0 in
theorem runL (w : World) : HandSHeadRun.RunEq RR (PySem.W.view RR.prog [38]) hkL obL 6000 looseL w := by
  intro os
  kernel_rfl
end Sh
section
open PySem PySem.Spec PySem.W PySem.Calls PyProof.Rows
set_option maxHeartbeats 0 in
theorem Sh.endL (F : ∀ {w : PySem.World} {K : PySem.W.Frag} {h : PySem.Heap} {mg : PySem.Str → Option PySem.Value} {f : PySem.Addr}, K.In h → h.Ns PySem.mainGlobals mg → mg ("law" : PySem.Str) = some (.ref f) → He.SaysD Sh.faL Sh.fnL K →
    ∃ (fd : PySem.FuncData) (sp : L2.Sp), (∀ (s : PySem.Shared) (v : PySem.Value), BindsTo s fd ⟨[v], []⟩ [("_law_script", v)]) ∧ (∀ (H : L2.Hp) (a : PySem.Addr) (ns : List Int), ns.length ≤ 63 → L2.SqL K H a (ns.map L2.V.int) → sp [.ref a] H (fun v _ => v = .bl true) fun _ _ _ => False) ∧
      ∀ base : PySem.Heap, K.In base → base.Ns PySem.mainGlobals mg → L2.FnOk (PySem.Challenge.rw_shelfrows_k04_whole_how_far_moved).prog w K mg base L2.CX0 8 f fd ["_law_script"] sp) : PySem.Challenge.rw_shelfrows_k04_whole_how_far_moved.Holds := by
  w_on; o_law
  refine HandSHeadRun.head_any (r := OpenLaw.row PySem.Challenge.rw_shelfrows_k04_whole_how_far_moved) (q := view (OpenLaw.row PySem.Challenge.rw_shelfrows_k04_whole_how_far_moved).prog [38]) (H := Sh.hkL) (ob := Sh.obL) (M := 6000) (loose := Sh.looseL) (d := HandSHeadRun.topDef (OpenLaw.row PySem.Challenge.rw_shelfrows_k04_whole_how_far_moved).prog 38) (kwd := []) Sh.obL_eq
    (by kernel_rfl) (fun s => by kernel_rfl) Sh.runL (by kernel_rfl) (by kernel_rfl) (by kernel_rfl) (by rfl) (by first | assumption | decide +kernel) (by decide +kernel) ⟨rfl, rfl, rfl, rfl, rfl, by decide +kernel⟩ ?hw ?hc
  case hw => w_witness2
  case hc =>
    refine L2.walk_ofE (l := PySem.Challenge.rw_shelfrows_k04_whole_how_far_moved) (n := 63) (k := 8) (x := "_law_script") (CX := L2.CX0) rfl (by decide) (by kernel_rfl) ⟨rfl, by decide, by decide⟩ ?F (fun _ _ _ _ z => z)
    intro w mg fa h Y G hmg0
    obtain ⟨K, KX, c⟩ := Y
    have hmg : mg ("law" : PySem.Str) = some (.ref fa) := by
      have e : (HandSHeadRun.topDef (OpenLaw.row PySem.Challenge.rw_shelfrows_k04_whole_how_far_moved).prog 38).name = ("law" : PySem.Str) := by kernel_rfl
      rw [← e]
      exact hmg0
    obtain ⟨fd, sp, hb, hs, hF⟩ := F KX G hmg c
    exact ⟨K, fd, sp, KX, hb, fun H a ns hl _ hS => hs H a ns hl hS, hF⟩
end
set_option Elab.async false
set_option linter.all false
set_option maxRecDepth 100000
/-! tuples that are known as the objects they are (no dict of their own): made by displays, tuple(..), slices, + -/
namespace Lx
open PySem PySem.Spec PyProof.Rows L2
abbrev tupO (its : List Value) : Obj := { cls := .type "tuple", data := .seq its.toArray }
/-- a new tuple: locked as its own object -/
def NewT (H : Hp) (xs : List V) (Q : VK) : Prop := ∀ p o, o.dict = none → H p = none → Q (.ref p) (upd H p (.frz o (.tup xs)))
section
variable {X : Cx} {pins : List (Addr × Obj)} {σ : L2.St} {H : Hp} {s : Shared}
theorem newT_at {xs : List V} {its : List Value} {Q : VK} {tk : Nat} (I : Inv X pins σ H s) (hz : xs.length ≤ sizeLine) (r : Vals xs its) (q : NewT H xs Q) :
    EP X pins σ Q (.ref s.heap.objs.size) { s with heap := s.heap.push { cls := .type "tuple", data := .seq its.toArray }, toks := tk } :=
  ⟨.ref s.heap.objs.size, _, I.laid (t' := tk) (o := .frz (tupO its) (.tup xs)) (fun b ob q => Heap.get?_push_of_some _ q) (Nat.le_refl _) ⟨Heap.get?_push_size _ rfl, hz, its, r, IsTup.new _ _⟩, rfl, q _ _ rfl (I.hok.fresh (Nat.le_refl _))⟩
end
section
variable {X : Cx} {es : List Expr} {t : TA} {pos : Pos}
def tTupF (t : TA) : TE := fun σ H Q => t σ H fun xs H1 => xs.length ≤ sizeLine ∧ NewT H1 xs Q
theorem pe_tupF {x1} (h : PA X es t) : PE X (.Tuple es x1 pos) (tTupF t) := by
  refine ⟨fun pins s σ H Q I hq => ?_⟩
  refine wpAny_Tuple_spliced (thn (h.run pos pins s σ H _ I hq) fun us s1 ⟨xs, H1, I1, r, z, q⟩ => ⟨by rw [← r.length]; exact z, ?_⟩)
  exact newT_at (tk := s1.toks) I1 z r q
def rTupOfF (K : PySem.W.Frag) : List V → Hp → VK → Prop := fun xs H Q => ∃ p ys, xs = [.ref p] ∧ ((SqL K H p ys ∧ NewT H ys Q) ∨ (SqT K H p ys ∧ Q (.ref p) H))
theorem cl_tupleF : CallR X (.type "tuple") (rTupOfF X.K) := by
  intro pins s σ H xs us Q I r h
  obtain ⟨p, ys, rfl, h⟩ := h
  obtain ⟨u, rfl, rx⟩ := vals1 r
  cases rx
  rcases h with ⟨hq, q⟩ | ⟨hq, q⟩
  · obtain ⟨its, r', pl, hz⟩ := I.list hq
    have hlen := r'.length
    refine call_tuple_list pl.isList (fun h' kp => ?_) (by simp only [List.size_toArray] <;> omega)
    have I1 : Inv X pins σ H { s with heap := h' } := I.kept (t' := s.toks) kp
    exact newT_at (tk := s.toks) I1 hz r' q
  · obtain ⟨its, r', pl, hz⟩ := I.tuple hq
    exact call_tuple_same pl ⟨.ref p, H, I, rfl, q⟩
def rCatF (K : PySem.W.Frag) : R2 := fun x y H Q => ∃ a b xs ys, x = .ref a ∧ y = .ref b ∧ SqT K H a xs ∧ SqT K H b ys ∧ xs.length + ys.length ≤ sizeLine ∧
  (xs = [] → Q (.ref b) H) ∧ (xs ≠ [] → ys = [] → Q (.ref a) H) ∧ (xs ≠ [] → ys ≠ [] → NewT H (xs ++ ys) Q)
theorem op_catF : OpR X (binaryOp .Add) (rCatF X.K) := by
  intro pins s σ H x y v u Q I rx ry h
  obtain ⟨a, b, xs, ys, rfl, rfl, ha, hb, hz, q0, q1, q2⟩ := h
  cases rx
  cases ry
  obtain ⟨its, r1, p1, _⟩ := I.tuple ha
  obtain ⟨its2, r2, p2, _⟩ := I.tuple hb
  by_cases hx : xs = []
  · subst hx
    cases r1
    exact cat_tup0 p1 p2 ⟨.ref b, H, I, rfl, q0 rfl⟩
  · refine HT.cat_tup p1 p2 (fun z => hx (r1.nil_iff.mp z)) (fun z => ⟨.ref a, H, I, rfl, q1 hx (r2.nil_iff.mp z)⟩) (fun z => ?_) (by rw [← r1.length, ← r2.length]; exact hz)
    exact newT_at (tk := s.toks) I (by rw [List.length_append]; exact hz) (r1.append r2) (q2 hx fun w => z (r2.nil_iff.mpr w))
def rSlF (K : PySem.W.Frag) : V → Option Int → Option Int → Hp → VK → Prop := fun x lo hi H Q => ∃ a xs, x = .ref a ∧ SqT K H a xs ∧
  (HT.sIx xs.length 0 lo = 0 ∧ HT.sIx xs.length xs.length hi = xs.length → Q (.ref a) H) ∧ (¬ (HT.sIx xs.length 0 lo = 0 ∧ HT.sIx xs.length xs.length hi = xs.length) → NewT H (cutV xs lo hi) Q)
end
/-! ### t.index(x), flat items -/
section
variable {X : Cx}
def rTIndex : V → V → Hp → VK → Prop := fun x y H Q => ∃ (a : Addr) (o : Obj) (ys : List V) (j : Nat) (z : V), x = .ref a ∧ o.dict = none ∧ H a = some (.frz o (.tup ys)) ∧ flatV y = true ∧ ys.all flatV = true ∧ ys[j]? = some z ∧ eqV z y = true ∧
  (∀ (m : Nat) (z' : V), m < j → ys[m]? = some z' → eqV z' y = false) ∧ Q (.int (j : Nat)) H
def tTIdx (ta tb : TE) : TE := fun σ H Q => ta σ H fun x H1 => (∃ a o ys, x = .ref a ∧ o.dict = none ∧ H1 a = some (.frz o (.tup ys))) ∧ tb σ H1 fun y H2 => ∃ z, [y] = [z] ∧ rTIndex x z H2 Q
theorem pe_tidx {o e : Expr} {to te : TE} {apos cpos : Pos} (ho : PE X o to) (ha : PE X e te)
    (hbase : attributeBase o "index" X.env (eval o X.env) = eval o X.env := by rfl) (hfew : ((backTo cpos (starEach [e] X.env)).all (fun x => !x.1) && (backToKw cpos (keywordEach [] X.env)).all (fun x => x.1.isSome)
      && decide ([e].length + ([] : List Keyword).length + (if ([] : List Keyword).isEmpty then 0 else 1) < 30)) = true := by rfl)
    (hline : (apos.endLine == cpos.line) = true := by rfl) (hs : starEach [e] X.env = (false, eval e X.env) :: starEach [] X.env := by rfl) (hplain : (backTo cpos (starEach [] X.env)).any (·.1) = false := by rfl) :
    PE X (.Call (.Attribute o "index" apos) [e] [] cpos) (tTIdx to te) := by
  refine ⟨fun pins s σ H Q I h => ?_⟩
  refine wpAny_Call_method_late hbase hfew hline rfl (thn (ho.run pins s σ H _ I h) fun v s1 ⟨x, H1, I1, r1, ty, q1⟩ => ?_)
  obtain ⟨a, ob, ys0, ex, hd0, hf⟩ := ty
  subst ex
  cases r1
  obtain ⟨hget, hz, its, rv, hT⟩ := I1.hok a _ hf
  refine ⟨"tuple", "tuple.index", PySem.F.plainAttrs_tuple, PySem.F.slot_tuple_index, PySem.F.type_tuple_index, hT.typeIs, (fun b e => by cases e; exact ⟨ob, hget, hd0⟩), ?_⟩
  have hA := (pa_cons ha pa_nil hs).run cpos pins s1 σ H1 (fun vs H2 => ∃ y, vs = [y] ∧ rTIndex (.ref a) y H2 Q) I1 q1
  rw [hs] at hA ⊢
  refine Calls.callWith_builtin (by show (false || (backTo cpos (starEach [] X.env)).any (·.1)) = false; rw [hplain] <;> rfl) (Calls.evalArgs_plain ?_)
  refine thn hA fun us s2 ⟨vs, H2, I2, r2, y, ey, q2⟩ => ?_
  subst ey
  obtain ⟨a', o', ys, j, z, ea, hdn, hF, fy, fs, hj, hzj, hno, q⟩ := q2
  cases ea
  obtain ⟨u, rfl, ry⟩ := r2.one
  obtain ⟨hget, hz2, its2, rv2, ⟨⟨cls, dd, dt, sl⟩, ho2, hc, n, hd⟩⟩ := I2.hok a _ hF
  simp only at hc hd
  subst hc
  subst hd
  have hl : its2.toArray.size = ys.length := by rw [List.size_toArray, ← rv2.length]
  have hjl : j < its2.toArray.size := by rw [hl]; exact (List.getElem?_eq_some_iff.mp hj).1
  have at' : ∀ (m : Nat) (hm : m < its2.toArray.size) (w : V), ys[m]? = some w → eqU y its2.toArray[m] = eqV w y := fun m hm w hw => by
    obtain ⟨u', hu', ru'⟩ := rv2.get hw
    have e := (List.getElem?_eq_some_iff.mp hu').2
    have e2 : its2.toArray[m] = u' := by rw [← e]; simp
    rw [e2]
    exact eqU_of ru' (List.all_eq_true.mp fs w (List.mem_of_getElem? hw))
  refine call_meets PySem.F.slot_tuple_index ⟨_, ho2, rfl⟩ PySem.F.entry_tuple_index (PySem.F.args_tuple_index_2 _ _) (TI.tuple_indexAt a its2.toArray n dd sl u (eqU y) j hjl ?_ ?_)
    ⟨ho2, fun w hw => mem_eqAt (x := y) ry fy rv2 fs w (by simpa using hw), ⟨.int (j : Nat), H2, I2.tok _, ⟨_, rfl⟩, q⟩⟩
  · rw [at' j hjl z hj]; exact hzj
  · intro m hm hmj
    have hm' : m < ys.length := by rw [← hl]; exact hm
    rw [at' m hm ys[m] (List.getElem?_eq_getElem hm')]
    exact hno m _ hmj (List.getElem?_eq_getElem hm')
end
end Lx
set_option Elab.async false
set_option linter.all false
set_option maxRecDepth 100000
set_option maxHeartbeats 1000000
/-! zip of two iterators of any kind -/
namespace Lx
open PySem
open PySem.Sem (wp)
/-- an iterator at i over what stands at l: its state by the number of items gone, and the step -/
structure Stp (prog : Program) (w : World) (i l : Addr) (St : Nat → Heap → Prop) (n : Nat) (at_ : Nat → Option Value) : Prop where
  mv : ∀ (k : Nat) (c : Addr) (h h' : Heap), St k h → Heap.ExtBut c h h' → i ≠ c → l ≠ c → St k h'
  obj : ∀ (k : Nat) (h : Heap), St k h → ∃ o, h.get? i = some o
  go : ∀ (A : Around) (E : Value → Shared → Prop) (s : Shared) (k : Nat) (x : Value) (Q : Value → Shared → Prop), St k s.heap → at_ k = some x → (∀ h', St (k + 1) h' → Heap.SameBut i s.heap h' → Q x { s with heap := h' }) → wpAny (model prog w) A (Builtin.SmallTypes.nextOf (.ref i)) Q E s
  stop : ∀ (A : Around) (E : Value → Shared → Prop) (s : Shared) (k : Nat) (Q : Value → Shared → Prop), A.handled = none → St k s.heap → at_ k = none → (∀ h' e, Heap.ExtBut i s.heap h' → (∃ o, h'.get? e = some o ∧ o.cls = .type "StopIteration") → E (.ref e) { s with heap := h' }) → wpAny (model prog w) A (Builtin.SmallTypes.nextOf (.ref i)) Q E s
theorem stp_t {prog : Program} {w : World} {i l : Addr} {xs : Array Value} : Stp prog w i l (fun k h => h.IsTupleIter i l k ∧ h.IsTuple l xs) xs.size (fun k => xs[k]?) where
  mv := fun k c h h' ⟨a, b⟩ e n1 n2 => ⟨a.extBut e n1, b.extBut e n2⟩
  obj := fun k h ⟨⟨o, e, _⟩, _⟩ => ⟨o, e⟩
  go := fun A E s k x Q ⟨a, b⟩ hx q => RZ.nextOf_tuple_item a b hx fun h' a' sb => q h' ⟨a', b.extBut sb.extBut (fun z => by
    subst z
    obtain ⟨o, e, c, _⟩ := a
    obtain ⟨o', e', c', _⟩ := b
    rw [e] at e'; cases e'
    rw [c] at c'
    injection c' with c'
    exact absurd c' (by decide))⟩ sb
  stop := fun A E s k Q hh ⟨a, b⟩ hx q => RZ.nextOf_tuple_end hh a b hx q
theorem stp_l {prog : Program} {w : World} {i l : Addr} {xs : Array Value} : Stp prog w i l (fun k h => h.IsListIter i l k ∧ h.IsList l xs) xs.size (fun k => xs[k]?) where
  mv := fun k c h h' ⟨a, b⟩ e n1 n2 => ⟨a.extBut e n1, b.extBut e n2⟩
  obj := fun k h ⟨⟨o, e, _⟩, _⟩ => ⟨o, e⟩
  go := fun A E s k x Q ⟨a, b⟩ hx q => wpAny_nextOf_list_item a b hx fun h' a' sb => q h' ⟨a', b.extBut sb.extBut (fun z => by
    subst z
    obtain ⟨o, e, c, _⟩ := a
    obtain ⟨o', e', c', _⟩ := b
    rw [e] at e'; cases e'
    rw [c] at c'
    injection c' with c'
    exact absurd c' (by decide))⟩ sb
  stop := fun A E s k Q hh ⟨a, b⟩ hx q => wpAny_nextOf_list_end hh a b hx q
section
variable {prog : Program} {w : World} {A : Around} {E : Value → Shared → Prop} {s : Shared} {z TI TO i1 i2 l1 l2 : Addr} {S1 S2 : Nat → Heap → Prop} {n1 n2 : Nat} {f1 f2 : Nat → Option Value}
theorem zipG_item {k1 k2 : Nat} {x y a b : Value} {Q : Value → Shared → Prop} (D : ZipApart z TI TO i1 i2 l1 l2) (T1 : Stp prog w i1 l1 S1 n1 f1) (T2 : Stp prog w i2 l2 S2 n2 f2) (hz : IsZip s.heap z TI TO .none) (hTI : IsPair s.heap TI (.ref i1) (.ref i2)) (hTO : IsPair s.heap TO a b) (h1 : S1 k1 s.heap) (h2 : S2 k2 s.heap) (hx : f1 k1 = some x) (hy : f2 k2 = some y)
    (hQ : ∀ h', IsZip h' z TI TO (rawInt s.heap.objs.size) → IsPair h' TO x y → S1 (k1 + 1) h' → S2 (k2 + 1) h' → IsPair h' s.heap.objs.size x y → h'.objs.size = s.heap.objs.size + 1 → (∀ c o, c ≠ z → c ≠ TO → c ≠ i1 → c ≠ i2 → s.heap.get? c = some o → h'.get? c = some o) → Q (.ref s.heap.objs.size) { s with heap := h' }) :
    wpAny (model prog w) A (Builtin.«zip.__next__» ⟨[.ref z], []⟩) (fun fin s' => ∃ v, fin = .done (.ret v) ∧ Q v s') E s := by
  show wpAny _ _ (field (.ref z) 2 >>= _) _ _ _; refine wpAny_bind (wpAny_field hz rfl (x := .bool false) rfl ?_)
  show wpAny _ _ (field (.ref z) 3 >>= _) _ _ _; refine wpAny_bind (wpAny_field hz rfl (x := .ref TI) rfl ?_); refine wpAny_bind (wpAny_seqItems hTI rfl ?_)
  show wpAny _ _ (Builtin.SmallTypes.ownedTupleIsFree (.ref z) >>= _) _ _ _; refine wpAny_bind ?_
  unfold Builtin.SmallTypes.ownedTupleIsFree; refine wpAny_bind (wpAny_field hz rfl (x := .none) rfl (wpAny_pure ?_))
  simp only [if_true]; refine wpAny_bind (wpAny_rule ?_); refine wpAny_bind (wpAny_field hz rfl (x := .ref TO) rfl ?_); refine wpAny_bind (wpAny_setField_rec hz (by simp) fun g1 hz1 hs1 => ?_)
  replace hz1 : IsZip g1 z TI TO .ellipsis := hz1
  refine wpAny_bind ?_; simp only [List.zipIdx_cons, List.zipIdx_nil, List.forIn_cons, List.forIn_nil]; refine wpAny_bind (wpAny_bind (wpAny_onRaise ?_))
  show wpAny _ _ (Builtin.SmallTypes.nextOf (.ref i1) >>= _) _ _ _
  refine wpAny_bind (T1.go _ _ _ k1 x _ (T1.mv _ _ _ _ h1 hs1.extBut D.i1z D.l1z) hx fun g2 q1 hs2 => wpAny_pure ?_)
  have o2 : IsPair g2 TO a b := hs2.extBut _ _ D.TOi1 (hs1.extBut _ _ D.TOz hTO)
  refine wpAny_bind (wpAny_seqItems o2 rfl ?_); refine wpAny_bind (wpAny_updateSeq_pair o2 fun g3 o3 hs3 => ?_)
  replace o3 : IsPair g3 TO x b := o3
  refine wpAny_bind (wpAny_letGo (wpAny_pure ?_)); refine wpAny_bind (wpAny_bind (wpAny_onRaise ?_))
  show wpAny _ _ (Builtin.SmallTypes.nextOf (.ref i2) >>= _) _ _ _
  refine wpAny_bind (T2.go _ _ _ k2 y _ (T2.mv _ _ _ _ (T2.mv _ _ _ _ (T2.mv _ _ _ _ h2 hs1.extBut D.i2z D.l2z) hs2.extBut D.i12.symm D.l2i1) hs3.extBut D.TOi2.symm D.l2TO) hy fun g4 q2 hs4 => wpAny_pure ?_)
  have o4 : IsPair g4 TO x b := hs4.extBut _ _ D.TOi2 o3
  refine wpAny_bind (wpAny_seqItems o4 rfl ?_); refine wpAny_bind (wpAny_updateSeq_pair o4 fun g5 o5 hs5 => ?_)
  replace o5 : IsPair g5 TO x y := o5
  refine wpAny_bind (wpAny_letGo (wpAny_pure (wpAny_pure ?_))); refine wpAny_bind (wpAny_seqItems o5 rfl ?_); refine wpAny_bind (wpAny_newTuple ?_)
  have sz : g5.objs.size = s.heap.objs.size := by rw [hs5.1, hs4.1, hs3.1, hs2.1, hs1.1]
  have z5 : IsZip g5 z TI TO .ellipsis := hs5.extBut _ _ D.TOz.symm (hs4.extBut _ _ D.i2z.symm (hs3.extBut _ _ D.TOz.symm (hs2.extBut _ _ D.i1z.symm hz1)))
  have k5 : ∀ c o, c ≠ z → c ≠ TO → c ≠ i1 → c ≠ i2 → s.heap.get? c = some o → g5.get? c = some o := fun c o c1 c2 c3 c4 e => hs5.extBut _ _ c2 (hs4.extBut _ _ c4 (hs3.extBut _ _ c2 (hs2.extBut _ _ c3 (hs1.extBut _ _ c1 e))))
  have a1 : S1 (k1 + 1) g5 := T1.mv _ _ _ _ (T1.mv _ _ _ _ (T1.mv _ _ _ _ q1 hs3.extBut D.TOi1.symm D.l1TO) hs4.extBut D.i12 D.l1i2) hs5.extBut D.TOi1.symm D.l1TO
  have a2 : S2 (k2 + 1) g5 := T2.mv _ _ _ _ q2 hs5.extBut D.TOi2.symm D.l2TO
  have zlt : z < g5.objs.size := Heap.lt_size z5
  show wpAny _ _ (Builtin.SmallTypes.ownedTupleHandOut (.ref z) (.ref g5.objs.size) >>= _) _ _ _
  refine wpAny_bind ?_; unfold Builtin.SmallTypes.ownedTupleHandOut
  have pushed : Heap.ExtBut z g5 (g5.push { cls := .type "tuple", data := .seq #[x, y] }) := fun c o _ e => Heap.get?_push_of_some _ e
  have z6 : IsZip (g5.push { cls := .type "tuple", data := .seq #[x, y] }) z TI TO .ellipsis := Heap.get?_push_of_some _ z5
  refine wpAny_bind (wpAny_setField_rec z6 (by simp) fun g7 z7 hs7 => ?_)
  replace z7 : IsZip g7 z TI TO (rawInt g5.objs.size) := z7
  refine wpAny_setField_rec z7 (by simp) fun g8 z8 hs8 => ?_
  replace z8 : IsZip g8 z TI TO (rawInt g5.objs.size) := z8
  have up : ∀ c o, c ≠ z → g5.get? c = some o → g8.get? c = some o := fun c o c1 e => hs8.extBut _ _ c1 (hs7.extBut _ _ c1 (pushed _ _ c1 e))
  have b1 : S1 (k1 + 1) g8 := T1.mv _ z _ _ a1 (fun c o n e => up c o n e) D.i1z D.l1z
  have b2 : S2 (k2 + 1) g8 := T2.mv _ z _ _ a2 (fun c o n e => up c o n e) D.i2z D.l2z
  have t8 : IsPair g8 g5.objs.size x y := hs8.extBut _ _ (Nat.ne_of_gt zlt) (hs7.extBut _ _ (Nat.ne_of_gt zlt) (Heap.get?_push_size _ rfl))
  have s8 : g8.objs.size = g5.objs.size + 1 := by rw [hs8.1, hs7.1, Heap.size_push]
  rw [sz] at z8 t8 s8
  refine wpAny_pure ⟨_, rfl, ?_⟩; show Q (.ref g5.objs.size) _; rw [sz]
  exact hQ g8 z8 (up _ _ D.TOz o5) b1 b2 t8 s8 fun c o c1 c2 c3 c4 e => up c o c1 (k5 c o c1 c2 c3 c4 e)
theorem zipG_end {k1 k2 : Nat} {a b : Value} {Q : Fin → Shared → Prop} (hh : A.handled = none) (D : ZipApart z TI TO i1 i2 l1 l2) (T1 : Stp prog w i1 l1 S1 n1 f1) (T2 : Stp prog w i2 l2 S2 n2 f2) (hz : IsZip s.heap z TI TO .none) (hTI : IsPair s.heap TI (.ref i1) (.ref i2)) (hTO : IsPair s.heap TO a b) (h1 : S1 k1 s.heap) (h2 : S2 k2 s.heap) (hend : f1 k1 = none ∨ f2 k2 = none)
    (hE : ∀ h' e, (∀ c o, c ≠ z → c ≠ TO → c ≠ i1 → c ≠ i2 → s.heap.get? c = some o → h'.get? c = some o) → (∃ o, h'.get? e = some o ∧ o.cls = .type "StopIteration") → E (.ref e) { s with heap := h' }) : wpAny (model prog w) A (Builtin.«zip.__next__» ⟨[.ref z], []⟩) Q E s := by
  show wpAny _ _ (field (.ref z) 2 >>= _) _ _ _; refine wpAny_bind (wpAny_field hz rfl (x := .bool false) rfl ?_)
  show wpAny _ _ (field (.ref z) 3 >>= _) _ _ _; refine wpAny_bind (wpAny_field hz rfl (x := .ref TI) rfl ?_); refine wpAny_bind (wpAny_seqItems hTI rfl ?_)
  show wpAny _ _ (Builtin.SmallTypes.ownedTupleIsFree (.ref z) >>= _) _ _ _; refine wpAny_bind ?_
  unfold Builtin.SmallTypes.ownedTupleIsFree; refine wpAny_bind (wpAny_field hz rfl (x := .none) rfl (wpAny_pure ?_))
  simp only [if_true]; refine wpAny_bind (wpAny_rule ?_); refine wpAny_bind (wpAny_field hz rfl (x := .ref TO) rfl ?_); refine wpAny_bind (wpAny_setField_rec hz (by simp) fun g1 hz1 hs1 => ?_)
  replace hz1 : IsZip g1 z TI TO .ellipsis := hz1
  refine wpAny_bind ?_; simp only [List.zipIdx_cons, List.zipIdx_nil, List.forIn_cons, List.forIn_nil]; refine wpAny_bind (wpAny_bind (wpAny_onRaise ?_))
  show wpAny _ _ (Builtin.SmallTypes.nextOf (.ref i1) >>= _) _ _ _
  have p1 := T1.mv _ _ _ _ h1 hs1.extBut D.i1z D.l1z
  cases hx : f1 k1 with
  | none =>
    refine wpAny_bind (T1.stop _ _ _ k1 _ hh p1 hx fun g2 e hs2 ⟨oe, e1, e2⟩ => ?_)
    have z2 : IsZip g2 z TI TO .ellipsis := hs2 _ _ D.i1z.symm hz1
    have ez : e ≠ z := fun x => by subst x; rw [z2] at e1; cases e1; simp at e2
    exact wpAny_setField_rec z2 (by simp) fun g3 _ hs3 => hE g3 e (fun c o c1 _ c3 _ x => hs3.extBut _ _ c1 (hs2 _ _ c3 (hs1.extBut _ _ c1 x))) ⟨oe, hs3.extBut _ _ ez e1, e2⟩
  | some x =>
    have hy : f2 k2 = none := hend.resolve_left (by rw [hx]; exact fun z => nomatch z)
    refine wpAny_bind (T1.go _ _ _ k1 x _ p1 hx fun g2 q1 hs2 => wpAny_pure ?_)
    have o2 : IsPair g2 TO a b := hs2.extBut _ _ D.TOi1 (hs1.extBut _ _ D.TOz hTO)
    refine wpAny_bind (wpAny_seqItems o2 rfl ?_); refine wpAny_bind (wpAny_updateSeq_pair o2 fun g3 o3 hs3 => ?_); refine wpAny_bind (wpAny_letGo (wpAny_pure ?_)); refine wpAny_bind (wpAny_bind (wpAny_onRaise ?_))
    show wpAny _ _ (Builtin.SmallTypes.nextOf (.ref i2) >>= _) _ _ _
    refine wpAny_bind (T2.stop _ _ _ k2 _ hh (T2.mv _ _ _ _ (T2.mv _ _ _ _ (T2.mv _ _ _ _ h2 hs1.extBut D.i2z D.l2z) hs2.extBut D.i12.symm D.l2i1) hs3.extBut D.TOi2.symm D.l2TO) hy fun g4 e hs4 ⟨oe, e1, e2⟩ => ?_)
    have z4 : IsZip g4 z TI TO .ellipsis := hs4 _ _ D.i2z.symm (hs3.extBut _ _ D.TOz.symm (hs2.extBut _ _ D.i1z.symm hz1))
    have ez : e ≠ z := fun x => by subst x; rw [z4] at e1; cases e1; simp at e2
    exact wpAny_setField_rec z4 (by simp) fun g5 _ hs5 => hE g5 e (fun c o c1 c2 c3 c4 x => hs5.extBut _ _ c1 (hs4 _ _ c4 (hs3.extBut _ _ c2 (hs2.extBut _ _ c3 (hs1.extBut _ _ c1 x))))) ⟨oe, hs5.extBut _ _ ez e1, e2⟩
end
end Lx
namespace Lx
open PySem PySem.Spec PyProof.Rows
open PySem.Sem (wp)
abbrev zpO (T I : Addr) : Obj := { cls := .type "zip", data := .fields #[.none, .bool false, .bool false, .ref T, .ref I] }
abbrev prO (x y : Value) : Obj := { cls := .type "tuple", data := .seq #[x, y] }
abbrev zg2 (h : Heap) (o1 o2 : Obj) : Heap := (h.push o1).push o2
abbrev zg3 (h : Heap) (o1 o2 : Obj) : Heap := (zg2 h o1 o2).push (prO (.ref h.objs.size) (.ref (h.push o1).objs.size))
abbrev zg4 (h : Heap) (o1 o2 : Obj) : Heap := (zg3 h o1 o2).push (prO .none .none)
abbrev zg5 (h : Heap) (o1 o2 : Obj) : Heap := (zg4 h o1 o2).push (zpO (zg2 h o1 o2).objs.size (zg3 h o1 o2).objs.size)
theorem meets_zipG {v1 v2 : Value} {o1 o2 : Obj} {H1 H2 : Heap → Prop} (B1 : Begins v1 o1 H1) (B2 : Begins v2 o2 H2) (up : ∀ h, H2 h → H2 (h.push o1)) :
    Meets (Builtin.«zip.__new__» ⟨[.type "zip", v1, v2], []⟩) (fun _ R s => H1 s.heap ∧ H2 s.heap ∧ R (.ok (.ret (.ref (zg4 s.heap o1 o2).objs.size))) { s with heap := zg5 s.heap o1 o2 }) :=
  .of_wp fun prog w A R s h => by
    obtain ⟨hp, g, d, tk, os⟩ := s; obtain ⟨h1, h2, h⟩ := h
    have hsub := sub_zip
    have q1 : ∀ {A' : Around} {E : Value → Shared → Prop} {Q : Value → Shared → Prop}, Q (.ref hp.objs.size) ⟨hp.push o1, g, d, tk, os⟩ → wpAny (model prog w) A' (pyIter v1) Q E ⟨hp, g, d, tk, os⟩ := fun q => B1.iter prog w _ _ ⟨hp, g, d, tk, os⟩ _ h1 q
    have q2 : ∀ {A' : Around} {E : Value → Shared → Prop} {Q : Value → Shared → Prop}, Q (.ref (hp.push o1).objs.size) ⟨(hp.push o1).push o2, g, d, tk, os⟩ → wpAny (model prog w) A' (pyIter v2) Q E ⟨hp.push o1, g, d, tk, os⟩ := fun q => B2.iter prog w _ _ ⟨hp.push o1, g, d, tk, os⟩ _ (up _ h2) q
    wp_walk using q1, q2
    exact ⟨_, rfl, h⟩
theorem call_zipG {prog : Program} {w : World} {A : Around} {E : Value → Shared → Prop} {s : Shared} {v1 v2 : Value} {o1 o2 : Obj} {H1 H2 : Heap → Prop} {Q : Value → Shared → Prop} (B1 : Begins v1 o1 H1) (B2 : Begins v2 o2 H2) (up : ∀ h, H2 h → H2 (h.push o1)) (h1 : H1 s.heap) (h2 : H2 s.heap)
    (h : ∀ h', IsZip h' (s.heap.objs.size + 4) (s.heap.objs.size + 2) (s.heap.objs.size + 3) .none → IsPair h' (s.heap.objs.size + 2) (.ref s.heap.objs.size) (.ref (s.heap.objs.size + 1)) → IsPair h' (s.heap.objs.size + 3) .none .none → h'.get? s.heap.objs.size = some o1 → h'.get? (s.heap.objs.size + 1) = some o2 → (∀ c o, s.heap.get? c = some o → h'.get? c = some o) → Q (.ref (s.heap.objs.size + 4)) { s with heap := h' }) :
    wpAny (model prog w) A (call (.type "zip") [v1, v2]) Q E s := by
  refine callType_new F.called_zip (by decide) (F.typeCall_zip_2 _ _) (F.newCall_zip_2 _ _) (fun obj => F.args_object_init_3 obj _ _) F.entry_zip_new (meets_zipG B1 B2 up) ⟨h1, h2, ?_⟩
  have e1 : (s.heap.push o1).objs.size = s.heap.objs.size + 1 := Heap.size_push ..
  have e2 : (zg2 s.heap o1 o2).objs.size = s.heap.objs.size + 2 := by rw [Heap.size_push, e1]
  have e3 : (zg3 s.heap o1 o2).objs.size = s.heap.objs.size + 3 := by rw [Heap.size_push, e2]
  have e4 : (zg4 s.heap o1 o2).objs.size = s.heap.objs.size + 4 := by rw [Heap.size_push, e3]
  have u : ∀ {h : Heap} {o : Obj} {c : Addr} {p : Obj}, h.get? c = some p → (h.push o).get? c = some p := fun x => Heap.get?_push_of_some _ x
  have g5 : (zg5 s.heap o1 o2).get? (zg4 s.heap o1 o2).objs.size = some (zpO (zg2 s.heap o1 o2).objs.size (zg3 s.heap o1 o2).objs.size) := Heap.get?_push_size _ rfl
  have g4 : (zg5 s.heap o1 o2).get? (zg3 s.heap o1 o2).objs.size = some (prO .none .none) := u (Heap.get?_push_size _ rfl)
  have g3 : (zg5 s.heap o1 o2).get? (zg2 s.heap o1 o2).objs.size = some (prO (.ref s.heap.objs.size) (.ref (s.heap.push o1).objs.size)) := u (u (Heap.get?_push_size _ rfl))
  have g2 : (zg5 s.heap o1 o2).get? (s.heap.push o1).objs.size = some o2 := u (u (u (Heap.get?_push_size _ B2.free)))
  have g1 : (zg5 s.heap o1 o2).get? s.heap.objs.size = some o1 := u (u (u (u (Heap.get?_push_size _ B1.free))))
  show _ ∧ _
  rw [e2, e3, e4] at g5; rw [e1, e2] at g3; rw [e3] at g4; rw [e1] at g2; rw [e4]
  exact ⟨⟨_, g5, rfl⟩, h _ g5 g3 g4 g1 g2 fun c o x => u (u (u (u (u x))))⟩
theorem pyNext_zipG_item {prog : Program} {w : World} {A : Around} {E : Value → Shared → Prop} {s : Shared} {z TI TO i1 i2 l1 l2 : Addr} {S1 S2 : Nat → Heap → Prop} {n1 n2 : Nat} {f1 f2 : Nat → Option Value} {k1 k2 : Nat} {x y a b : Value} {Q : Option Value → Shared → Prop} (D : ZipApart z TI TO i1 i2 l1 l2) (T1 : Stp prog w i1 l1 S1 n1 f1) (T2 : Stp prog w i2 l2 S2 n2 f2) (hz : IsZip s.heap z TI TO .none) (hTI : IsPair s.heap TI (.ref i1) (.ref i2)) (hTO : IsPair s.heap TO a b) (h1 : S1 k1 s.heap) (h2 : S2 k2 s.heap) (hx : f1 k1 = some x) (hy : f2 k2 = some y)
    (hQ : ∀ h', IsZip h' z TI TO (rawInt s.heap.objs.size) → IsPair h' TO x y → S1 (k1 + 1) h' → S2 (k2 + 1) h' → IsPair h' s.heap.objs.size x y → h'.objs.size = s.heap.objs.size + 1 → (∀ c o, c ≠ z → c ≠ TO → c ≠ i1 → c ≠ i2 → s.heap.get? c = some o → h'.get? c = some o) → Q (some (.ref s.heap.objs.size)) { s with heap := h' }) : wpAny (model prog w) A (pyNext (.ref z)) Q E s := by
  have hT : s.TypeIs (.ref z) "zip" := ⟨_, hz, rfl⟩
  unfold pyNext
  exact wpAny_bind (wpAny_attempt (wpAny_callSpecial?_slot (name := Str.ofString "__next__") hT F.slot_zip_next (wpAny_call_entry F.slot_zip_next hT F.entry_zip_next (zipG_item D T1 T2 hz hTI hTO h1 h2 hx hy fun h' a1 a2 a3 a4 a5 a6 a7 => wpAny_pure (hQ h' a1 a2 a3 a4 a5 a6 a7)) (F.args_zip_next_1 _))))
theorem pyNext_zipG_end {prog : Program} {w : World} {A : Around} {E : Value → Shared → Prop} {s : Shared} {z TI TO i1 i2 l1 l2 : Addr} {S1 S2 : Nat → Heap → Prop} {n1 n2 : Nat} {f1 f2 : Nat → Option Value} {k1 k2 : Nat} {a b : Value} {Q : Option Value → Shared → Prop} (hh : A.handled = none) (D : ZipApart z TI TO i1 i2 l1 l2) (T1 : Stp prog w i1 l1 S1 n1 f1) (T2 : Stp prog w i2 l2 S2 n2 f2) (hz : IsZip s.heap z TI TO .none) (hTI : IsPair s.heap TI (.ref i1) (.ref i2)) (hTO : IsPair s.heap TO a b) (h1 : S1 k1 s.heap) (h2 : S2 k2 s.heap) (hend : f1 k1 = none ∨ f2 k2 = none)
    (hQ : ∀ h', (∀ c o, c ≠ z → c ≠ TO → c ≠ i1 → c ≠ i2 → s.heap.get? c = some o → h'.get? c = some o) → Q none { s with heap := h' }) : wpAny (model prog w) A (pyNext (.ref z)) Q E s := by
  have hT : s.TypeIs (.ref z) "zip" := ⟨_, hz, rfl⟩
  unfold pyNext
  refine wpAny_bind (wpAny_attempt (wpAny_callSpecial?_slot (name := Str.ofString "__next__") hT F.slot_zip_next (wpAny_call_entry F.slot_zip_next hT F.entry_zip_next (zipG_end hh D T1 T2 hz hTI hTO h1 h2 hend fun h' e hk ⟨o, ho, hc⟩ => ?_) (F.args_zip_next_1 _))))
  exact wpAny_bind (wpAny_isInstance (T := "StopIteration") (b := true) ⟨o, ho, hc⟩ isSubtype_stop (wpAny_pure (hQ _ hk)))
end Lx
set_option Elab.async false
set_option linter.all false
set_option maxRecDepth 100000
/-! values as data over the hand layer: cells, temporaries, the states that bear them -/
namespace Ld
open PySem PySem.Spec PyProof.Rows L2 Lx
abbrev Dat := PyData
/-- a resource at an address: what must hold of its places, which are its own -/
structure Res where
  lent : Bool
  holds : Hp → Hp → Addr → (Addr → Prop) → Prop
  dom : ∀ {B H a F x}, holds B H a F → F x → H x ≠ none
  frame : ∀ {B B' H H' a F}, holds B H a F → Same B B' → (∀ x, F x → H' x = H x) → holds B' H' a F
/-- what a name's slot is known to hold: nothing known | data that never changes | a list of this def's own | a list that a caller lent -/
inductive Cell where
  | no | dt (d : Dat) | ow (ds : List Dat) | ln (ds : List Dat) | sc (ns : List Int) | ob (p : HO) | li (R : Res)
/-- a value under way: data | a new list | what slot i holds -/
inductive Tmp where
  | dt (d : Dat) | fr (ds : List Dat) | br (i : Nat) | sc (ns : List Int) | ob (p : HO) | li (R : Res)
structure Hs where
  b : Hp
  h : Hp
structure Gr (L : Addr → Prop) (S S' : Hs) : Prop where
  b : Same S.b S'.b
  h : ∀ a o, ¬ L a → S.h a = some o → S'.h a = some o
  own : ∀ a, S.b a = none → S.h a ≠ none → S'.b a = none
  dom : ∀ a, S.h a ≠ none → S'.h a ≠ none
abbrev L0 : Addr → Prop := fun _ => False
theorem Gr.refl (L : Addr → Prop) (S : Hs) : Gr L S S := ⟨Same.refl _, fun _ _ _ h => h, fun _ h _ => h, fun _ h => h⟩
theorem Gr.trans {L L' : Addr → Prop} {A B C : Hs} (x : Gr L A B) (y : Gr L' B C) (hl : ∀ a, L' a → L a ∨ A.h a = none) : Gr L A C :=
  ⟨x.b.trans y.b, fun a o n e => y.h a o (fun z => (hl a z).elim n fun q => by rw [q] at e; cases e) (x.h a o n e), fun a e n => y.own a (x.own a e n) (x.dom a n), fun a n => y.dom a (x.dom a n)⟩
theorem Gr.trans0 {L : Addr → Prop} {A B C : Hs} (x : Gr L A B) (y : Gr L0 B C) : Gr L A C := x.trans y fun _ z => z.elim
section
variable {K : PySem.W.Frag} {H H' : Hp}
mutual
/-- data as it stands in the heap: lists and tuples that are tracked -/
inductive Dq (H : Hp) : V → Dat → Prop
  | non : Dq H .non .none
  | bl (b : Bool) : Dq H (.bl b) (.bool b)
  | int (i : Int) : Dq H (.int i) (.int i)
  | str (x : Str) : Dq H (.str x) (.str x)
  | lst {a : Addr} {xs : List V} {ds : List Dat} : H a = some (.lst xs) → DqAll H xs ds → Dq H (.ref a) (.list ds)
  | tup {a : Addr} {o : Obj} {xs : List V} {ds : List Dat} : o.dict = none → H a = some (.frz o (.tup xs)) → DqAll H xs ds → Dq H (.ref a) (.tuple ds)
inductive DqAll (H : Hp) : List V → List Dat → Prop
  | nil : DqAll H [] []
  | cons {v : V} {vs : List V} {d : Dat} {ds : List Dat} : Dq H v d → DqAll H vs ds → DqAll H (v :: vs) (d :: ds)
end
mutual
theorem dp_mono (e : Same H H') : ∀ (d : Dat) (v : V), Dq H v d → Dq H' v d
  | .none, _, h => by cases h; exact .non
  | .bool b, _, h => by cases h; exact .bl b
  | .int i, _, h => by cases h; exact .int i
  | .str x, _, h => by cases h; exact .str x
  | .list ds, _, h => by
    cases h with
    | lst h1 h2 => exact .lst (e _ _ h1) (dpa_mono e ds _ h2)
  | .tuple ds, _, h => by
    cases h with
    | tup hd h1 h2 => exact .tup hd (e _ _ h1) (dpa_mono e ds _ h2)
  | .dict _, _, h => by cases h
theorem dpa_mono (e : Same H H') : ∀ (ds : List Dat) (vs : List V), DqAll H vs ds → DqAll H' vs ds
  | [], _, h => by cases h; exact .nil
  | d :: ds, _, h => by
    cases h with
    | cons h1 h2 => exact .cons (dp_mono e d _ h1) (dpa_mono e ds _ h2)
end
mutual
theorem dq_dp : ∀ (d : Dat) (v : V), Dq H v d → Dp K H v d
  | .none, _, h => by cases h; exact .non
  | .bool b, _, h => by cases h; exact .bl b
  | .int i, _, h => by cases h; exact .int i
  | .str x, _, h => by cases h; exact .str x
  | .list ds, _, h => by
    cases h with
    | lst h1 h2 => exact .lst (.inl (.inl h1)) (dqa_dpa ds _ h2)
  | .tuple ds, _, h => by
    cases h with
    | tup hd h1 h2 => exact .tup (.inl (.inr ⟨_, h1⟩)) (dqa_dpa ds _ h2)
  | .dict _, _, h => by cases h
theorem dqa_dpa : ∀ (ds : List Dat) (vs : List V), DqAll H vs ds → DpAll K H vs ds
  | [], _, h => by cases h; exact .nil
  | d :: ds, _, h => by
    cases h with
    | cons h1 h2 => exact .cons (dq_dp d _ h1) (dqa_dpa ds _ h2)
end
end
section
variable {K : PySem.W.Frag} {H H' : Hp}
theorem DqAll.len : ∀ {vs : List V} {ds : List Dat}, DqAll H vs ds → vs.length = ds.length
  | _, _, .nil => rfl
  | _, _, .cons _ h => by rw [List.length_cons, List.length_cons, DqAll.len h]
theorem DqAll.get : ∀ {vs : List V} {ds : List Dat} {i : Nat} {d : Dat}, DqAll H vs ds → ds[i]? = some d → ∃ v, vs[i]? = some v ∧ Dq H v d
  | _, _, _, _, .nil, h => by simp at h
  | _, _, 0, _, .cons h1 _, h => by cases h; exact ⟨_, rfl, h1⟩
  | _, _, i + 1, _, .cons _ h2, h => DqAll.get (i := i) h2 h
theorem DqAll.getV : ∀ {vs : List V} {ds : List Dat} {i : Nat} {v : V}, DqAll H vs ds → vs[i]? = some v → ∃ d, ds[i]? = some d ∧ Dq H v d
  | _, _, _, _, .nil, h => by simp at h
  | _, _, 0, _, .cons h1 _, h => by cases h; exact ⟨_, rfl, h1⟩
  | _, _, i + 1, _, .cons _ h2, h => DqAll.getV (i := i) h2 h
theorem DqAll.app : ∀ {vs ws : List V} {ds es : List Dat}, DqAll H vs ds → DqAll H ws es → DqAll H (vs ++ ws) (ds ++ es)
  | _, _, _, _, .nil, h => h
  | _, _, _, _, .cons h1 h2, h => .cons h1 (DqAll.app h2 h)
theorem DqAll.take : ∀ {vs : List V} {ds : List Dat} (n : Nat), DqAll H vs ds → DqAll H (vs.take n) (ds.take n)
  | _, _, 0, _ => .nil
  | _, _, _ + 1, .nil => .nil
  | _, _, n + 1, .cons h1 h2 => .cons h1 (DqAll.take n h2)
theorem DqAll.drop : ∀ {vs : List V} {ds : List Dat} (n : Nat), DqAll H vs ds → DqAll H (vs.drop n) (ds.drop n)
  | _, _, 0, h => h
  | _, _, _ + 1, .nil => .nil
  | _, _, n + 1, .cons _ h2 => DqAll.drop n h2
theorem DqAll.set {v : V} {d : Dat} (q : Dq H v d) : ∀ {vs : List V} {ds : List Dat} (n : Nat), DqAll H vs ds → DqAll H (vs.set n v) (ds.set n d)
  | _, _, _, .nil => .nil
  | _, _, 0, .cons _ h2 => .cons q h2
  | _, _, n + 1, .cons h1 h2 => .cons h1 (DqAll.set q n h2)
theorem DqAll.one {v : V} {d : Dat} (h : Dq H v d) : DqAll H [v] [d] := .cons h .nil
theorem DqAll.rev : ∀ {vs : List V} {ds : List Dat}, DqAll H vs ds → DqAll H vs.reverse ds.reverse
  | _, _, .nil => .nil
  | _, _, .cons h1 h2 => by rw [List.reverse_cons, List.reverse_cons]; exact (DqAll.rev h2).app (.one h1)
theorem DqAll.dropLast {vs : List V} {ds : List Dat} (h : DqAll H vs ds) : DqAll H vs.dropLast ds.dropLast := by
  rw [List.dropLast_eq_take, List.dropLast_eq_take, h.len]; exact h.take _
theorem DqAll.eraseIdx : ∀ {vs : List V} {ds : List Dat} (n : Nat), DqAll H vs ds → DqAll H (vs.eraseIdx n) (ds.eraseIdx n)
  | _, _, _, .nil => .nil
  | _, _, 0, .cons _ h2 => h2
  | _, _, n + 1, .cons h1 h2 => .cons h1 (DqAll.eraseIdx n h2)
end
section
variable {K : PySem.W.Frag} {H H' : Hp}
theorem dpa_ints : ∀ {ns : List Int} {vs : List V}, DqAll H vs (ns.map PyData.int) → vs = ns.map V.int
  | [], _, h => by cases h; rfl
  | n :: ns, _, h => by
    cases h with
    | cons h1 h2 => cases h1; rw [dpa_ints h2]; rfl
theorem dpa_of_ints : ∀ (ns : List Int), DqAll H (ns.map V.int) (ns.map PyData.int)
  | [] => .nil
  | n :: ns => .cons (.int n) (dpa_of_ints ns)
theorem dpa_bools : ∀ {ns : List Bool} {vs : List V}, DqAll H vs (ns.map PyData.bool) → vs = ns.map V.bl
  | [], _, h => by cases h; rfl
  | n :: ns, _, h => by
    cases h with
    | cons h1 h2 => cases h1; rw [dpa_bools h2]; rfl
/-- scalars -/
def vd : V → Dat
  | .bl b => .bool b
  | .int i => .int i
  | .str x => .str x
  | _ => .none
def sc : V → Bool
  | .non => true
  | .bl _ => true
  | .int _ => true
  | .str _ => true
  | _ => false
theorem dp_sc {v : V} (h : sc v = true) : Dq H v (vd v) := by
  cases v with
  | non => exact .non
  | bl b => exact .bl b
  | int i => exact .int i
  | str x => exact .str x
  | byt _ => cases h
  | flt _ => cases h
  | ref _ => cases h
  | ty _ => cases h
end
/-! ### a state bears the cells -/
section
variable (K : PySem.W.Frag) (L : Addr → Prop) (S0 : Hs)
abbrev Wh := Addr → Option (Sum Nat Nat)
structure Own (w : Wh) (k : Sum Nat Nat) (S : Hs) (a : Addr) (ds : List Dat) : Prop where
  nb : S.b a = none
  at_ : w a = some k
  is : ∃ vs, S.h a = some (.lst vs) ∧ DqAll S.b vs ds
structure OwnO (w : Wh) (k : Sum Nat Nat) (S : Hs) (a : Addr) (p : HO) : Prop where
  nb : S.b a = none
  at_ : w a = some k
  is : S.h a = some p
structure OwnL (w : Wh) (k : Sum Nat Nat) (S : Hs) (a : Addr) (R : Res) (N : Addr → Prop) : Prop where
  ex : ∃ F : Addr → Prop, R.holds S.b S.h a F ∧ ∀ x, F x → S.b x = none ∧ w x = some k ∧ N x
def SlotOk (w : Wh) (S : Hs) (i : Nat) (o : Option (Option V)) : Cell → Prop
  | .no => True
  | .dt d => ∃ v, o = some (some v) ∧ Dq S.b v d
  | .ow ds => ∃ a, o = some (some (.ref a)) ∧ Own w (.inl i) S a ds ∧ S0.h a = none
  | .ln ds => ∃ a, o = some (some (.ref a)) ∧ Own w (.inl i) S a ds ∧ L a
  | .sc ns => ∃ a, o = some (some (.ref a)) ∧ SqL K S.b a (ns.map V.int)
  | .ob p => ∃ a, o = some (some (.ref a)) ∧ OwnO w (.inl i) S a p ∧ S0.h a = none
  | .li R => ∃ a, o = some (some (.ref a)) ∧ OwnL w (.inl i) S a R (fun x => S0.h x = none ∨ (R.lent = true ∧ L x))
def TmpOk (w : Wh) (S : Hs) (σ : L2.St) (k : Nat) (v : V) : Tmp → Prop
  | .dt d => Dq S.b v d
  | .fr ds => ∃ a, v = .ref a ∧ Own w (.inr k) S a ds ∧ S0.h a = none
  | .br i => σ[i]? = some (some v)
  | .sc ns => ∃ a, v = .ref a ∧ SqL K S.b a (ns.map V.int)
  | .ob p => ∃ a, v = .ref a ∧ OwnO w (.inr k) S a p ∧ S0.h a = none
  | .li R => ∃ a, v = .ref a ∧ OwnL w (.inr k) S a R (fun x => S0.h x = none)
def TmpsOk (w : Wh) (S : Hs) (σ : L2.St) : List Tmp → List V → Prop
  | [], [] => True
  | t :: ts, v :: vs => TmpOk K S0 w S σ ts.length v t ∧ TmpsOk w S σ ts vs
  | _, _ => False
structure Env (Γ : List Cell) (Θ : List Tmp) (σ : L2.St) (τ : List V) (S : Hs) : Prop where
  gr : Gr L S0 S
  sub : Same S.b S.h
  len : σ.length = Γ.length
  ok : ∃ w : Wh, (∀ i c, Γ[i]? = some c → SlotOk K L S0 w S i σ[i]? c) ∧ TmpsOk K S0 w S σ Θ τ
end
section
variable {K : PySem.W.Frag} {L : Addr → Prop} {S0 S S' : Hs} {Γ : List Cell} {Θ : List Tmp} {σ : L2.St} {τ : List V} {w : Wh}
theorem Own.grow {k : Sum Nat Nat} {a : Addr} {ds : List Dat} (h : Own w k S a ds) (g : Gr L0 S S') : Own w k S' a ds := by
  obtain ⟨n, e, vs, q, p⟩ := h
  exact ⟨g.own a n (by rw [q]; exact fun z => nomatch z), e, vs, g.h a _ (fun z => z) q, dpa_mono g.b _ _ p⟩
theorem OwnO.grow {k : Sum Nat Nat} {a : Addr} {p : HO} (h : OwnO w k S a p) (g : Gr L0 S S') : OwnO w k S' a p := by
  obtain ⟨n, e, q⟩ := h
  exact ⟨g.own a n (by rw [q]; exact fun z => nomatch z), e, g.h a _ (fun z => z) q⟩
theorem OwnL.grow {k : Sum Nat Nat} {a : Addr} {R : Res} {N : Addr → Prop} (h : OwnL w k S a R N) (g : Gr L0 S S') : OwnL w k S' a R N := by
  obtain ⟨F, q, f⟩ := h
  refine ⟨F, R.frame q g.b fun x hx => ?_, fun x hx => ⟨g.own x (f x hx).1 (R.dom q hx), (f x hx).2⟩⟩
  cases e : S.h x with
  | none => exact absurd e (R.dom q hx)
  | some o => exact g.h x o (fun z => z) e
theorem OwnL.reK {k k' : Sum Nat Nat} {a : Addr} {R : Res} {N N' : Addr → Prop} {w' : Wh} (h : OwnL w k S a R N) (f : ∀ x, w x = some k → w' x = some k') (n : ∀ x, N x → N' x) : OwnL w' k' S a R N' := by
  obtain ⟨F, q, g⟩ := h
  exact ⟨F, q, fun x hx => ⟨(g x hx).1, f x (g x hx).2.1, n x (g x hx).2.2⟩⟩
theorem OwnL.reW {k k' : Sum Nat Nat} {a p : Addr} {R : Res} {N : Addr → Prop} (h : OwnL w k S a R N) (hp : S.h p = none) : OwnL (fun b => if b = p then some k' else w b) k S a R N := by
  obtain ⟨F, q, g⟩ := h
  exact ⟨F, q, fun x hx => ⟨(g x hx).1, by rw [if_neg (fun e => R.dom q hx (by rw [e]; exact hp))]; exact (g x hx).2.1, (g x hx).2.2⟩⟩
theorem TmpsOk.imp {w' : Wh} {σ' : L2.St} : ∀ {Θ : List Tmp} {τ : List V}, TmpsOk K S0 w S σ Θ τ → (∀ (k : Nat) v t, k < Θ.length → TmpOk K S0 w S σ k v t → TmpOk K S0 w' S' σ' k v t) → TmpsOk K S0 w' S' σ' Θ τ
  | [], [], _, _ => trivial
  | t :: ts, v :: vs, h, f => ⟨f _ _ _ (by simp) h.1, TmpsOk.imp h.2 fun k v t hk => f k v t (by simp; omega)⟩
  | [], _ :: _, h, _ => h.elim
  | _ :: _, [], h, _ => h.elim
theorem TmpsOk.imp' {w' : Wh} {σ' : L2.St} : ∀ {Θ : List Tmp} {τ : List V}, TmpsOk K S0 w S σ Θ τ → (∀ (k : Nat) v t, k < Θ.length → t ∈ Θ → TmpOk K S0 w S σ k v t → TmpOk K S0 w' S' σ' k v t) → TmpsOk K S0 w' S' σ' Θ τ
  | [], [], _, _ => trivial
  | t :: ts, v :: vs, h, f => ⟨f _ _ _ (by simp) (by simp) h.1, TmpsOk.imp' h.2 fun k v t hk hm => f k v t (by simp; omega) (List.mem_cons_of_mem _ hm)⟩
  | [], _ :: _, h, _ => h.elim
  | _ :: _, [], h, _ => h.elim
theorem SlotOk.grow {i : Nat} {o : Option (Option V)} {c : Cell} (h : SlotOk K L S0 w S i o c) (g : Gr L0 S S') : SlotOk K L S0 w S' i o c := by
  cases c with
  | no => trivial
  | dt d => obtain ⟨v, e, q⟩ := h; exact ⟨v, e, dp_mono g.b _ _ q⟩
  | ow ds => obtain ⟨a, e, q, n⟩ := h; exact ⟨a, e, q.grow g, n⟩
  | ln ds => obtain ⟨a, e, q, n⟩ := h; exact ⟨a, e, q.grow g, n⟩
  | sc ns => obtain ⟨a, e, q⟩ := h; exact ⟨a, e, g.b.seq q⟩
  | ob pp => obtain ⟨a, e, q, n⟩ := h; exact ⟨a, e, q.grow g, n⟩
  | li R => obtain ⟨a, e, q⟩ := h; exact ⟨a, e, q.grow g⟩
theorem TmpOk.grow {k : Nat} {v : V} {t : Tmp} (h : TmpOk K S0 w S σ k v t) (g : Gr L0 S S') : TmpOk K S0 w S' σ k v t := by
  cases t with
  | dt d => exact dp_mono g.b _ _ h
  | fr ds => obtain ⟨a, e, q, n⟩ := h; exact ⟨a, e, q.grow g, n⟩
  | br i => exact h
  | sc ns => obtain ⟨a, e, q⟩ := h; exact ⟨a, e, g.b.seq q⟩
  | ob pp => obtain ⟨a, e, q, n⟩ := h; exact ⟨a, e, q.grow g, n⟩
  | li R => obtain ⟨a, e, q⟩ := h; exact ⟨a, e, q.grow g⟩
/-- the heap grows -/
theorem Env.grow (E : Env K L S0 Γ Θ σ τ S) (g : Gr L0 S S') (sub : Same S'.b S'.h) : Env K L S0 Γ Θ σ τ S' := by
  obtain ⟨w, h1, h2⟩ := E.ok
  exact ⟨E.gr.trans0 g, sub, E.len, w, fun i c e => (h1 i c e).grow g, h2.imp fun _ _ _ _ q => q.grow g⟩
theorem Env.pop {t : Tmp} {v : V} (E : Env K L S0 Γ (t :: Θ) σ (v :: τ) S) : Env K L S0 Γ Θ σ τ S := by
  obtain ⟨w, h1, h2⟩ := E.ok
  exact ⟨E.gr, E.sub, E.len, w, h1, h2.2⟩
theorem Env.top {t : Tmp} {v : V} (E : Env K L S0 Γ (t :: Θ) σ (v :: τ) S) : ∃ w, TmpOk K S0 w S σ Θ.length v t := let ⟨w, _, h2⟩ := E.ok; ⟨w, h2.1⟩
theorem Env.push {d : Dat} {v : V} (E : Env K L S0 Γ Θ σ τ S) (h : Dq S.b v d) : Env K L S0 Γ (.dt d :: Θ) σ (v :: τ) S := by
  obtain ⟨w, h1, h2⟩ := E.ok
  exact ⟨E.gr, E.sub, E.len, w, h1, h, h2⟩
theorem Env.pushBr {i : Nat} {v : V} (E : Env K L S0 Γ Θ σ τ S) (h : σ[i]? = some (some v)) : Env K L S0 Γ (.br i :: Θ) σ (v :: τ) S := by
  obtain ⟨w, h1, h2⟩ := E.ok
  exact ⟨E.gr, E.sub, E.len, w, h1, h, h2⟩
theorem gr_new {p : Addr} {o : HO} (h : S.h p = none) (sub : Same S.b S.h) : Gr L0 S ⟨S.b, upd S.h p o⟩ :=
  ⟨Same.refl _, fun a o' _ e => by show upd S.h p o a = some o'; rw [upd_ne (ne_of_none e h)]; exact e, fun _ e _ => e, fun a n => by
    show upd S.h p o a ≠ none
    by_cases e : a = p
    · rw [e, upd_same]; exact fun z => nomatch z
    · rw [upd_ne e]; exact n⟩
theorem sub_new {p : Addr} {o : HO} (h : S.h p = none) (sub : Same S.b S.h) : Same S.b (upd S.h p o) := fun a o' e => by
  rw [upd_ne (ne_of_none (sub a o' e) h)]; exact sub a o' e
theorem gr_newB {p : Addr} {o : HO} (h : S.h p = none) (sub : Same S.b S.h) : Gr L0 S ⟨upd S.b p o, upd S.h p o⟩ := by
  have nb : S.b p = none := by
    cases q : S.b p with
    | none => rfl
    | some u => rw [sub p u q] at h; cases h
  refine ⟨fun a o' e => ?_, (gr_new h sub).h, fun a e n => ?_, (gr_new h sub).dom⟩
  · show upd S.b p o a = some o'
    rw [upd_ne (ne_of_none e nb)]; exact e
  · show upd S.b p o a = none
    rw [upd_ne (fun z => n (by rw [z]; exact h))]; exact e
theorem sub_newB {p : Addr} {o : HO} (h : S.h p = none) (sub : Same S.b S.h) : Same (upd S.b p o) (upd S.h p o) := fun a o' e => by
  by_cases q : a = p
  · rw [q, upd_same] at e; rw [q, upd_same]; exact e
  · rw [upd_ne q] at e; rw [upd_ne q]; exact sub a o' e
/-- a new object that never changes -/
theorem Env.newB {p : Addr} {o : HO} (E : Env K L S0 Γ Θ σ τ S) (h : S.h p = none) : Env K L S0 Γ Θ σ τ ⟨upd S.b p o, upd S.h p o⟩ := E.grow (gr_newB h E.sub) (sub_newB h E.sub)
theorem Env.fresh {p : Addr} (E : Env K L S0 Γ Θ σ τ S) (h : S.h p = none) : S.b p = none := by
  cases q : S.b p with
  | none => rfl
  | some u => rw [E.sub p u q] at h; cases h
theorem Env.fresh0 {p : Addr} (E : Env K L S0 Γ Θ σ τ S) (h : S.h p = none) : S0.h p = none := by
  cases q : S0.h p with
  | none => rfl
  | some u => exact absurd h (E.gr.dom p (by rw [q]; exact fun z => nomatch z))
theorem Own.lt {k : Sum Nat Nat} {a p : Addr} {ds : List Dat} (h : Own w k S a ds) (hp : S.h p = none) : a ≠ p := by
  obtain ⟨_, _, vs, q, _⟩ := h
  exact ne_of_none q hp
theorem OwnO.lt {k : Sum Nat Nat} {a p : Addr} {o : HO} (h : OwnO w k S a o) (hp : S.h p = none) : a ≠ p := ne_of_none h.is hp
theorem OwnO.reW {k k' : Sum Nat Nat} {a p : Addr} {o : HO} (h : OwnO w k S a o) (hp : a ≠ p) : OwnO (fun b => if b = p then some k' else w b) k S a o :=
  ⟨h.nb, by show (if a = p then some k' else w a) = some k; rw [if_neg hp]; exact h.at_, h.is⟩
/-- a new tuple of data -/
theorem Env.newTup {p : Addr} {o : Obj} {vs : List V} {ds : List Dat} (E : Env K L S0 Γ Θ σ τ S) (hd : o.dict = none) (h : S.h p = none) (q : DqAll S.b vs ds) : Env K L S0 Γ (.dt (.tuple ds) :: Θ) σ (.ref p :: τ) ⟨upd S.b p (.frz o (.tup vs)), upd S.h p (.frz o (.tup vs))⟩ :=
  (E.newB h).push (.tup hd upd_same (dpa_mono (gr_newB h E.sub).b _ _ q))
theorem sqt_f {K : PySem.W.Frag} {H : Hp} {a : Addr} {o : Obj} {xs : List V} (h : H a = some (.frz o (.tup xs))) : SqT K H a xs := .inl (.inr ⟨o, h⟩)
/-- where an address is owned, by a word w that is changed at a fresh place -/
theorem Own.reW {k k' : Sum Nat Nat} {a p : Addr} {ds : List Dat} (h : Own w k S a ds) (hp : a ≠ p) : Own (fun b => if b = p then some k' else w b) k S a ds :=
  ⟨h.nb, by show (if a = p then some k' else w a) = some k; rw [if_neg hp]; exact h.at_, h.is⟩
theorem SlotOk.reW {k' : Sum Nat Nat} {p : Addr} {i : Nat} {o : Option (Option V)} {c : Cell} (h : SlotOk K L S0 w S i o c) (hp : S.h p = none) : SlotOk K L S0 (fun b => if b = p then some k' else w b) S i o c := by
  cases c with
  | no => trivial
  | dt d => exact h
  | ow ds => obtain ⟨a, e, q, n⟩ := h; exact ⟨a, e, q.reW (q.lt hp), n⟩
  | ln ds => obtain ⟨a, e, q, n⟩ := h; exact ⟨a, e, q.reW (q.lt hp), n⟩
  | sc ns => exact h
  | ob pp => obtain ⟨a, e, q, n⟩ := h; exact ⟨a, e, q.reW (q.lt hp), n⟩
  | li R => obtain ⟨a, e, q⟩ := h; exact ⟨a, e, q.reW hp⟩
theorem TmpOk.reW {k' : Sum Nat Nat} {p : Addr} {k : Nat} {v : V} {t : Tmp} (h : TmpOk K S0 w S σ k v t) (hp : S.h p = none) : TmpOk K S0 (fun b => if b = p then some k' else w b) S σ k v t := by
  cases t with
  | dt d => exact h
  | fr ds => obtain ⟨a, e, q, n⟩ := h; exact ⟨a, e, q.reW (q.lt hp), n⟩
  | br i => exact h
  | sc ns => exact h
  | ob pp => obtain ⟨a, e, q, n⟩ := h; exact ⟨a, e, q.reW (q.lt hp), n⟩
  | li R => obtain ⟨a, e, q⟩ := h; exact ⟨a, e, q.reW hp⟩
/-- a new list of one's own -/
theorem Env.newLst {p : Addr} {vs : List V} {ds : List Dat} (E : Env K L S0 Γ Θ σ τ S) (h : S.h p = none) (q : DqAll S.b vs ds) : Env K L S0 Γ (.fr ds :: Θ) σ (.ref p :: τ) ⟨S.b, upd S.h p (.lst vs)⟩ := by
  have g := gr_new (o := .lst vs) h E.sub
  have nb := E.fresh h
  have n0 := E.fresh0 h
  obtain ⟨w, h1, h2⟩ := E.ok
  refine ⟨E.gr.trans0 g, sub_new h E.sub, E.len, fun b => if b = p then some (.inr Θ.length) else w b, fun i c e => ((h1 i c e).reW h).grow g, ⟨p, rfl, ⟨nb, if_pos rfl, vs, upd_same, q⟩, n0⟩, h2.imp fun _ _ _ _ z => (z.reW h).grow g⟩
/-- a new object of one's own -/
theorem Env.newOb {p : Addr} {o : HO} (E : Env K L S0 Γ Θ σ τ S) (h : S.h p = none) : Env K L S0 Γ (.ob o :: Θ) σ (.ref p :: τ) ⟨S.b, upd S.h p o⟩ := by
  have g := gr_new (o := o) h E.sub
  have nb := E.fresh h
  have n0 := E.fresh0 h
  obtain ⟨w, h1, h2⟩ := E.ok
  refine ⟨E.gr.trans0 g, sub_new h E.sub, E.len, fun b => if b = p then some (.inr Θ.length) else w b, fun i c e => ((h1 i c e).reW h).grow g, ⟨p, rfl, ⟨nb, if_pos rfl, upd_same⟩, n0⟩, h2.imp fun _ _ _ _ z => (z.reW h).grow g⟩
/-- names are forgotten -/
theorem Env.forget {Γ' : List Cell} (E : Env K L S0 Γ Θ σ τ S) (hl : Γ'.length = Γ.length) (h : ∀ (i : Nat) (c : Cell), Γ'[i]? = some c → c = Cell.no ∨ Γ[i]? = some c) : Env K L S0 Γ' Θ σ τ S := by
  obtain ⟨w, h1, h2⟩ := E.ok
  refine ⟨E.gr, E.sub, E.len.trans hl.symm, w, fun i c e => ?_, h2⟩
  rcases h i c e with rfl | q
  · trivial
  · exact h1 i c q
/-- a slot is stored: data -/
theorem Env.setDt {d : Dat} {v : V} {i : Nat} (E : Env K L S0 Γ Θ σ τ S) (hb : ∀ t ∈ Θ, t ≠ .br i) (h : Dq S.b v d) : Env K L S0 (Γ.set i (.dt d)) Θ (σ.set i (some v)) τ S := by
  obtain ⟨w, h1, h2⟩ := E.ok
  refine ⟨E.gr, E.sub, by rw [List.length_set, List.length_set]; exact E.len, w, fun j c e => ?_, h2.imp' fun k u t hk hm q => ?_⟩
  · by_cases q : i = j
    · subst q
      have hi : i < Γ.length := by
        have := (List.getElem?_eq_some_iff.mp e).1
        rw [List.length_set] at this; exact this
      rw [List.getElem?_set_self hi] at e
      cases e
      exact ⟨v, List.getElem?_set_self (by rw [E.len]; exact hi), h⟩
    · rw [List.getElem?_set_ne q] at e
      rw [List.getElem?_set_ne q]
      exact h1 j c e
  · cases t with
    | dt d => exact q
    | fr ds => exact q
    | sc ns => exact q
    | ob pp => exact q
    | li R => exact q
    | br j =>
      show (σ.set i (some v))[j]? = some (some u)
      have q' : σ[j]? = some (some u) := q
      have hij : i ≠ j := fun z => hb _ hm (by rw [z])
      rw [List.getElem?_set_ne hij]; exact q'
end
end Ld
set_option Elab.async false
set_option linter.all false
set_option maxRecDepth 100000
namespace Ld
open PySem PySem.Spec PyProof.Rows L2 Lx
/-! ### lists of one's own: frozen, stored, changed -/
def Cell.ls : Cell → Option (List Dat)
  | .ow ds => some ds
  | .ln ds => some ds
  | _ => none
def Cell.put : Cell → List Dat → Cell
  | .ow _, ds => .ow ds
  | .ln _, ds => .ln ds
  | c, _ => c
section
variable {K : PySem.W.Frag} {L : Addr → Prop} {S0 S S' : Hs} {Γ : List Cell} {Θ : List Tmp} {σ : L2.St} {τ : List V} {w : Wh}
theorem Own.apart {k k' : Sum Nat Nat} {a a' : Addr} {ds ds' : List Dat} (h : Own w k S a ds) (h' : Own w k' S a' ds') (n : k ≠ k') : a ≠ a' := fun e => n (by
  have e1 := h.at_
  have e2 := h'.at_
  rw [e, e2] at e1
  exact (Option.some.inj e1).symm)
theorem Own.apartO {k k' : Sum Nat Nat} {a a' : Addr} {ds : List Dat} {p : HO} (h : Own w k S a ds) (h' : OwnO w k' S a' p) (n : k ≠ k') : a ≠ a' := fun e => n (by
  have e1 := h.at_
  have e2 := h'.at_
  rw [e, e2] at e1
  exact (Option.some.inj e1).symm)
theorem OwnO.apart {k k' : Sum Nat Nat} {a a' : Addr} {p q : HO} (h : OwnO w k S a p) (h' : OwnO w k' S a' q) (n : k ≠ k') : a ≠ a' := fun e => n (by
  have e1 := h.at_
  have e2 := h'.at_
  rw [e, e2] at e1
  exact (Option.some.inj e1).symm)
theorem Own.frzO {k k' : Sum Nat Nat} {a a' : Addr} {ds : List Dat} {p : HO} {vs : List V} (h : Own w k S a ds) (h' : OwnO w k' S a' p) (n : k' ≠ k) : OwnO w k' ⟨upd S.b a (.lst vs), S.h⟩ a' p := by
  have ne : a' ≠ a := (h.apartO h' n.symm).symm
  obtain ⟨nb, e, q⟩ := h'
  exact ⟨by show upd S.b a (.lst vs) a' = none; rw [upd_ne ne]; exact nb, e, q⟩
theorem Own.mutO {k k' : Sum Nat Nat} {a a' : Addr} {ds : List Dat} {p o : HO} (h : Own w k S a ds) (h' : OwnO w k' S a' p) (n : k' ≠ k) : OwnO w k' ⟨S.b, upd S.h a o⟩ a' p := by
  have ne : a' ≠ a := (h.apartO h' n.symm).symm
  obtain ⟨nb, e, q⟩ := h'
  exact ⟨nb, e, by show upd S.h a o a' = _; rw [upd_ne ne]; exact q⟩
theorem Own.frzL {k k' : Sum Nat Nat} {a a' : Addr} {ds : List Dat} {R : Res} {N : Addr → Prop} {vs : List V} (h : Own w k S a ds) (h' : OwnL w k' S a' R N) (n : k' ≠ k) : OwnL w k' ⟨upd S.b a (.lst vs), S.h⟩ a' R N := by
  obtain ⟨F, q, f⟩ := h'
  have ne : ∀ x, F x → x ≠ a := fun x hx e => n (by
    have e1 := h.at_
    rw [← e, (f x hx).2.1] at e1
    exact Option.some.inj e1)
  refine ⟨F, R.frame q (fun c o z => ?_) fun x hx => rfl, fun x hx => ⟨?_, (f x hx).2⟩⟩
  · show upd S.b a (.lst vs) c = some o
    rw [upd_ne (ne_of_none z h.nb)]; exact z
  · show upd S.b a (.lst vs) x = none
    rw [upd_ne (ne x hx)]; exact (f x hx).1
theorem OwnL.mutE {k k' : Sum Nat Nat} {a a' : Addr} {R : Res} {N : Addr → Prop} {o : HO} (ha : w a = some k) (h' : OwnL w k' S a' R N) (n : k' ≠ k) : OwnL w k' ⟨S.b, upd S.h a o⟩ a' R N := by
  obtain ⟨F, q, f⟩ := h'
  refine ⟨F, R.frame q (Same.refl _) fun x hx => ?_, f⟩
  have ne : x ≠ a := fun e => n (by
    rw [← e, (f x hx).2.1] at ha
    exact Option.some.inj ha)
  exact upd_ne ne
theorem Own.mutL {k k' : Sum Nat Nat} {a a' : Addr} {ds : List Dat} {R : Res} {N : Addr → Prop} {o : HO} (h : Own w k S a ds) (h' : OwnL w k' S a' R N) (n : k' ≠ k) : OwnL w k' ⟨S.b, upd S.h a o⟩ a' R N := h'.mutE h.at_ n
theorem OwnO.mutL {k k' : Sum Nat Nat} {a a' : Addr} {p o : HO} {R : Res} {N : Addr → Prop} (h : OwnO w k S a p) (h' : OwnL w k' S a' R N) (n : k' ≠ k) : OwnL w k' ⟨S.b, upd S.h a o⟩ a' R N := h'.mutE h.at_ n
/-- b holds one more list -/
theorem Own.frz {k k' : Sum Nat Nat} {a a' : Addr} {ds ds' : List Dat} {vs : List V} (h : Own w k S a ds) (h' : Own w k' S a' ds') (n : k' ≠ k) : Own w k' ⟨upd S.b a (.lst vs), S.h⟩ a' ds' := by
  have ne : a' ≠ a := h'.apart h n
  obtain ⟨nb, e, us, q, p⟩ := h'
  refine ⟨by show upd S.b a (.lst vs) a' = none; rw [upd_ne ne]; exact nb, e, us, q, dpa_mono (fun c o z => ?_) _ _ p⟩
  show upd S.b a (.lst vs) c = some o
  rw [upd_ne (ne_of_none z h.nb)]; exact z
theorem frz_b {k : Sum Nat Nat} {a : Addr} {ds : List Dat} {vs : List V} (h : Own w k S a ds) : Same S.b (upd S.b a (.lst vs)) := fun c o z => by
  rw [upd_ne (ne_of_none z h.nb)]; exact z
theorem gr_frz {k : Sum Nat Nat} {a : Addr} {ds : List Dat} {vs : List V} (g : Gr L S0 S) (h : Own w k S a ds) (n0 : S0.h a = none) : Gr L S0 ⟨upd S.b a (.lst vs), S.h⟩ :=
  ⟨g.b.trans (frz_b h), g.h, fun c e n => by
    show upd S.b a (.lst vs) c = none
    rw [upd_ne (fun z => n (by rw [z]; exact n0))]
    exact g.own c e n, g.dom⟩
theorem sub_frz {a : Addr} {vs : List V} (s : Same S.b S.h) (h : S.h a = some (.lst vs)) : Same (upd S.b a (.lst vs)) S.h := fun c o e => by
  by_cases q : c = a
  · rw [q, upd_same] at e; rw [q, h]; exact e
  · rw [upd_ne q] at e; exact s c o e
/-- the list under way is now data -/
theorem Env.frzTop {ds : List Dat} {v : V} (E : Env K L S0 Γ (.fr ds :: Θ) σ (v :: τ) S) : ∃ S', S'.h = S.h ∧ Env K L S0 Γ (.dt (.list ds) :: Θ) σ (v :: τ) S' := by
  obtain ⟨w, h1, ⟨a, rfl, o, n0⟩, h2⟩ := E.ok
  obtain ⟨nb, ea, vs, q, p⟩ := id o
  refine ⟨⟨upd S.b a (.lst vs), S.h⟩, rfl, gr_frz E.gr o n0, sub_frz E.sub q, E.len, w, fun i c e => ?_, .lst upd_same (dpa_mono (frz_b o) _ _ p), h2.imp fun k u t hk z => ?_⟩
  · have z := h1 i c e
    cases c with
    | no => trivial
    | dt d => obtain ⟨v, e, r⟩ := z; exact ⟨v, e, dp_mono (frz_b o) _ _ r⟩
    | ow es => obtain ⟨b, e, r, n⟩ := z; exact ⟨b, e, o.frz r (fun z => nomatch z), n⟩
    | ln es => obtain ⟨b, e, r, n⟩ := z; exact ⟨b, e, o.frz r (fun z => nomatch z), n⟩
    | sc ns => obtain ⟨b, e, r⟩ := z; exact ⟨b, e, (frz_b o).seq r⟩
    | ob pp => obtain ⟨b, e, r, n⟩ := z; exact ⟨b, e, o.frzO r (fun z => nomatch z), n⟩
    | li R => obtain ⟨b, e, r⟩ := z; exact ⟨b, e, o.frzL r (fun z => nomatch z)⟩
  · cases t with
    | dt d => exact dp_mono (frz_b o) _ _ z
    | fr es => obtain ⟨b, e, r, n⟩ := z; exact ⟨b, e, o.frz r (fun z => absurd (Sum.inr.inj z) (Nat.ne_of_lt hk)), n⟩
    | br j => exact z
    | sc ns => obtain ⟨b, e, r⟩ := z; exact ⟨b, e, (frz_b o).seq r⟩
    | ob pp => obtain ⟨b, e, r, n⟩ := z; exact ⟨b, e, o.frzO r (fun z => absurd (Sum.inr.inj z) (Nat.ne_of_lt hk)), n⟩
    | li R => obtain ⟨b, e, r⟩ := z; exact ⟨b, e, o.frzL r (fun z => absurd (Sum.inr.inj z) (Nat.ne_of_lt hk))⟩
/-- .. the list in slot i -/
theorem Env.frzSlot {ds : List Dat} {i : Nat} (E : Env K L S0 Γ Θ σ τ S) (hi : Γ[i]? = some (.ow ds)) : ∃ S', S'.h = S.h ∧ Env K L S0 (Γ.set i (.dt (.list ds))) Θ σ τ S' := by
  obtain ⟨w, h1, h2⟩ := E.ok
  obtain ⟨a, ei, o, n0⟩ := h1 i _ hi
  obtain ⟨nb, ea, vs, q, p⟩ := id o
  refine ⟨⟨upd S.b a (.lst vs), S.h⟩, rfl, gr_frz E.gr o n0, sub_frz E.sub q, by rw [List.length_set]; exact E.len, w, fun j c e => ?_, h2.imp fun k u t hk z => ?_⟩
  · by_cases hj : i = j
    · subst hj
      rw [List.getElem?_set_self (List.getElem?_eq_some_iff.mp hi).1] at e
      cases e
      exact ⟨_, ei, .lst upd_same (dpa_mono (frz_b o) _ _ p)⟩
    · rw [List.getElem?_set_ne hj] at e
      have z := h1 j c e
      cases c with
      | no => trivial
      | dt d => obtain ⟨v, e, r⟩ := z; exact ⟨v, e, dp_mono (frz_b o) _ _ r⟩
      | ow es => obtain ⟨b, e, r, n⟩ := z; exact ⟨b, e, o.frz r (fun z => hj (Sum.inl.inj z).symm), n⟩
      | ln es => obtain ⟨b, e, r, n⟩ := z; exact ⟨b, e, o.frz r (fun z => hj (Sum.inl.inj z).symm), n⟩
      | sc ns => obtain ⟨b, e, r⟩ := z; exact ⟨b, e, (frz_b o).seq r⟩
      | ob pp => obtain ⟨b, e, r, n⟩ := z; exact ⟨b, e, o.frzO r (fun z => hj (Sum.inl.inj z).symm), n⟩
      | li R => obtain ⟨b, e, r⟩ := z; exact ⟨b, e, o.frzL r (fun z => hj (Sum.inl.inj z).symm)⟩
  · cases t with
    | dt d => exact dp_mono (frz_b o) _ _ z
    | fr es => obtain ⟨b, e, r, n⟩ := z; exact ⟨b, e, o.frz r (fun z => nomatch z), n⟩
    | br j => exact z
    | sc ns => obtain ⟨b, e, r⟩ := z; exact ⟨b, e, (frz_b o).seq r⟩
    | ob pp => obtain ⟨b, e, r, n⟩ := z; exact ⟨b, e, o.frzO r (fun z => nomatch z), n⟩
    | li R => obtain ⟨b, e, r⟩ := z; exact ⟨b, e, o.frzL r (fun z => nomatch z)⟩
/-- a slot is stored: a new list -/
theorem Env.setFr {ds : List Dat} {v : V} {i : Nat} (E : Env K L S0 Γ (.fr ds :: Θ) σ (v :: τ) S) (hb : ∀ t ∈ Θ, t ≠ .br i) : Env K L S0 (Γ.set i (.ow ds)) Θ (σ.set i (some v)) τ S := by
  obtain ⟨w, h1, ⟨a, rfl, o, n0⟩, h2⟩ := E.ok
  have re : ∀ {k : Sum Nat Nat} {b : Addr} {es : List Dat}, Own w k S b es → k ≠ .inr Θ.length → Own (fun c => if c = a then some (.inl i) else w c) k S b es := fun {k b es} r n =>
    ⟨r.nb, by show (if b = a then some (Sum.inl i) else w b) = some k; rw [if_neg (r.apart o n)]; exact r.at_, r.is⟩
  have reO : ∀ {k : Sum Nat Nat} {b : Addr} {es : HO}, OwnO w k S b es → k ≠ .inr Θ.length → OwnO (fun c => if c = a then some (.inl i) else w c) k S b es := fun {k b es} r n =>
    ⟨r.nb, by show (if b = a then some (Sum.inl i) else w b) = some k; rw [if_neg (o.apartO r n.symm).symm]; exact r.at_, r.is⟩
  have reL : ∀ {k : Sum Nat Nat} {b : Addr} {R : Res} {N : Addr → Prop}, OwnL w k S b R N → k ≠ .inr Θ.length → OwnL (fun c => if c = a then some (.inl i) else w c) k S b R N := fun {k b R N} r n =>
    r.reK (fun x hx => by show (if x = a then some (Sum.inl i) else w x) = some k; rw [if_neg (fun e => n (by rw [e, o.at_] at hx; exact (Option.some.inj hx).symm))]; exact hx) fun _ h => h
  refine ⟨E.gr, E.sub, by rw [List.length_set, List.length_set]; exact E.len, fun c => if c = a then some (.inl i) else w c, fun j c e => ?_, h2.imp' fun k u t hk hm z => ?_⟩
  · by_cases hj : i = j
    · subst hj
      have hi : i < Γ.length := by
        have := (List.getElem?_eq_some_iff.mp e).1
        rw [List.length_set] at this; exact this
      rw [List.getElem?_set_self hi] at e
      cases e
      exact ⟨a, List.getElem?_set_self (by rw [E.len]; exact hi), ⟨o.nb, if_pos rfl, o.is⟩, n0⟩
    · rw [List.getElem?_set_ne hj] at e
      rw [List.getElem?_set_ne hj]
      have z := h1 j c e
      cases c with
      | no => trivial
      | dt d => exact z
      | ow es => obtain ⟨b, e, r, n⟩ := z; exact ⟨b, e, re r (fun z => nomatch z), n⟩
      | ln es => obtain ⟨b, e, r, n⟩ := z; exact ⟨b, e, re r (fun z => nomatch z), n⟩
      | sc ns => exact z
      | ob pp => obtain ⟨b, e, r, n⟩ := z; exact ⟨b, e, reO r (fun z => nomatch z), n⟩
      | li R => obtain ⟨b, e, r⟩ := z; exact ⟨b, e, reL r (fun z => nomatch z)⟩
  · cases t with
    | dt d => exact z
    | fr es => obtain ⟨b, e, r, n⟩ := z; exact ⟨b, e, re r (fun z => absurd (Sum.inr.inj z) (Nat.ne_of_lt hk)), n⟩
    | sc ns => exact z
    | ob pp => obtain ⟨b, e, r, n⟩ := z; exact ⟨b, e, reO r (fun z => absurd (Sum.inr.inj z) (Nat.ne_of_lt hk)), n⟩
    | li R => obtain ⟨b, e, r⟩ := z; exact ⟨b, e, reL r (fun z => absurd (Sum.inr.inj z) (Nat.ne_of_lt hk))⟩
    | br j =>
      show (σ.set i (some (V.ref a)))[j]? = some (some u)
      have hij : i ≠ j := fun z => hb _ hm (by rw [z])
      rw [List.getElem?_set_ne hij]; exact z
/-- .. a new object -/
theorem Env.setOb {ds : HO} {v : V} {i : Nat} (E : Env K L S0 Γ (.ob ds :: Θ) σ (v :: τ) S) (hb : ∀ t ∈ Θ, t ≠ .br i) : Env K L S0 (Γ.set i (.ob ds)) Θ (σ.set i (some v)) τ S := by
  obtain ⟨w, h1, ⟨a, rfl, o, n0⟩, h2⟩ := E.ok
  have re : ∀ {k : Sum Nat Nat} {b : Addr} {es : List Dat}, Own w k S b es → k ≠ .inr Θ.length → Own (fun c => if c = a then some (.inl i) else w c) k S b es := fun {k b es} r n =>
    ⟨r.nb, by show (if b = a then some (Sum.inl i) else w b) = some k; rw [if_neg (r.apartO o n)]; exact r.at_, r.is⟩
  have reO : ∀ {k : Sum Nat Nat} {b : Addr} {es : HO}, OwnO w k S b es → k ≠ .inr Θ.length → OwnO (fun c => if c = a then some (.inl i) else w c) k S b es := fun {k b es} r n =>
    ⟨r.nb, by show (if b = a then some (Sum.inl i) else w b) = some k; rw [if_neg (r.apart o n)]; exact r.at_, r.is⟩
  have reL : ∀ {k : Sum Nat Nat} {b : Addr} {R : Res} {N : Addr → Prop}, OwnL w k S b R N → k ≠ .inr Θ.length → OwnL (fun c => if c = a then some (.inl i) else w c) k S b R N := fun {k b R N} r n =>
    r.reK (fun x hx => by show (if x = a then some (Sum.inl i) else w x) = some k; rw [if_neg (fun e => n (by rw [e, o.at_] at hx; exact (Option.some.inj hx).symm))]; exact hx) fun _ h => h
  refine ⟨E.gr, E.sub, by rw [List.length_set, List.length_set]; exact E.len, fun c => if c = a then some (.inl i) else w c, fun j c e => ?_, h2.imp' fun k u t hk hm z => ?_⟩
  · by_cases hj : i = j
    · subst hj
      have hi : i < Γ.length := by
        have := (List.getElem?_eq_some_iff.mp e).1
        rw [List.length_set] at this; exact this
      rw [List.getElem?_set_self hi] at e
      cases e
      exact ⟨a, List.getElem?_set_self (by rw [E.len]; exact hi), ⟨o.nb, if_pos rfl, o.is⟩, n0⟩
    · rw [List.getElem?_set_ne hj] at e
      rw [List.getElem?_set_ne hj]
      have z := h1 j c e
      cases c with
      | no => trivial
      | dt d => exact z
      | ow es => obtain ⟨b, e, r, n⟩ := z; exact ⟨b, e, re r (fun z => nomatch z), n⟩
      | ln es => obtain ⟨b, e, r, n⟩ := z; exact ⟨b, e, re r (fun z => nomatch z), n⟩
      | sc ns => exact z
      | ob pp => obtain ⟨b, e, r, n⟩ := z; exact ⟨b, e, reO r (fun z => nomatch z), n⟩
      | li R => obtain ⟨b, e, r⟩ := z; exact ⟨b, e, reL r (fun z => nomatch z)⟩
  · cases t with
    | dt d => exact z
    | fr es => obtain ⟨b, e, r, n⟩ := z; exact ⟨b, e, re r (fun z => absurd (Sum.inr.inj z) (Nat.ne_of_lt hk)), n⟩
    | sc ns => exact z
    | ob pp => obtain ⟨b, e, r, n⟩ := z; exact ⟨b, e, reO r (fun z => absurd (Sum.inr.inj z) (Nat.ne_of_lt hk)), n⟩
    | li R => obtain ⟨b, e, r⟩ := z; exact ⟨b, e, reL r (fun z => absurd (Sum.inr.inj z) (Nat.ne_of_lt hk))⟩
    | br j =>
      show (σ.set i (some (V.ref a)))[j]? = some (some u)
      have hij : i ≠ j := fun z => hb _ hm (by rw [z])
      rw [List.getElem?_set_ne hij]; exact z
/-- .. a new resource -/
theorem Env.setLi {R : Res} {v : V} {i : Nat} (E : Env K L S0 Γ (.li R :: Θ) σ (v :: τ) S) (hb : ∀ t ∈ Θ, t ≠ .br i) : Env K L S0 (Γ.set i (.li R)) Θ (σ.set i (some v)) τ S := by
  classical
  obtain ⟨w, h1, ⟨a, rfl, o⟩, h2⟩ := E.ok
  let w' : Wh := fun c => if w c = some (.inr Θ.length) then some (.inl i) else w c
  have re : ∀ {k : Sum Nat Nat} {x : Addr}, w x = some k → k ≠ .inr Θ.length → w' x = some k := fun {k x} e n => by
    show (if w x = some (.inr Θ.length) then some (.inl i) else w x) = some k
    rw [if_neg (fun z => n (by rw [e] at z; exact Option.some.inj z))]; exact e
  refine ⟨E.gr, E.sub, by rw [List.length_set, List.length_set]; exact E.len, w', fun j c e => ?_, h2.imp' fun k u t hk hm z => ?_⟩
  · by_cases hj : i = j
    · subst hj
      have hi : i < Γ.length := by
        have := (List.getElem?_eq_some_iff.mp e).1
        rw [List.length_set] at this; exact this
      rw [List.getElem?_set_self hi] at e
      cases e
      exact ⟨a, List.getElem?_set_self (by rw [E.len]; exact hi), o.reK (fun x hx => if_pos hx) fun x hx => .inl hx⟩
    · rw [List.getElem?_set_ne hj] at e
      rw [List.getElem?_set_ne hj]
      have z := h1 j c e
      cases c with
      | no => trivial
      | dt d => exact z
      | ow es => obtain ⟨b, e, r, n⟩ := z; exact ⟨b, e, ⟨r.nb, re r.at_ (fun z => nomatch z), r.is⟩, n⟩
      | ln es => obtain ⟨b, e, r, n⟩ := z; exact ⟨b, e, ⟨r.nb, re r.at_ (fun z => nomatch z), r.is⟩, n⟩
      | sc ns => exact z
      | ob pp => obtain ⟨b, e, r, n⟩ := z; exact ⟨b, e, ⟨r.nb, re r.at_ (fun z => nomatch z), r.is⟩, n⟩
      | li R => obtain ⟨b, e, r⟩ := z; exact ⟨b, e, r.reK (fun x hx => re hx (fun z => nomatch z)) fun _ h => h⟩
  · have nk : ∀ {k : Nat}, k < Θ.length → (Sum.inr k : Sum Nat Nat) ≠ .inr Θ.length := fun hk z => absurd (Sum.inr.inj z) (Nat.ne_of_lt hk)
    cases t with
    | dt d => exact z
    | fr es => obtain ⟨b, e, r, n⟩ := z; exact ⟨b, e, ⟨r.nb, re r.at_ (nk hk), r.is⟩, n⟩
    | sc ns => exact z
    | ob pp => obtain ⟨b, e, r, n⟩ := z; exact ⟨b, e, ⟨r.nb, re r.at_ (nk hk), r.is⟩, n⟩
    | li R => obtain ⟨b, e, r⟩ := z; exact ⟨b, e, r.reK (fun x hx => re hx (nk hk)) fun _ h => h⟩
    | br j =>
      show (σ.set i (some (V.ref a)))[j]? = some (some u)
      have hij : i ≠ j := fun z => hb _ hm (by rw [z])
      rw [List.getElem?_set_ne hij]; exact z
theorem Own.mut {k k' : Sum Nat Nat} {a a' : Addr} {ds ds' : List Dat} {o : HO} (h : Own w k S a ds) (h' : Own w k' S a' ds') (n : k' ≠ k) : Own w k' ⟨S.b, upd S.h a o⟩ a' ds' := by
  have ne : a' ≠ a := h'.apart h n
  obtain ⟨nb, e, us, q, p⟩ := h'
  exact ⟨nb, e, us, by show upd S.h a o a' = _; rw [upd_ne ne]; exact q, p⟩
theorem sub_mut {a : Addr} {o : HO} (s : Same S.b S.h) (nb : S.b a = none) : Same S.b (upd S.h a o) := fun c u e => by
  rw [upd_ne (ne_of_none e nb)]; exact s c u e
/-- the list in slot i is changed -/
theorem Env.mutSlot {c : Cell} {ds : List Dat} {i : Nat} (E : Env K L S0 Γ Θ σ τ S) (hi : Γ[i]? = some c) (hc : c.ls = some ds) :
    ∃ a vs, σ[i]? = some (some (.ref a)) ∧ S.h a = some (.lst vs) ∧ DqAll S.b vs ds ∧ ∀ vs' ds', DqAll S.b vs' ds' → Env K L S0 (Γ.set i (c.put ds')) Θ σ τ ⟨S.b, upd S.h a (.lst vs')⟩ := by
  obtain ⟨w, h1, h2⟩ := E.ok
  have hil := (List.getElem?_eq_some_iff.mp hi).1
  obtain ⟨a, ei, o, n0⟩ : ∃ a, σ[i]? = some (some (.ref a)) ∧ Own w (.inl i) S a ds ∧ (S0.h a = none ∨ L a) := by
    have z := h1 i c hi
    cases c with
    | no => cases hc
    | dt d => cases hc
    | ow es => cases hc; obtain ⟨a, e, r, n⟩ := z; exact ⟨a, e, r, .inl n⟩
    | ln es => cases hc; obtain ⟨a, e, r, n⟩ := z; exact ⟨a, e, r, .inr n⟩
    | sc ns => cases hc
    | ob pp => cases hc
    | li R => cases hc
  obtain ⟨nb, ea, vs, q, p⟩ := id o
  refine ⟨a, vs, ei, q, p, fun vs' ds' p' => ⟨⟨E.gr.b, fun b u n e => ?_, E.gr.own, fun b n => ?_⟩, sub_mut E.sub nb, by rw [List.length_set]; exact E.len, w, fun j c' e => ?_, h2.imp fun k u t hk z => ?_⟩⟩
  · show upd S.h a (.lst vs') b = some u
    have ne : b ≠ a := fun z => by
      subst z
      rcases n0 with z | z
      · rw [z] at e; cases e
      · exact n z
    rw [upd_ne ne]; exact E.gr.h b u n e
  · show upd S.h a (.lst vs') b ≠ none
    by_cases z : b = a
    · rw [z, upd_same]; exact fun z => nomatch z
    · rw [upd_ne z]; exact E.gr.dom b n
  · by_cases hj : i = j
    · subst hj
      rw [List.getElem?_set_self hil] at e
      have ow' : Own w (.inl i) ⟨S.b, upd S.h a (.lst vs')⟩ a ds' := ⟨nb, ea, vs', upd_same, p'⟩
      have z := h1 i c hi
      cases c with
      | no => cases hc
      | dt d => cases hc
      | ow es => cases e; obtain ⟨b, e, r, n⟩ := z; rw [ei] at e; cases e; exact ⟨_, ei, ow', n⟩
      | ln es => cases e; obtain ⟨b, e, r, n⟩ := z; rw [ei] at e; cases e; exact ⟨_, ei, ow', n⟩
      | sc ns => cases hc
      | ob pp => cases hc
      | li R => cases hc
    · rw [List.getElem?_set_ne hj] at e
      have z := h1 j c' e
      cases c' with
      | no => trivial
      | dt d => exact z
      | ow es => obtain ⟨b, e, r, n⟩ := z; exact ⟨b, e, o.mut r (fun z => hj (Sum.inl.inj z).symm), n⟩
      | ln es => obtain ⟨b, e, r, n⟩ := z; exact ⟨b, e, o.mut r (fun z => hj (Sum.inl.inj z).symm), n⟩
      | sc ns => exact z
      | ob pp => obtain ⟨b, e, r, n⟩ := z; exact ⟨b, e, o.mutO r (fun z => hj (Sum.inl.inj z).symm), n⟩
      | li R => obtain ⟨b, e, r⟩ := z; exact ⟨b, e, o.mutL r (fun z => hj (Sum.inl.inj z).symm)⟩
  · cases t with
    | dt d => exact z
    | fr es => obtain ⟨b, e, r, n⟩ := z; exact ⟨b, e, o.mut r (fun z => nomatch z), n⟩
    | br j => exact z
    | sc ns => exact z
    | ob pp => obtain ⟨b, e, r, n⟩ := z; exact ⟨b, e, o.mutO r (fun z => nomatch z), n⟩
    | li R => obtain ⟨b, e, r⟩ := z; exact ⟨b, e, o.mutL r (fun z => nomatch z)⟩
theorem OwnO.mut {k k' : Sum Nat Nat} {a a' : Addr} {ds' : List Dat} {p o : HO} (h : OwnO w k S a p) (h' : Own w k' S a' ds') (n : k' ≠ k) : Own w k' ⟨S.b, upd S.h a o⟩ a' ds' := by
  have ne : a' ≠ a := h'.apartO h n
  obtain ⟨nb, e, us, q, p⟩ := h'
  exact ⟨nb, e, us, by show upd S.h a o a' = _; rw [upd_ne ne]; exact q, p⟩
theorem OwnO.mutO {k k' : Sum Nat Nat} {a a' : Addr} {p p' o : HO} (h : OwnO w k S a p) (h' : OwnO w k' S a' p') (n : k' ≠ k) : OwnO w k' ⟨S.b, upd S.h a o⟩ a' p' := by
  have ne : a' ≠ a := h'.apart h n
  obtain ⟨nb, e, q⟩ := h'
  exact ⟨nb, e, by show upd S.h a o a' = _; rw [upd_ne ne]; exact q⟩
/-- the object in slot i is changed -/
theorem Env.mutOb {p : HO} {i : Nat} (E : Env K L S0 Γ Θ σ τ S) (hi : Γ[i]? = some (.ob p)) :
    ∃ a, σ[i]? = some (some (.ref a)) ∧ S.h a = some p ∧ ∀ p', Env K L S0 (Γ.set i (.ob p')) Θ σ τ ⟨S.b, upd S.h a p'⟩ := by
  obtain ⟨w, h1, h2⟩ := E.ok
  have hil := (List.getElem?_eq_some_iff.mp hi).1
  obtain ⟨a, ei, o, n0⟩ := h1 i _ hi
  obtain ⟨nb, ea, q⟩ := id o
  refine ⟨a, ei, q, fun p' => ⟨⟨E.gr.b, fun b u n e => ?_, E.gr.own, fun b n => ?_⟩, sub_mut E.sub nb, by rw [List.length_set]; exact E.len, w, fun j c' e => ?_, h2.imp fun k u t hk z => ?_⟩⟩
  · show upd S.h a p' b = some u
    rw [upd_ne (ne_of_none e n0)]; exact E.gr.h b u n e
  · show upd S.h a p' b ≠ none
    by_cases z : b = a
    · rw [z, upd_same]; exact fun z => nomatch z
    · rw [upd_ne z]; exact E.gr.dom b n
  · by_cases hj : i = j
    · subst hj
      rw [List.getElem?_set_self hil] at e
      cases e
      exact ⟨a, ei, ⟨nb, ea, upd_same⟩, n0⟩
    · rw [List.getElem?_set_ne hj] at e
      have z := h1 j c' e
      cases c' with
      | no => trivial
      | dt d => exact z
      | ow es => obtain ⟨b, e, r, n⟩ := z; exact ⟨b, e, o.mut r (fun z => hj (Sum.inl.inj z).symm), n⟩
      | ln es => obtain ⟨b, e, r, n⟩ := z; exact ⟨b, e, o.mut r (fun z => hj (Sum.inl.inj z).symm), n⟩
      | sc ns => exact z
      | ob es => obtain ⟨b, e, r, n⟩ := z; exact ⟨b, e, o.mutO r (fun z => hj (Sum.inl.inj z).symm), n⟩
      | li R => obtain ⟨b, e, r⟩ := z; exact ⟨b, e, o.mutL r (fun z => hj (Sum.inl.inj z).symm)⟩
  · cases t with
    | dt d => exact z
    | fr es => obtain ⟨b, e, r, n⟩ := z; exact ⟨b, e, o.mut r (fun z => nomatch z), n⟩
    | br j => exact z
    | sc ns => exact z
    | ob es => obtain ⟨b, e, r, n⟩ := z; exact ⟨b, e, o.mutO r (fun z => nomatch z), n⟩
    | li R => obtain ⟨b, e, r⟩ := z; exact ⟨b, e, o.mutL r (fun z => nomatch z)⟩
theorem Env.ob_at {p : HO} {i : Nat} {v : V} (E : Env K L S0 Γ (.br i :: Θ) σ (v :: τ) S) (hi : Γ[i]? = some (.ob p)) : ∃ a, v = .ref a ∧ S.h a = some p := by
  obtain ⟨w, h1, z, h2⟩ := E.ok
  obtain ⟨a, e, o, n⟩ := h1 i _ hi
  have z' : σ[i]? = some (some v) := z
  rw [z'] at e; cases e
  exact ⟨a, rfl, o.is⟩
/-- the new list under way is changed -/
theorem Env.mutTop {ds : List Dat} {v : V} (E : Env K L S0 Γ (.fr ds :: Θ) σ (v :: τ) S) :
    ∃ a vs, v = .ref a ∧ S.h a = some (.lst vs) ∧ DqAll S.b vs ds ∧ ∀ vs' ds', DqAll S.b vs' ds' → Env K L S0 Γ (.fr ds' :: Θ) σ (v :: τ) ⟨S.b, upd S.h a (.lst vs')⟩ := by
  obtain ⟨w, h1, ⟨a, rfl, o, n0⟩, h2⟩ := E.ok
  obtain ⟨nb, ea, vs, q, p⟩ := id o
  refine ⟨a, vs, rfl, q, p, fun vs' ds' p' => ⟨⟨E.gr.b, fun b u n e => ?_, E.gr.own, fun b n => ?_⟩, sub_mut E.sub nb, E.len, w, fun j c' e => ?_, ⟨a, rfl, ⟨nb, ea, vs', upd_same, p'⟩, n0⟩, h2.imp fun k u t hk z => ?_⟩⟩
  · show upd S.h a (.lst vs') b = some u
    rw [upd_ne (ne_of_none e n0)]; exact E.gr.h b u n e
  · show upd S.h a (.lst vs') b ≠ none
    by_cases z : b = a
    · rw [z, upd_same]; exact fun z => nomatch z
    · rw [upd_ne z]; exact E.gr.dom b n
  · have z := h1 j c' e
    cases c' with
    | no => trivial
    | dt d => exact z
    | ow es => obtain ⟨b, e, r, n⟩ := z; exact ⟨b, e, o.mut r (fun z => nomatch z), n⟩
    | ln es => obtain ⟨b, e, r, n⟩ := z; exact ⟨b, e, o.mut r (fun z => nomatch z), n⟩
    | sc ns => exact z
    | ob pp => obtain ⟨b, e, r, n⟩ := z; exact ⟨b, e, o.mutO r (fun z => nomatch z), n⟩
    | li R => obtain ⟨b, e, r⟩ := z; exact ⟨b, e, o.mutL r (fun z => nomatch z)⟩
  · cases t with
    | dt d => exact z
    | fr es => obtain ⟨b, e, r, n⟩ := z; exact ⟨b, e, o.mut r (fun z => absurd (Sum.inr.inj z) (Nat.ne_of_lt hk)), n⟩
    | br j => exact z
    | sc ns => exact z
    | ob pp => obtain ⟨b, e, r, n⟩ := z; exact ⟨b, e, o.mutO r (fun z => absurd (Sum.inr.inj z) (Nat.ne_of_lt hk)), n⟩
    | li R => obtain ⟨b, e, r⟩ := z; exact ⟨b, e, o.mutL r (fun z => absurd (Sum.inr.inj z) (Nat.ne_of_lt hk))⟩
end
/-! ### a value under way, read as data -/
def rd (Γ : List Cell) : Tmp → Dat → Prop
  | .dt e, d => e = d
  | .fr ds, d => d = .list ds
  | .br i, d => Γ[i]? = some (.dt d) ∨ ∃ ds, d = .list ds ∧ (Γ[i]? = some (.ow ds) ∨ Γ[i]? = some (.ln ds))
  | .sc _, _ => False
  | .ob _, _ => False
  | .li _, _ => False
section
variable {K : PySem.W.Frag} {L : Addr → Prop} {S0 S S' : Hs} {Γ : List Cell} {Θ : List Tmp} {σ : L2.St} {τ : List V} {w : Wh}
theorem Own.dp {k : Sum Nat Nat} {a : Addr} {ds : List Dat} (h : Own w k S a ds) (sub : Same S.b S.h) : Dq S.h (.ref a) (.list ds) := by
  obtain ⟨_, _, vs, q, p⟩ := h
  exact .lst q (dpa_mono sub _ _ p)
theorem Env.rd {t : Tmp} {v : V} {d : Dat} (E : Env K L S0 Γ (t :: Θ) σ (v :: τ) S) (h : rd Γ t d) : Dq S.h v d := by
  obtain ⟨w, h1, z, h2⟩ := E.ok
  cases t with
  | dt e => cases h; exact dp_mono E.sub _ _ z
  | fr ds => cases h; obtain ⟨a, rfl, o, n⟩ := z; exact o.dp E.sub
  | sc ns => exact h.elim
  | ob pp => exact h.elim
  | li R => exact h.elim
  | br i =>
    have z' : σ[i]? = some (some v) := z
    rcases h with h | ⟨ds, rfl, h⟩
    · obtain ⟨u, e, q⟩ := h1 i _ h
      rw [z'] at e; cases e
      exact dp_mono E.sub _ _ q
    · rcases h with h | h
      · obtain ⟨a, e, o, _⟩ := h1 i _ h
        rw [z'] at e; cases e
        exact o.dp E.sub
      · obtain ⟨a, e, o, _⟩ := h1 i _ h
        rw [z'] at e; cases e
        exact o.dp E.sub
theorem Env.dt {v : V} {d : Dat} (E : Env K L S0 Γ (.dt d :: Θ) σ (v :: τ) S) : Dq S.b v d := let ⟨_, z⟩ := E.top; z
end
theorem dp_int {H : Hp} {v : V} {i : Int} (h : Dq H v (.int i)) : v = .int i := by cases h; rfl
theorem dp_bool {H : Hp} {v : V} {i : Bool} (h : Dq H v (.bool i)) : v = .bl i := by cases h; rfl
theorem dp_none {H : Hp} {v : V} (h : Dq H v .none) : v = .non := by cases h; rfl
theorem dp_list {H : Hp} {v : V} {ds : List Dat} (h : Dq H v (.list ds)) : ∃ a xs, v = .ref a ∧ H a = some (.lst xs) ∧ DqAll H xs ds := by cases h with | lst a b => exact ⟨_, _, rfl, a, b⟩
theorem dp_tup {H : Hp} {v : V} {ds : List Dat} (h : Dq H v (.tuple ds)) : ∃ a o xs, v = .ref a ∧ o.dict = none ∧ H a = some (.frz o (.tup xs)) ∧ DqAll H xs ds := by cases h with | tup d a b => exact ⟨_, _, _, rfl, d, a, b⟩
/-! ### judgements over the cells -/
section
variable (K : PySem.W.Frag) (Γ : List Cell) (Θ : List Tmp)
def VE (t : TE) (Q : List Cell → Tmp → Prop) : Prop := ∀ (L : Addr → Prop) (S0 : Hs) (σ : L2.St) (τ : List V) (S : Hs) (Qv : VK), Env K L S0 Γ Θ σ τ S →
  (∀ Γ' S' v c, Env K L S0 Γ' (c :: Θ) σ (v :: τ) S' → Q Γ' c → Qv v S'.h) → t σ S.h Qv
/-- .. with data at the end -/
def VD (t : TE) (Q : List Cell → Dat → Prop) : Prop := ∀ (L : Addr → Prop) (S0 : Hs) (σ : L2.St) (τ : List V) (S : Hs) (Qv : VK), Env K L S0 Γ Θ σ τ S →
  (∀ Γ' S' v d, Env K L S0 Γ' (.dt d :: Θ) σ (v :: τ) S' → Q Γ' d → Qv v S'.h) → t σ S.h Qv
def VT (t : TT) (Q : List Cell → Bool → Prop) : Prop := ∀ (L : Addr → Prop) (S0 : Hs) (σ : L2.St) (τ : List V) (S : Hs) (Qv : Bool → Hp → Prop), Env K L S0 Γ Θ σ τ S →
  (∀ Γ' S' b, Env K L S0 Γ' Θ σ τ S' → Q Γ' b → Qv b S'.h) → t σ S.h Qv
/-- a part of a slice -/
def VO (t : TO) (Q : List Cell → Option Int → Prop) : Prop := ∀ (L : Addr → Prop) (S0 : Hs) (σ : L2.St) (τ : List V) (S : Hs) (Qv : Option Int → Hp → Prop), Env K L S0 Γ Θ σ τ S →
  (∀ Γ' S' b, Env K L S0 Γ' Θ σ τ S' → Q Γ' b → Qv b S'.h) → t σ S.h Qv
structure DE where
  nx : List Cell → Prop
  rt : List Cell → Dat → Prop
  bk : List Cell → Prop := fun _ => False
  ct : List Cell → Prop := fun _ => False
def VS (t : TS) (R : DE) : Prop := ∀ (L : Addr → Prop) (S0 : Hs) (σ : L2.St) (τ : List V) (S : Hs) (D : Ends), Env K L S0 Γ Θ σ τ S →
  (∀ Γ' σ' S', Env K L S0 Γ' Θ σ' τ S' → R.nx Γ' → D.nx σ' S'.h) → (∀ Γ' σ' S' v d, Env K L S0 Γ' Θ σ' τ S' → Dq S'.b v d → R.rt Γ' d → D.rt v S'.h) →
  (∀ Γ' σ' S', Env K L S0 Γ' Θ σ' τ S' → R.bk Γ' → D.bk σ' S'.h) → (∀ Γ' σ' S', Env K L S0 Γ' Θ σ' τ S' → R.ct Γ' → D.ct σ' S'.h) → t D σ S.h
end
/-- what is under way becomes data -/
def Fz (Γ : List Cell) (Q : List Cell → Dat → Prop) : Tmp → Prop
  | .dt d => Q Γ d
  | .fr ds => Q Γ (.list ds)
  | .br i => ∃ ds, Γ[i]? = some (.ow ds) ∧ Q (Γ.set i (.dt (.list ds))) (.list ds)
  | .sc _ => False
  | .ob _ => False
  | .li _ => False
section
variable {K : PySem.W.Frag} {Γ : List Cell} {Θ : List Tmp}
theorem vd_of {t : TE} {Q : List Cell → Dat → Prop} (h : VE K Γ Θ t fun Γ1 c => Fz Γ1 Q c) : VD K Γ Θ t Q := fun L S0 σ τ S Qv E q => h L S0 σ τ S Qv E fun Γ' S' v c E' z => by
  cases c with
  | dt d => exact q Γ' S' v d E' z
  | fr ds =>
    obtain ⟨S2, e, E2⟩ := E'.frzTop
    rw [← e]
    exact q Γ' S2 v _ E2 z
  | br i =>
    obtain ⟨ds, hi, z⟩ := z
    obtain ⟨S2, e, E2⟩ := E'.frzSlot hi
    rw [← e]
    obtain ⟨w, h1, z2, h2⟩ := id E2.ok
    have hl := (List.getElem?_eq_some_iff.mp hi).1
    obtain ⟨u, eu, qu⟩ := h1 i _ (List.getElem?_set_self hl)
    have z2' : σ[i]? = some (some v) := z2
    rw [z2'] at eu; cases eu
    exact q _ S2 v _ (E2.pop.push qu) z
  | sc ns => exact z.elim
  | ob pp => exact z.elim
  | li R => exact z.elim
theorem ve_mono {t : TE} {Q Q' : List Cell → Tmp → Prop} (h : VE K Γ Θ t Q) (f : ∀ Γ c, Q Γ c → Q' Γ c) : VE K Γ Θ t Q' := fun L S0 σ τ S Qv E q => h L S0 σ τ S Qv E fun Γ' S' v c E' z => q Γ' S' v c E' (f _ _ z)
/-! names, constants -/
theorem ve_var {i : Nat} {d : Dat} {Q : List Cell → Tmp → Prop} (h : Γ[i]? = some (.dt d)) (q : Q Γ (.dt d)) : VE K Γ Θ (tVar i) Q := fun L S0 σ τ S Qv E k => by
  obtain ⟨w, h1, h2⟩ := id E.ok
  obtain ⟨v, e, p⟩ := h1 i _ h
  exact ⟨v, e, k Γ S v _ (E.push p) q⟩
theorem ve_own {i : Nat} {c : Cell} {ds : List Dat} {Q : List Cell → Tmp → Prop} (h : Γ[i]? = some c) (hc : c.ls = some ds) (q : Q Γ (.br i)) : VE K Γ Θ (tVar i) Q := fun L S0 σ τ S Qv E k => by
  obtain ⟨a, vs, e, _⟩ := E.mutSlot h hc
  exact ⟨_, e, k Γ S _ _ (E.pushBr e) q⟩
theorem ve_c {v : V} {Q : List Cell → Tmp → Prop} (hs : sc v = true) (q : Q Γ (.dt (vd v))) : VE K Γ Θ (tC v) Q := fun L S0 σ τ S Qv E k => k Γ S v _ (E.push (dp_sc hs)) q
theorem ve_int {i : Int} {Q : List Cell → Tmp → Prop} (q : Q Γ (.dt (.int i))) : VE K Γ Θ (tC (.int i)) Q := ve_c rfl q
theorem ve_bl {i : Bool} {Q : List Cell → Tmp → Prop} (q : Q Γ (.dt (.bool i))) : VE K Γ Θ (tC (.bl i)) Q := ve_c rfl q
theorem ve_non {Q : List Cell → Tmp → Prop} (q : Q Γ (.dt .none)) : VE K Γ Θ (tC .non) Q := ve_c rfl q
theorem ve_str {x : Str} {Q : List Cell → Tmp → Prop} (q : Q Γ (.dt (.str x))) : VE K Γ Θ (tC (.str x)) Q := ve_c rfl q
/-! operators by two values -/
def R2V (K : PySem.W.Frag) (r : R2) (Γ : List Cell) (Θ : List Tmp) (x y : Tmp) (Q : List Cell → Tmp → Prop) : Prop := ∀ (L : Addr → Prop) (S0 : Hs) (σ : L2.St) (τ : List V) (S : Hs) (vx vy : V) (Qv : VK), Env K L S0 Γ (y :: x :: Θ) σ (vy :: vx :: τ) S →
  (∀ Γ' S' v c, Env K L S0 Γ' (c :: Θ) σ (v :: τ) S' → Q Γ' c → Qv v S'.h) → r vx vy S.h Qv
theorem ve_op {r : R2} {ta tb : TE} {Q : List Cell → Tmp → Prop} (h : VE K Γ Θ ta fun Γ1 x => VE K Γ1 (x :: Θ) tb fun Γ2 y => R2V K r Γ2 Θ x y Q) : VE K Γ Θ (tOp r ta tb) Q := fun L S0 σ τ S Qv E k =>
  h L S0 σ τ S _ E fun Γ1 S1 vx x E1 h1 => h1 L S0 σ _ S1 _ E1 fun Γ2 S2 vy y E2 h2 => h2 L S0 σ τ S2 vx vy Qv E2 k
theorem r2_ii {f : Int → Int → Int} {i j : Int} {Q : List Cell → Tmp → Prop} (q : Q Γ (.dt (.int (f i j)))) : R2V K (rI0 fun i j => .int (f i j)) Γ Θ (.dt (.int i)) (.dt (.int j)) Q := fun L S0 σ τ S vx vy Qv E k =>
  ⟨i, j, dp_int E.pop.dt, dp_int E.dt, k Γ S _ _ (E.pop.pop.push (.int _)) q⟩
theorem r2_ib {f : Int → Int → Bool} {i j : Int} {Q : List Cell → Tmp → Prop} (q : Q Γ (.dt (.bool (f i j)))) : R2V K (rI0 fun i j => .bl (f i j)) Γ Θ (.dt (.int i)) (.dt (.int j)) Q := fun L S0 σ τ S vx vy Qv E k =>
  ⟨i, j, dp_int E.pop.dt, dp_int E.dt, k Γ S _ _ (E.pop.pop.push (.bl _)) q⟩
theorem r2_ic {C : Int → Int → Prop} {f : Int → Int → Int} {i j : Int} {Q : List Cell → Tmp → Prop} (hc : C i j) (q : Q Γ (.dt (.int (f i j)))) : R2V K (rI C fun i j => .int (f i j)) Γ Θ (.dt (.int i)) (.dt (.int j)) Q := fun L S0 σ τ S vx vy Qv E k =>
  ⟨i, j, dp_int E.pop.dt, dp_int E.dt, hc, k Γ S _ _ (E.pop.pop.push (.int _)) q⟩
theorem r2_eqD {x y : Tmp} {d e : Dat} {Q : List Cell → Tmp → Prop} (hx : rd Γ x d) (hy : rd Γ y e) (sd : SeqAt.shaped d = true) (se : SeqAt.shaped e = true) (q : Q Γ (.dt (.bool (PyData.eqv d e)))) : R2V K (rEqD K) Γ Θ x y Q := fun L S0 σ τ S vx vy Qv E k =>
  ⟨d, e, dq_dp _ _ (E.pop.rd hx), dq_dp _ _ (E.rd hy), sd, se, k Γ S _ _ (E.pop.pop.push (.bl _)) q⟩
theorem r2_neD {x y : Tmp} {d e : Dat} {Q : List Cell → Tmp → Prop} (hx : rd Γ x d) (hy : rd Γ y e) (sd : SeqAt.shaped d = true) (se : SeqAt.shaped e = true) (q : Q Γ (.dt (.bool (!PyData.eqv d e)))) : R2V K (rNeD K) Γ Θ x y Q := fun L S0 σ τ S vx vy Qv E k =>
  ⟨d, e, dq_dp _ _ (E.pop.rd hx), dq_dp _ _ (E.rd hy), sd, se, k Γ S _ _ (E.pop.pop.push (.bl _)) q⟩
end
end Ld
set_option Elab.async false
set_option linter.all false
set_option maxRecDepth 100000
namespace Ld
open PySem PySem.Spec PyProof.Rows L2 Lx
section
variable {K : PySem.W.Frag} {Γ : List Cell} {Θ : List Tmp}
/-! ### tests -/
theorem vt_mono {t : TT} {Q Q' : List Cell → Bool → Prop} (h : VT K Γ Θ t Q) (f : ∀ Γ b, Q Γ b → Q' Γ b) : VT K Γ Θ t Q' := fun L S0 σ τ S Qv E k => h L S0 σ τ S Qv E fun Γ' S' b E' q => k Γ' S' b E' (f _ _ q)
def AsB (Γ : List Cell) (Q : List Cell → Bool → Prop) : Tmp → Prop
  | .dt (.bool b) => Q Γ b
  | _ => False
theorem asB_ok {L : Addr → Prop} {S0 S : Hs} {σ : L2.St} {τ : List V} {v : V} {c : Tmp} {Q : List Cell → Bool → Prop} (E : Env K L S0 Γ (c :: Θ) σ (v :: τ) S) (h : AsB Γ Q c) : ∃ b, v = .bl b ∧ Q Γ b := by
  cases c with
  | dt d =>
    cases d with
    | bool b => exact ⟨b, dp_bool E.dt, h⟩
    | _ => exact h.elim
  | _ => exact h.elim
theorem vt_B {te : TE} {Q : List Cell → Bool → Prop} (h : VE K Γ Θ te fun Γ1 c => AsB Γ1 Q c) : VT K Γ Θ (tB te) Q := fun L S0 σ τ S Qv E k => h L S0 σ τ S _ E fun Γ' S' v c E' q => by
  obtain ⟨b, e, q⟩ := asB_ok E' q
  exact ⟨b, e, k _ _ _ E'.pop q⟩
theorem vt_test {te : TE} {Q : List Cell → Bool → Prop} (h : VE K Γ Θ te fun Γ1 c => AsB Γ1 Q c) : VT K Γ Θ (tTest te) Q := fun L S0 σ τ S Qv E k => h L S0 σ τ S _ E fun Γ' S' v c E' q => by
  obtain ⟨b, e, q⟩ := asB_ok E' q
  exact ⟨b, e, k _ _ _ E'.pop q⟩
theorem vt_and {t u : TT} {Q : List Cell → Bool → Prop} (h : VT K Γ Θ t fun Γ1 b => (b = true → VT K Γ1 Θ u Q) ∧ (b = false → Q Γ1 false)) : VT K Γ Θ (tAnd t u) Q := fun L S0 σ τ S Qv E k => h L S0 σ τ S _ E fun Γ' S' b E' q => by
  cases b with
  | true => rw [if_pos rfl]; exact q.1 rfl L S0 σ τ S' Qv E' k
  | false => rw [if_neg Bool.false_ne_true]; exact k _ _ _ E' (q.2 rfl)
theorem vt_or {t u : TT} {Q : List Cell → Bool → Prop} (h : VT K Γ Θ t fun Γ1 b => (b = true → Q Γ1 true) ∧ (b = false → VT K Γ1 Θ u Q)) : VT K Γ Θ (tOr t u) Q := fun L S0 σ τ S Qv E k => h L S0 σ τ S _ E fun Γ' S' b E' q => by
  cases b with
  | true => rw [if_pos rfl]; exact k _ _ _ E' (q.1 rfl)
  | false => rw [if_neg Bool.false_ne_true]; exact q.2 rfl L S0 σ τ S' Qv E' k
theorem vt_not {t : TT} {Q : List Cell → Bool → Prop} (h : VT K Γ Θ t fun Γ1 b => Q Γ1 (!b)) : VT K Γ Θ (tNot t) Q := fun L S0 σ τ S Qv E k => h L S0 σ τ S _ E fun Γ' S' b E' q => k _ _ _ E' q
theorem vt_yes {Q : List Cell → Bool → Prop} (h : Q Γ true) : VT K Γ Θ tYes Q := fun L S0 σ τ S Qv E k => k Γ S true E h
theorem ve_ifE {t : TT} {ta tb : TE} {Q : List Cell → Tmp → Prop} (h : VT K Γ Θ t fun Γ1 b => (b = true → VE K Γ1 Θ ta Q) ∧ (b = false → VE K Γ1 Θ tb Q)) : VE K Γ Θ (tIf t ta tb) Q := fun L S0 σ τ S Qv E k => h L S0 σ τ S _ E fun Γ' S' b E' q => by
  cases b with
  | true => rw [if_pos rfl]; exact q.1 rfl L S0 σ τ S' Qv E' k
  | false => rw [if_neg Bool.false_ne_true]; exact q.2 rfl L S0 σ τ S' Qv E' k
theorem ve_andV {ta tb : TE} {Q : List Cell → Tmp → Prop} (h : VE K Γ Θ ta fun Γ1 c => AsB Γ1 (fun Γ1 b => (b = true → VE K Γ1 Θ tb Q) ∧ (b = false → Q Γ1 (.dt (.bool false)))) c) : VE K Γ Θ (tAndV ta tb) Q := fun L S0 σ τ S Qv E k => h L S0 σ τ S _ E fun Γ' S' v c E' q => by
  obtain ⟨b, e, q⟩ := asB_ok E' q
  refine ⟨b, e, ?_⟩
  cases b with
  | true => rw [if_pos rfl]; exact q.1 rfl L S0 σ τ S' Qv E'.pop k
  | false => rw [if_neg Bool.false_ne_true]; exact k _ _ _ _ (E'.pop.push (.bl _)) (q.2 rfl)
theorem ve_orV {ta tb : TE} {Q : List Cell → Tmp → Prop} (h : VE K Γ Θ ta fun Γ1 c => AsB Γ1 (fun Γ1 b => (b = true → Q Γ1 (.dt (.bool true))) ∧ (b = false → VE K Γ1 Θ tb Q)) c) : VE K Γ Θ (tOrV ta tb) Q := fun L S0 σ τ S Qv E k => h L S0 σ τ S _ E fun Γ' S' v c E' q => by
  obtain ⟨b, e, q⟩ := asB_ok E' q
  refine ⟨b, e, ?_⟩
  cases b with
  | true => rw [if_pos rfl]; exact k _ _ _ _ (E'.pop.push (.bl _)) (q.1 rfl)
  | false => rw [if_neg Bool.false_ne_true]; exact q.2 rfl L S0 σ τ S' Qv E'.pop k
theorem ve_notV {ta : TE} {Q : List Cell → Tmp → Prop} (h : VE K Γ Θ ta fun Γ1 c => AsB Γ1 (fun Γ1 b => Q Γ1 (.dt (.bool (!b)))) c) : VE K Γ Θ (tNotV ta) Q := fun L S0 σ τ S Qv E k => h L S0 σ τ S _ E fun Γ' S' v c E' q => by
  obtain ⟨b, e, q⟩ := asB_ok E' q
  exact ⟨b, e, k _ _ _ _ (E'.pop.push (.bl _)) q⟩
theorem ve_chain {r r' : R2} {ta tb tc : TE} {Q : List Cell → Tmp → Prop}
    (h : VE K Γ Θ ta fun Γ1 x => VE K Γ1 (x :: Θ) tb fun Γ2 y => (∃ d, y = .dt d) ∧ R2V K r Γ2 (y :: Θ) x y fun Γ3 z => AsB Γ3 (fun Γ3 b => (b = true → VE K Γ3 (y :: Θ) tc fun Γ4 w => R2V K r' Γ4 Θ y w Q) ∧ (b = false → Q Γ3 (.dt (.bool false)))) z) : VE K Γ Θ (tChain r r' ta tb tc) Q := fun L S0 σ τ S Qv E k =>
  h L S0 σ τ S _ E fun Γ1 S1 vx x E1 h1 => h1 L S0 σ _ S1 _ E1 fun Γ2 S2 vy y E2 ⟨⟨d, ed⟩, h2⟩ => by
    subst ed
    have E3 : Env K L S0 Γ2 (.dt d :: x :: .dt d :: Θ) σ (vy :: vx :: vy :: τ) S2 := by
      obtain ⟨w, g1, g2, g3, g4⟩ := E2.ok
      refine ⟨E2.gr, E2.sub, E2.len, fun a => match w a with
        | some (.inr n) => if n = Θ.length then some (.inr (n + 1)) else some (.inr n)
        | o => o, fun i c e => ?_, g2, ?_, g2, g4.imp fun n u t hn q => ?_⟩
      · have q := g1 i c e
        cases c with
        | no => trivial
        | dt d => exact q
        | ow ds => obtain ⟨a, e, o, n⟩ := q; exact ⟨a, e, ⟨o.nb, by simp only [o.at_], o.is⟩, n⟩
        | ln ds => obtain ⟨a, e, o, n⟩ := q; exact ⟨a, e, ⟨o.nb, by simp only [o.at_], o.is⟩, n⟩
        | sc ns => exact q
        | ob pp => obtain ⟨a, e, o, n⟩ := q; exact ⟨a, e, ⟨o.nb, by simp only [o.at_], o.is⟩, n⟩
        | li R => obtain ⟨a, e, o⟩ := q; exact ⟨a, e, o.reK (fun x ho => by simp only [ho]) fun _ h => h⟩
      · cases x with
        | dt d => exact g3
        | fr ds => obtain ⟨a, e, o, n⟩ := g3; exact ⟨a, e, ⟨o.nb, by simp only [o.at_, if_pos, List.length_cons], o.is⟩, n⟩
        | br i => exact g3
        | sc ns => exact g3
        | ob pp => obtain ⟨a, e, o, n⟩ := g3; exact ⟨a, e, ⟨o.nb, by simp only [o.at_, if_pos, List.length_cons], o.is⟩, n⟩
        | li R => obtain ⟨a, e, o⟩ := g3; exact ⟨a, e, o.reK (fun x ho => by simp only [ho, if_pos, List.length_cons]) fun _ h => h⟩
      · cases t with
        | dt d => exact q
        | fr ds => obtain ⟨a, e, o, m⟩ := q; exact ⟨a, e, ⟨o.nb, by simp only [o.at_, if_neg (Nat.ne_of_lt hn)], o.is⟩, m⟩
        | br i => exact q
        | sc ns => exact q
        | ob pp => obtain ⟨a, e, o, m⟩ := q; exact ⟨a, e, ⟨o.nb, by simp only [o.at_, if_neg (Nat.ne_of_lt hn)], o.is⟩, m⟩
        | li R => obtain ⟨a, e, o⟩ := q; exact ⟨a, e, o.reK (fun x ho => by simp only [ho, if_neg (Nat.ne_of_lt hn)]) fun _ h => h⟩
    refine h2 L S0 σ (vy :: τ) S2 vx vy _ E3 fun Γ3 S3 z c E4 h3 => ?_
    obtain ⟨b, e, q⟩ := asB_ok E4 h3
    refine ⟨b, e, ?_⟩
    cases b with
    | true => rw [if_pos rfl]; exact q.1 rfl L S0 σ (vy :: τ) S3 _ E4.pop fun Γ4 S4 vw w E5 h5 => h5 L S0 σ τ S4 vy vw Qv E5 k
    | false => rw [if_neg Bool.false_ne_true]; exact k _ _ _ _ (E4.pop.pop.push (.bl _)) (q.2 rfl)
/-! ### more operators by values -/
def isNo : Dat → Bool
  | .none => true
  | _ => false
theorem dp_isNo {H : Hp} {v : V} {d : Dat} (h : Dq H v d) : decide (v = .non) = isNo d := by cases h <;> rfl
def rIsN : R2 := fun x y H Q => y = .non ∧ Q (.bl (decide (x = .non))) H
def rNotN : R2 := fun x y H Q => y = .non ∧ Q (.bl (!decide (x = .non))) H
theorem oi_isN {X : Cx} : OpR X (compareOp .Is) rIsN := op_isN
theorem oi_notN {X : Cx} : OpR X (compareOp .IsNot) rNotN := op_notN
theorem r2_isN {x : Tmp} {d : Dat} {Q : List Cell → Tmp → Prop} (hx : rd Γ x d) (q : Q Γ (.dt (.bool (isNo d)))) : R2V K rIsN Γ Θ x (.dt .none) Q := fun L S0 σ τ S vx vy Qv E k =>
  ⟨dp_none E.dt, by rw [dp_isNo (E.pop.rd hx)]; exact k Γ S _ _ (E.pop.pop.push (.bl _)) q⟩
theorem r2_notN {x : Tmp} {d : Dat} {Q : List Cell → Tmp → Prop} (hx : rd Γ x d) (q : Q Γ (.dt (.bool (!isNo d)))) : R2V K rNotN Γ Θ x (.dt .none) Q := fun L S0 σ τ S vx vy Qv E k =>
  ⟨dp_none E.dt, by rw [dp_isNo (E.pop.rd hx)]; exact k Γ S _ _ (E.pop.pop.push (.bl _)) q⟩
def rIsBl : R2 := fun x y H Q => ∃ a b : Bool, x = .bl a ∧ y = .bl b ∧ Q (.bl (decide (a = b))) H
def rNotBl : R2 := fun x y H Q => ∃ a b : Bool, x = .bl a ∧ y = .bl b ∧ Q (.bl (!decide (a = b))) H
theorem r2_isB {a b : Bool} {Q : List Cell → Tmp → Prop} (q : Q Γ (.dt (.bool (decide (a = b))))) : R2V K rIsBl Γ Θ (.dt (.bool a)) (.dt (.bool b)) Q := fun L S0 σ τ S vx vy Qv E k =>
  ⟨a, b, dp_bool E.pop.dt, dp_bool E.dt, k Γ S _ _ (E.pop.pop.push (.bl _)) q⟩
theorem r2_notB {a b : Bool} {Q : List Cell → Tmp → Prop} (q : Q Γ (.dt (.bool (!decide (a = b))))) : R2V K rNotBl Γ Θ (.dt (.bool a)) (.dt (.bool b)) Q := fun L S0 σ τ S vx vy Qv E k =>
  ⟨a, b, dp_bool E.pop.dt, dp_bool E.dt, k Γ S _ _ (E.pop.pop.push (.bl _)) q⟩
/-- x in a flat list or tuple -/
def flD : Dat → Bool
  | .none => true
  | .bool _ => true
  | .int _ => true
  | .str _ => true
  | _ => false
def eqF : Dat → Dat → Bool
  | .none, .none => true
  | .bool a, .bool b => a == b
  | .bool a, .int b => (if a then 1 else 0) == b
  | .int a, .bool b => a == (if b then 1 else 0)
  | .int a, .int b => a == b
  | .str a, .str b => a == b
  | _, _ => false
theorem dq_flat {H : Hp} {v : V} {d : Dat} (h : Dq H v d) (f : flD d = true) : flatV v = true := by
  cases h <;> first | rfl | cases f
theorem dq_eqF {H : Hp} {u v : V} {d e : Dat} (h : Dq H u d) (g : Dq H v e) (f1 : flD d = true) (f2 : flD e = true) : eqV u v = eqF d e := by
  cases h <;> first | (cases g <;> first | rfl | cases f2) | cases f1
theorem dqa_flat {H : Hp} : ∀ {vs : List V} {ds : List Dat}, DqAll H vs ds → ds.all flD = true → vs.all flatV = true
  | _, _, .nil, _ => rfl
  | _, _, .cons h t, f => by
    rw [List.all_cons, Bool.and_eq_true] at f
    rw [List.all_cons, dq_flat h f.1, dqa_flat t f.2, Bool.and_true]
theorem dqa_in {H : Hp} {v : V} {e : Dat} (g : Dq H v e) (f2 : flD e = true) : ∀ {vs : List V} {ds : List Dat}, DqAll H vs ds → ds.all flD = true → inV v vs = ds.any fun d => eqF d e
  | _, _, .nil, _ => rfl
  | _, _, .cons h t, f => by
    rw [List.all_cons, Bool.and_eq_true] at f
    show (eqV _ v || inV v _) = _
    rw [List.any_cons, dq_eqF h g f.1 f2, dqa_in g f2 t f.2]
def SeqD (Γ : List Cell) (x : Tmp) (ds : List Dat) : Prop := rd Γ x (.list ds) ∨ rd Γ x (.tuple ds)
theorem seqD_ok {L : Addr → Prop} {S0 S : Hs} {σ : L2.St} {τ : List V} {v : V} {c : Tmp} {ds : List Dat} (E : Env K L S0 Γ (c :: Θ) σ (v :: τ) S) (h : SeqD Γ c ds) : ∃ a xs, v = .ref a ∧ (SqL K S.h a xs ∨ SqT K S.h a xs) ∧ DqAll S.h xs ds := by
  rcases h with h | h
  · obtain ⟨a, xs, e, q, p⟩ := dp_list (E.rd h)
    exact ⟨a, xs, e, .inl (.of q), p⟩
  · obtain ⟨a, o, xs, e, _, q, p⟩ := dp_tup (E.rd h)
    exact ⟨a, xs, e, .inr (sqt_f q), p⟩
theorem r2_in {x y : Tmp} {e : Dat} {ds : List Dat} {Q : List Cell → Tmp → Prop} (hx : rd Γ x e) (hy : SeqD Γ y ds) (f1 : flD e = true) (f2 : ds.all flD = true) (q : Q Γ (.dt (.bool (ds.any fun d => eqF d e)))) : R2V K (rIn K false) Γ Θ x y Q := fun L S0 σ τ S vx vy Qv E k => by
  obtain ⟨a, xs, ev, h, p⟩ := seqD_ok E hy
  have g := E.pop.rd hx
  refine ⟨a, xs, ev, h, dq_flat g f1, dqa_flat p f2, ?_⟩
  rw [if_neg Bool.false_ne_true, dqa_in g f1 p f2]
  exact k Γ S _ _ (E.pop.pop.push (.bl _)) q
/-- subscripts -/
theorem atI_dq {H : Hp} {vs : List V} {ds : List Dat} {i : Int} {d : Dat} (p : DqAll H vs ds) (h : atI ds i = some d) : ∃ v, atI vs i = some v ∧ Dq H v d := by
  unfold atI at h ⊢
  rw [p.len]
  cases e : ixN ds.length i with
  | none => rw [e] at h; cases h
  | some j =>
    rw [e] at h
    exact p.get h
theorem r2_ixL {x : Tmp} {i : Int} {ds : List Dat} {d : Dat} {Q : List Cell → Tmp → Prop} (hx : ∃ (B : List Dat), x = .dt (.list B) ∧ B = ds ∨ (∃ j, x = .br j ∧ (Γ[j]? = some (.ow ds) ∨ Γ[j]? = some (.ln ds))) ∨ x = .fr ds) (h : atI ds i = some d) (q : Q Γ (.dt d)) : R2V K (rIxL K) Γ Θ x (.dt (.int i)) Q := fun L S0 σ τ S vx vy Qv E k => by
  have ei := dp_int E.dt
  have E1 := E.pop
  obtain ⟨a, xs, ea, hs, p⟩ : ∃ a xs, vx = .ref a ∧ SqL K S.h a xs ∧ DqAll S.b xs ds := by
    obtain ⟨w, g1, z, g2⟩ := E1.ok
    obtain ⟨B, ⟨rfl, rfl⟩ | ⟨j, rfl, hj⟩ | rfl⟩ := hx
    · obtain ⟨a, xs, e, q, p⟩ := dp_list (show Dq S.b vx (.list B) from z)
      exact ⟨a, xs, e, .of (E.sub _ _ q), p⟩
    · have z' : σ[j]? = some (some vx) := z
      rcases hj with hj | hj
      · obtain ⟨a, e, o, _⟩ := g1 j _ hj
        rw [z'] at e; cases e
        obtain ⟨_, _, us, q, p⟩ := o
        exact ⟨a, us, rfl, .of q, p⟩
      · obtain ⟨a, e, o, _⟩ := g1 j _ hj
        rw [z'] at e; cases e
        obtain ⟨_, _, us, q, p⟩ := o
        exact ⟨a, us, rfl, .of q, p⟩
    · obtain ⟨a, e, o, _⟩ := z
      obtain ⟨_, _, us, q, p⟩ := o
      exact ⟨a, us, e, .of q, p⟩
  obtain ⟨v, e, g⟩ := atI_dq p h
  exact ⟨a, xs, i, v, ea, ei, hs, e, k Γ S v _ (E1.pop.push g) q⟩
theorem r2_ixT {i : Int} {ds : List Dat} {d : Dat} {Q : List Cell → Tmp → Prop} (h : atI ds i = some d) (q : Q Γ (.dt d)) : R2V K (rIxT K) Γ Θ (.dt (.tuple ds)) (.dt (.int i)) Q := fun L S0 σ τ S vx vy Qv E k => by
  obtain ⟨a, o, xs, ea, _, hs, p⟩ := dp_tup E.pop.dt
  obtain ⟨v, e, g⟩ := atI_dq p h
  exact ⟨a, xs, i, v, ea, dp_int E.dt, sqt_f (E.sub _ _ hs), e, k Γ S v _ (E.pop.pop.push g) q⟩
/-- the script's items -/
theorem r2_ixS {i : Int} {ns : List Int} {n : Int} {Q : List Cell → Tmp → Prop} (h : atI ns i = some n) (q : Q Γ (.dt (.int n))) : R2V K (rIxL K) Γ Θ (.sc ns) (.dt (.int i)) Q := fun L S0 σ τ S vx vy Qv E k => by
  obtain ⟨w, a, ea, hs⟩ := E.pop.top
  refine ⟨a, ns.map V.int, i, .int n, ea, dp_int E.dt, E.sub.seq hs, ?_, k Γ S _ _ (E.pop.pop.push (.int _)) q⟩
  unfold atI at h ⊢
  rw [List.length_map]
  cases e : ixN ns.length i with
  | none => rw [e] at h; cases h
  | some j =>
    rw [e] at h
    show (ns.map V.int)[j]? = _
    rw [List.getElem?_map, show ns[j]? = some n from h] <;> rfl
end
end Ld
set_option Elab.async false
set_option linter.all false
set_option maxRecDepth 100000
namespace Ld
open PySem PySem.Spec PyProof.Rows L2 Lx
section
variable {K : PySem.W.Frag} {Γ : List Cell} {Θ : List Tmp}
/-! ### tuples put together -/
theorem r2_catT {ds es : List Dat} {Q : List Cell → Tmp → Prop} (hz : ds.length + es.length ≤ sizeLine) (q : Q Γ (.dt (.tuple (ds ++ es)))) : R2V K (rCatF K) Γ Θ (.dt (.tuple ds)) (.dt (.tuple es)) Q := fun L S0 σ τ S vx vy Qv E k => by
  obtain ⟨b, o2, zs, eb, d2, qb, pb⟩ := dp_tup E.dt
  obtain ⟨a, o1, xs, ea, d1, qa, pa⟩ := dp_tup E.pop.dt
  refine ⟨a, b, xs, zs, ea, eb, sqt_f (E.sub _ _ qa), sqt_f (E.sub _ _ qb), by rw [pa.len, pb.len]; exact hz, fun e => ?_, fun _ e => ?_, fun _ _ p o hd hp => ?_⟩
  · subst e
    cases pa
    exact k Γ _ _ _ (E.pop.pop.push (.tup d2 qb pb)) q
  · subst e
    cases pb
    rw [List.append_nil] at q
    exact k Γ _ _ _ (E.pop.pop.push (.tup d1 qa pa)) q
  · exact k Γ _ _ _ (E.pop.pop.newTup hd hp (pa.app pb)) q
theorem dqa_rep {H : Hp} {vs : List V} {ds : List Dat} (h : DqAll H vs ds) : ∀ n : Nat, DqAll H (List.replicate n vs).flatten (List.replicate n ds).flatten
  | 0 => .nil
  | n + 1 => by
    rw [List.replicate_succ, List.replicate_succ, List.flatten_cons, List.flatten_cons]
    exact h.app (dqa_rep h n)
theorem r2_rep {x : Tmp} {ds : List Dat} {j : Int} {Q : List Cell → Tmp → Prop} (hx : x = .dt (.list ds) ∨ x = .fr ds) (h1 : -(2 ^ 63) ≤ j) (h2 : j < 2 ^ 63) (hz : ds.length * j.toNat ≤ sizeLine) (q : Q Γ (.fr (List.replicate j.toNat ds).flatten)) :
    R2V K rRep Γ Θ x (.dt (.int j)) Q := fun L S0 σ τ S vx vy Qv E k => by
  obtain ⟨a, xs, ea, qa, pa⟩ : ∃ a xs, vx = .ref a ∧ S.h a = some (.lst xs) ∧ DqAll S.b xs ds := by
    have E1 := E.pop
    rcases hx with rfl | rfl
    · obtain ⟨a, xs, e, q, p⟩ := dp_list E1.dt
      exact ⟨a, xs, e, E.sub _ _ q, p⟩
    · obtain ⟨w, a, e, o, _⟩ := E1.top
      obtain ⟨_, _, us, q, p⟩ := o
      exact ⟨a, us, e, q, p⟩
  exact ⟨a, j, xs, ea, dp_int E.dt, qa, h1, h2, by rw [pa.len]; exact hz, fun p hp => k Γ _ _ _ (E.pop.pop.newLst hp (dqa_rep pa _)) q⟩
/-! ### a sign -/
theorem ve_un {r : V → Hp → VK → Prop} {f : Int → Int} {ta : TE} {Q : List Cell → Tmp → Prop} (hr : r = rU fun i => .int (f i)) (h : VE K Γ Θ ta fun Γ1 x => ∃ i, x = .dt (.int i) ∧ Q Γ1 (.dt (.int (f i)))) : VE K Γ Θ (tUn r ta) Q := fun L S0 σ τ S Qv E k => h L S0 σ τ S _ E fun Γ1 S1 v x E1 ⟨i, ex, q⟩ => by
  subst ex hr
  exact ⟨i, dp_int E1.dt, k Γ1 S1 _ _ (E1.pop.push (.int _)) q⟩
/-! ### argument lists -/
inductive Arg where
  | dt (d : Dat) | sc (ns : List Int)
def Arg.tmp : Arg → Tmp
  | .dt d => .dt d
  | .sc ns => .sc ns
def Arg.cell : Arg → Cell
  | .dt d => .dt d
  | .sc ns => .sc ns
def ArgOk (K : PySem.W.Frag) (B : Hp) (v : V) : Arg → Prop
  | .dt d => Dq B v d
  | .sc ns => ∃ a, v = .ref a ∧ SqL K B a (ns.map V.int)
inductive ArgsOk (K : PySem.W.Frag) (B : Hp) : List V → List Arg → Prop
  | nil : ArgsOk K B [] []
  | cons {v : V} {vs : List V} {a : Arg} {as : List Arg} : ArgOk K B v a → ArgsOk K B vs as → ArgsOk K B (v :: vs) (a :: as)
theorem ArgsOk.len {B : Hp} : ∀ {vs : List V} {as : List Arg}, ArgsOk K B vs as → vs.length = as.length
  | _, _, .nil => rfl
  | _, _, .cons _ t => by rw [List.length_cons, List.length_cons, t.len]
def VX (K : PySem.W.Frag) (Γ : List Cell) (Θ : List Tmp) (t : TE) (Q : List Cell → Arg → Prop) : Prop := ∀ (L : Addr → Prop) (S0 : Hs) (σ : L2.St) (τ : List V) (S : Hs) (Qv : VK), Env K L S0 Γ Θ σ τ S →
  (∀ Γ' S' v a, Env K L S0 Γ' (a.tmp :: Θ) σ (v :: τ) S' → Q Γ' a → Qv v S'.h) → t σ S.h Qv
def VAX (K : PySem.W.Frag) (Γ : List Cell) (Θ : List Tmp) (t : TA) (Q : List Cell → List Arg → Prop) : Prop := ∀ (L : Addr → Prop) (S0 : Hs) (σ : L2.St) (τ : List V) (S : Hs) (Qv : List V → Hp → Prop), Env K L S0 Γ Θ σ τ S →
  (∀ Γ' S' vs as, Env K L S0 Γ' Θ σ τ S' → ArgsOk K S'.b vs as → Q Γ' as → Qv vs S'.h) → t σ S.h Qv
/-- what is under way becomes an argument -/
def Az (Γ : List Cell) (Q : List Cell → Arg → Prop) : Tmp → Prop
  | .dt d => Q Γ (.dt d)
  | .fr ds => Q Γ (.dt (.list ds))
  | .br i => ∃ ds, Γ[i]? = some (.ow ds) ∧ Q (Γ.set i (.dt (.list ds))) (.dt (.list ds))
  | .sc ns => Q Γ (.sc ns)
  | .ob _ => False
  | .li _ => False
theorem vx_of {t : TE} {Q : List Cell → Arg → Prop} (h : VE K Γ Θ t fun Γ1 c => Az Γ1 Q c) : VX K Γ Θ t Q := fun L S0 σ τ S Qv E q => h L S0 σ τ S Qv E fun Γ' S' v c E' z => by
  cases c with
  | dt d => exact q Γ' S' v (.dt d) E' z
  | fr ds =>
    obtain ⟨S2, e, E2⟩ := E'.frzTop
    rw [← e]
    exact q Γ' S2 v (.dt _) E2 z
  | sc ns => exact q Γ' S' v (.sc ns) E' z
  | ob pp => exact z.elim
  | li R => exact z.elim
  | br i =>
    obtain ⟨ds, hi, z⟩ := z
    obtain ⟨S2, e, E2⟩ := E'.frzSlot hi
    rw [← e]
    obtain ⟨w, h1, z2, h2⟩ := id E2.ok
    have hl := (List.getElem?_eq_some_iff.mp hi).1
    obtain ⟨u, eu, qu⟩ := h1 i _ (List.getElem?_set_self hl)
    have z2' : σ[i]? = some (some v) := z2
    rw [z2'] at eu; cases eu
    exact q _ S2 v (.dt _) (E2.pop.push qu) z
theorem argOk_top {L : Addr → Prop} {S0 S : Hs} {σ : L2.St} {τ : List V} {v : V} {a : Arg} (E : Env K L S0 Γ (a.tmp :: Θ) σ (v :: τ) S) : ArgOk K S.b v a := by
  obtain ⟨w, z⟩ := E.top
  cases a with
  | dt d => exact z
  | sc ns => exact z
theorem vax_nil {Q : List Cell → List Arg → Prop} (q : Q Γ []) : VAX K Γ Θ tNil Q := fun L S0 σ τ S Qv E k => k Γ S [] [] E .nil q
theorem vax_cons {te : TE} {t : TA} {Q : List Cell → List Arg → Prop} (h : VX K Γ Θ te fun Γ1 a => VAX K Γ1 (a.tmp :: Θ) t fun Γ2 as => Q Γ2 (a :: as)) : VAX K Γ Θ (tCons te t) Q := fun L S0 σ τ S Qv E k =>
  h L S0 σ τ S _ E fun Γ1 S1 v a E1 h1 => h1 L S0 σ (v :: τ) S1 _ E1 fun Γ2 S2 vs as E2 p q => k Γ2 S2 (v :: vs) (a :: as) E2.pop (.cons (argOk_top E2) p) q
/-- arguments that are data -/
def dts : List Arg → Option (List Dat)
  | [] => some []
  | .dt d :: as => (dts as).map (d :: ·)
  | .sc _ :: _ => none
theorem dts_ok {B : Hp} : ∀ {vs : List V} {as : List Arg} {ds : List Dat}, ArgsOk K B vs as → dts as = some ds → DqAll B vs ds
  | _, _, _, .nil, h => by cases h; exact .nil
  | _, _, ds, .cons (a := .dt d) (as := as) h t, e => by
    unfold dts at e
    cases q : dts as with
    | none => rw [q] at e; cases e
    | some es =>
      rw [q] at e
      cases e
      exact .cons h (dts_ok t q)
  | _, _, _, .cons (a := .sc _) _ _, e => by cases e
/-! ### displays -/
theorem ve_tup {t : TA} {Q : List Cell → Tmp → Prop} (h : VAX K Γ Θ t fun Γ1 as => ∃ ds, dts as = some ds ∧ ds.length ≤ sizeLine ∧ Q Γ1 (.dt (.tuple ds))) : VE K Γ Θ (tTupF t) Q := fun L S0 σ τ S Qv E k => h L S0 σ τ S _ E fun Γ1 S1 vs as E1 p ⟨ds, e, z, q⟩ => by
  have g := dts_ok p e
  exact ⟨by rw [g.len]; exact z, fun l o hd hl => k Γ1 _ _ _ (E1.newTup hd hl g) q⟩
theorem ve_lst {t : TA} {Q : List Cell → Tmp → Prop} (h : VAX K Γ Θ t fun Γ1 as => ∃ ds, dts as = some ds ∧ ds.length ≤ sizeLine ∧ Q Γ1 (.fr ds)) : VE K Γ Θ (tLst t) Q := fun L S0 σ τ S Qv E k => h L S0 σ τ S _ E fun Γ1 S1 vs as E1 p ⟨ds, e, z, q⟩ => by
  have g := dts_ok p e
  exact ⟨by rw [g.len]; exact z, fun l hl => k Γ1 _ _ _ (E1.newLst hl g) q⟩
/-! ### calls of defs -/
theorem Env.lent {L : Addr → Prop} {S0 S S' : Hs} {σ : L2.St} {τ : List V} {a : Addr} {i : Nat} {c : Cell} {ds zs : List Dat} (E : Env K L S0 Γ Θ σ τ S) (hi : Γ[i]? = some c) (hc : c.ls = some ds) (ha : σ[i]? = some (some (.ref a)))
    (g : Gr (fun b => b = a) S S') (sub : Same S'.b S'.h) (nb : S'.b a = none) (h : ∃ us, S'.h a = some (.lst us) ∧ DqAll S'.b us zs) : Env K L S0 (Γ.set i (c.put zs)) Θ σ τ S' := by
  obtain ⟨w, h1, h2⟩ := E.ok
  have hil := (List.getElem?_eq_some_iff.mp hi).1
  obtain ⟨o, n0⟩ : Own w (.inl i) S a ds ∧ (S0.h a = none ∨ L a) := by
    have z := h1 i c hi
    cases c with
    | no => cases hc
    | dt d => cases hc
    | sc ns => cases hc
    | ob pp => cases hc
    | li R => cases hc
    | ow es => cases hc; obtain ⟨b, e, r, n⟩ := z; rw [ha] at e; cases e; exact ⟨r, .inl n⟩
    | ln es => cases hc; obtain ⟨b, e, r, n⟩ := z; rw [ha] at e; cases e; exact ⟨r, .inr n⟩
  have keep : ∀ {k : Sum Nat Nat} {b : Addr} {es : List Dat}, Own w k S b es → k ≠ .inl i → Own w k S' b es := fun {k b es} r n => by
    have ne : b ≠ a := r.apart o n
    obtain ⟨nb', e, us, q, p⟩ := r
    exact ⟨g.own b nb' (by rw [q]; exact fun z => nomatch z), e, us, g.h b _ ne q, dpa_mono g.b _ _ p⟩
  have keepO : ∀ {k : Sum Nat Nat} {b : Addr} {es : HO}, OwnO w k S b es → k ≠ .inl i → OwnO w k S' b es := fun {k b es} r n => by
    have ne : b ≠ a := (o.apartO r n.symm).symm
    obtain ⟨nb', e, q⟩ := r
    exact ⟨g.own b nb' (by rw [q]; exact fun z => nomatch z), e, g.h b _ ne q⟩
  have keepL : ∀ {k : Sum Nat Nat} {b : Addr} {R : Res} {N : Addr → Prop}, OwnL w k S b R N → k ≠ .inl i → OwnL w k S' b R N := fun {k b R N} r n => by
    obtain ⟨F, q, f⟩ := r
    have ne : ∀ x, F x → x ≠ a := fun x hx e => n (by
      have e1 := o.at_
      rw [← e, (f x hx).2.1] at e1
      exact Option.some.inj e1)
    refine ⟨F, R.frame q g.b fun x hx => ?_, fun x hx => ⟨g.own x (f x hx).1 (R.dom q hx), (f x hx).2⟩⟩
    cases e : S.h x with
    | none => exact absurd e (R.dom q hx)
    | some u => exact g.h x u (ne x hx) e
  refine ⟨E.gr.trans g fun b e => ?_, sub, by rw [List.length_set]; exact E.len, w, fun j c' e => ?_, h2.imp fun k u t hk z => ?_⟩
  · rw [e]; exact n0.symm
  · by_cases hj : i = j
    · subst hj
      rw [List.getElem?_set_self hil] at e
      have z := h1 i c hi
      cases c with
      | no => cases hc
      | dt d => cases hc
      | sc ns => cases hc
      | ob pp => cases hc
      | li R => cases hc
      | ow es => cases e; obtain ⟨b, e, r, n⟩ := z; rw [ha] at e; cases e; exact ⟨_, ha, ⟨nb, o.at_, h⟩, n⟩
      | ln es => cases e; obtain ⟨b, e, r, n⟩ := z; rw [ha] at e; cases e; exact ⟨_, ha, ⟨nb, o.at_, h⟩, n⟩
    · rw [List.getElem?_set_ne hj] at e
      have z := h1 j c' e
      cases c' with
      | no => trivial
      | dt d => obtain ⟨v, e, r⟩ := z; exact ⟨v, e, dp_mono g.b _ _ r⟩
      | ow es => obtain ⟨b, e, r, n⟩ := z; exact ⟨b, e, keep r (fun z => hj (Sum.inl.inj z).symm), n⟩
      | ln es => obtain ⟨b, e, r, n⟩ := z; exact ⟨b, e, keep r (fun z => hj (Sum.inl.inj z).symm), n⟩
      | sc ns => obtain ⟨b, e, r⟩ := z; exact ⟨b, e, g.b.seq r⟩
      | ob pp => obtain ⟨b, e, r, n⟩ := z; exact ⟨b, e, keepO r (fun z => hj (Sum.inl.inj z).symm), n⟩
      | li R => obtain ⟨b, e, r⟩ := z; exact ⟨b, e, keepL r (fun z => hj (Sum.inl.inj z).symm)⟩
  · cases t with
    | dt d => exact dp_mono g.b _ _ z
    | fr es => obtain ⟨b, e, r, n⟩ := z; exact ⟨b, e, keep r (fun z => nomatch z), n⟩
    | br j => exact z
    | sc ns => obtain ⟨b, e, r⟩ := z; exact ⟨b, e, g.b.seq r⟩
    | ob pp => obtain ⟨b, e, r, n⟩ := z; exact ⟨b, e, keepO r (fun z => nomatch z), n⟩
    | li R => obtain ⟨b, e, r⟩ := z; exact ⟨b, e, keepL r (fun z => nomatch z)⟩
theorem Env.own {L : Addr → Prop} {S0 S : Hs} {σ : L2.St} {τ : List V} {i : Nat} {c : Cell} {ds : List Dat} (E : Env K L S0 Γ Θ σ τ S) (hi : Γ[i]? = some c) (hc : c.ls = some ds) : ∃ a, σ[i]? = some (some (.ref a)) ∧ S.b a = none ∧ ∃ us, S.h a = some (.lst us) ∧ DqAll S.b us ds := by
  obtain ⟨w, h1, h2⟩ := E.ok
  have z := h1 i c hi
  cases c with
  | no => cases hc
  | dt d => cases hc
  | sc ns => cases hc
  | ob pp => cases hc
  | li R => cases hc
  | ow es => cases hc; obtain ⟨b, e, r, n⟩ := z; exact ⟨b, e, r.nb, r.is⟩
  | ln es => cases hc; obtain ⟨b, e, r, n⟩ := z; exact ⟨b, e, r.nb, r.is⟩
/-- slot i holds a list of one's own or a lent one -/
def IsLs (Γ : List Cell) (i : Nat) (ds : List Dat) : Prop := ∃ c, Γ[i]? = some c ∧ c.ls = some ds
/-- .. what it holds is changed -/
def putC (Γ : List Cell) (i : Nat) (ds : List Dat) : List Cell := match Γ[i]? with
  | some c => Γ.set i (c.put ds)
  | none => Γ
theorem putC_eq {i : Nat} {c : Cell} {ds : List Dat} (h : Γ[i]? = some c) : putC Γ i ds = Γ.set i (c.put ds) := by unfold putC; rw [h]
/-! ### built-ins by one value, two values -/
def C1V (K : PySem.W.Frag) (r : List V → Hp → VK → Prop) (Γ : List Cell) (Θ : List Tmp) (x : Tmp) (Q : List Cell → Tmp → Prop) : Prop := ∀ (L : Addr → Prop) (S0 : Hs) (σ : L2.St) (τ : List V) (S : Hs) (vx : V) (Qv : VK), Env K L S0 Γ (x :: Θ) σ (vx :: τ) S →
  (∀ Γ' S' v c, Env K L S0 Γ' (c :: Θ) σ (v :: τ) S' → Q Γ' c → Qv v S'.h) → r [vx] S.h Qv
def C2V (K : PySem.W.Frag) (r : List V → Hp → VK → Prop) (Γ : List Cell) (Θ : List Tmp) (x y : Tmp) (Q : List Cell → Tmp → Prop) : Prop := ∀ (L : Addr → Prop) (S0 : Hs) (σ : L2.St) (τ : List V) (S : Hs) (vx vy : V) (Qv : VK), Env K L S0 Γ (y :: x :: Θ) σ (vy :: vx :: τ) S →
  (∀ Γ' S' v c, Env K L S0 Γ' (c :: Θ) σ (v :: τ) S' → Q Γ' c → Qv v S'.h) → r [vx, vy] S.h Qv
theorem ve_c1 {r : List V → Hp → VK → Prop} {ta : TE} {Q : List Cell → Tmp → Prop} (h : VE K Γ Θ ta fun Γ1 x => C1V K r Γ1 Θ x Q) : VE K Γ Θ (tCB r (tCons ta tNil)) Q := fun L S0 σ τ S Qv E k =>
  h L S0 σ τ S _ E fun Γ1 S1 vx x E1 h1 => h1 L S0 σ τ S1 vx Qv E1 k
theorem ve_c2 {r : List V → Hp → VK → Prop} {ta tb : TE} {Q : List Cell → Tmp → Prop} (h : VE K Γ Θ ta fun Γ1 x => VE K Γ1 (x :: Θ) tb fun Γ2 y => C2V K r Γ2 Θ x y Q) : VE K Γ Θ (tCB r (tCons ta (tCons tb tNil))) Q := fun L S0 σ τ S Qv E k =>
  h L S0 σ τ S _ E fun Γ1 S1 vx x E1 h1 => h1 L S0 σ _ S1 _ E1 fun Γ2 S2 vy y E2 h2 => h2 L S0 σ τ S2 vx vy Qv E2 k
def rLenSeq (K : PySem.W.Frag) : List V → Hp → VK → Prop := fun xs H Q => ∃ p ys, xs = [.ref p] ∧ (SqL K H p ys ∨ SqT K H p ys) ∧ Q (.int ys.length) H
theorem cl_len {X : Cx} : CallR X (.builtin "len") (rLenSeq X.K) := call_len_seq
theorem c1_len {x : Tmp} {ds : List Dat} {Q : List Cell → Tmp → Prop} (hx : SeqD Γ x ds) (q : Q Γ (.dt (.int ds.length))) : C1V K (rLenSeq K) Γ Θ x Q := fun L S0 σ τ S vx Qv E k => by
  obtain ⟨a, xs, e, h, p⟩ := seqD_ok E hx
  exact ⟨a, xs, by rw [e], h, by rw [p.len]; exact k Γ S _ _ (E.pop.push (.int _)) q⟩
theorem c1_lenS {ns : List Int} {Q : List Cell → Tmp → Prop} (q : Q Γ (.dt (.int ns.length))) : C1V K (rLenSeq K) Γ Θ (.sc ns) Q := fun L S0 σ τ S vx Qv E k => by
  obtain ⟨w, a, ea, hs⟩ := E.top
  exact ⟨a, _, by rw [ea], .inl (E.sub.seq hs), by rw [List.length_map]; exact k Γ S _ _ (E.pop.push (.int _)) q⟩
def rMx2 : List V → Hp → VK → Prop := fun xs H Q => ∃ i j, xs = [.int i, .int j] ∧ Q (.int (if j > i then j else i)) H
def rMn2 : List V → Hp → VK → Prop := fun xs H Q => ∃ i j, xs = [.int i, .int j] ∧ Q (.int (if j < i then j else i)) H
theorem cl_max2 {X : Cx} (hc : X.calm = true) : CallR X (.builtin "max") rMx2 := call_max2 hc
theorem cl_min2 {X : Cx} (hc : X.calm = true) : CallR X (.builtin "min") rMn2 := call_min2 hc
theorem c2_max {i j : Int} {Q : List Cell → Tmp → Prop} (q : Q Γ (.dt (.int (max i j)))) : C2V K rMx2 Γ Θ (.dt (.int i)) (.dt (.int j)) Q := fun L S0 σ τ S vx vy Qv E k =>
  ⟨i, j, by rw [dp_int E.dt, dp_int E.pop.dt], by
    rw [show (if j > i then j else i) = max i j by split <;> omega]
    exact k Γ S _ _ (E.pop.pop.push (.int _)) q⟩
theorem c2_min {i j : Int} {Q : List Cell → Tmp → Prop} (q : Q Γ (.dt (.int (min i j)))) : C2V K rMn2 Γ Θ (.dt (.int i)) (.dt (.int j)) Q := fun L S0 σ τ S vx vy Qv E k =>
  ⟨i, j, by rw [dp_int E.dt, dp_int E.pop.dt], by
    rw [show (if j < i then j else i) = min i j by split <;> omega]
    exact k Γ S _ _ (E.pop.pop.push (.int _)) q⟩
theorem intsL {L : Addr → Prop} {S0 S : Hs} {σ : L2.St} {τ : List V} {v : V} {c : Tmp} {ns : List Int} (E : Env K L S0 Γ (c :: Θ) σ (v :: τ) S) (h : rd Γ c (.list (ns.map .int))) : ∃ a, v = .ref a ∧ SqL K S.h a (ns.map V.int) := by
  obtain ⟨a, xs, e, q, p⟩ := dp_list (E.rd h)
  rw [dpa_ints p] at q
  exact ⟨a, e, .of q⟩
theorem c1_sum {x : Tmp} {ns : List Int} {Q : List Cell → Tmp → Prop} (hx : rd Γ x (.list (ns.map .int))) (q : Q Γ (.dt (.int ns.sum))) : C1V K (L2.rSum K) Γ Θ x Q := fun L S0 σ τ S vx Qv E k => by
  obtain ⟨a, e, h⟩ := intsL E hx
  exact ⟨a, ns, by rw [e], h, k Γ S _ _ (E.pop.push (.int _)) q⟩
theorem c1_max {x : Tmp} {ns : List Int} {Q : List Cell → Tmp → Prop} (hx : rd Γ x (.list (ns.map .int))) (h0 : 0 < ns.length) (q : ∀ m, m ∈ ns → (∀ y, y ∈ ns → y ≤ m) → Q Γ (.dt (.int m))) : C1V K (L2.rMax K) Γ Θ x Q := fun L S0 σ τ S vx Qv E k => by
  obtain ⟨a, e, h⟩ := intsL E hx
  exact ⟨a, ns, by rw [e], h, h0, fun m h1 h2 => k Γ S _ _ (E.pop.push (.int _)) (q m h1 h2)⟩
theorem c1_min {x : Tmp} {ns : List Int} {Q : List Cell → Tmp → Prop} (hx : rd Γ x (.list (ns.map .int))) (h0 : 0 < ns.length) (q : ∀ m, m ∈ ns → (∀ y, y ∈ ns → m ≤ y) → Q Γ (.dt (.int m))) : C1V K (L2.rMin K) Γ Θ x Q := fun L S0 σ τ S vx Qv E k => by
  obtain ⟨a, e, h⟩ := intsL E hx
  exact ⟨a, ns, by rw [e], h, h0, fun m h1 h2 => k Γ S _ _ (E.pop.push (.int _)) (q m h1 h2)⟩
theorem c1_sorted {x : Tmp} {ns : List Int} {Q : List Cell → Tmp → Prop} (hx : rd Γ x (.list (ns.map .int))) (q : ∀ ns' : List Int, ns'.Perm ns → ns'.Pairwise (· ≤ ·) → Q Γ (.fr (ns'.map .int))) : C1V K (L2.rSortedI K) Γ Θ x Q := fun L S0 σ τ S vx Qv E k => by
  obtain ⟨a, e, h⟩ := intsL E hx
  exact ⟨a, ns, by rw [e], h, fun ns' p h1 h2 hp => k Γ _ _ _ (E.pop.newLst hp (dpa_of_ints _)) (q ns' h1 h2)⟩
theorem boolsL {L : Addr → Prop} {S0 S : Hs} {σ : L2.St} {τ : List V} {v : V} {c : Tmp} {ns : List Bool} (E : Env K L S0 Γ (c :: Θ) σ (v :: τ) S) (h : rd Γ c (.list (ns.map .bool))) : ∃ a, v = .ref a ∧ SqL K S.h a (ns.map V.bl) := by
  obtain ⟨a, xs, e, q, p⟩ := dp_list (E.rd h)
  rw [dpa_bools p] at q
  exact ⟨a, e, .of q⟩
theorem c1_all {x : Tmp} {ns : List Bool} {Q : List Cell → Tmp → Prop} (hx : rd Γ x (.list (ns.map .bool))) (q : Q Γ (.dt (.bool (ns.all id)))) : C1V K (L2.rAll K) Γ Θ x Q := fun L S0 σ τ S vx Qv E k => by
  obtain ⟨a, e, h⟩ := boolsL E hx
  exact ⟨a, ns, by rw [e], h, k Γ S _ _ (E.pop.push (.bl _)) q⟩
def rInt1 : List V → Hp → VK → Prop := fun xs H Q => (∃ i, xs = [.int i] ∧ Q (.int i) H) ∨ ∃ k, xs = [.bl k] ∧ Q (.int (if k then 1 else 0)) H
theorem cl_int {X : Cx} : CallR X (.type "int") rInt1 := call_int1
theorem c1_intB {b : Bool} {Q : List Cell → Tmp → Prop} (q : Q Γ (.dt (.int (if b then 1 else 0)))) : C1V K rInt1 Γ Θ (.dt (.bool b)) Q := fun L S0 σ τ S vx Qv E k =>
  .inr ⟨b, by rw [dp_bool E.dt], k Γ S _ _ (E.pop.push (.int _)) q⟩
theorem c1_intI {b : Int} {Q : List Cell → Tmp → Prop} (q : Q Γ (.dt (.int b))) : C1V K rInt1 Γ Θ (.dt (.int b)) Q := fun L S0 σ τ S vx Qv E k =>
  .inl ⟨b, by rw [dp_int E.dt], k Γ S _ _ (E.pop.push (.int _)) q⟩
def rListOf (K : PySem.W.Frag) : List V → Hp → VK → Prop := fun xs H Q => ∃ p ys, xs = [.ref p] ∧ (SqL K H p ys ∨ SqT K H p ys) ∧ ∀ l, H l = none → Q (.ref l) (upd H l (.lst ys))
theorem cl_list {X : Cx} : CallR X (.type "list") (rListOf X.K) := call_list_of
theorem rdB_l {L : Addr → Prop} {S0 S : Hs} {σ : L2.St} {τ : List V} {v : V} {c : Tmp} {ds : List Dat} (E : Env K L S0 Γ (c :: Θ) σ (v :: τ) S) (h : rd Γ c (.list ds)) : ∃ a us, v = .ref a ∧ S.h a = some (.lst us) ∧ DqAll S.b us ds := by
  obtain ⟨w, h1, z, h2⟩ := E.ok
  cases c with
  | dt e => cases h; obtain ⟨a, xs, e, q, p⟩ := dp_list (show Dq S.b v (.list ds) from z); exact ⟨a, xs, e, E.sub _ _ q, p⟩
  | fr es => cases h; obtain ⟨a, e, o, _⟩ := z; obtain ⟨_, _, us, q, p⟩ := o; exact ⟨a, us, e, q, p⟩
  | sc ns => exact h.elim
  | ob pp => exact h.elim
  | li R => exact h.elim
  | br i =>
    have z' : σ[i]? = some (some v) := z
    rcases h with h | ⟨es, e, h⟩
    · obtain ⟨u, e, q⟩ := h1 i _ h
      rw [z'] at e; cases e
      obtain ⟨a, xs, e, q, p⟩ := dp_list q
      exact ⟨a, xs, e, E.sub _ _ q, p⟩
    · cases e
      rcases h with h | h
      · obtain ⟨a, e, o, _⟩ := h1 i _ h
        rw [z'] at e; cases e
        obtain ⟨_, _, us, q, p⟩ := o
        exact ⟨a, us, rfl, q, p⟩
      · obtain ⟨a, e, o, _⟩ := h1 i _ h
        rw [z'] at e; cases e
        obtain ⟨_, _, us, q, p⟩ := o
        exact ⟨a, us, rfl, q, p⟩
theorem c1_listL {x : Tmp} {ds : List Dat} {Q : List Cell → Tmp → Prop} (hx : rd Γ x (.list ds)) (q : Q Γ (.fr ds)) : C1V K (rListOf K) Γ Θ x Q := fun L S0 σ τ S vx Qv E k => by
  obtain ⟨a, us, e, h, p⟩ := rdB_l E hx
  exact ⟨a, us, by rw [e], .inl (.of h), fun l hl => k Γ _ _ _ (E.pop.newLst hl p) q⟩
theorem c1_listT {ds : List Dat} {Q : List Cell → Tmp → Prop} (q : Q Γ (.fr ds)) : C1V K (rListOf K) Γ Θ (.dt (.tuple ds)) Q := fun L S0 σ τ S vx Qv E k => by
  obtain ⟨a, o, us, e, _, h, p⟩ := dp_tup E.dt
  exact ⟨a, us, by rw [e], .inr (sqt_f (E.sub _ _ h)), fun l hl => k Γ _ _ _ (E.pop.newLst hl p) q⟩
theorem c1_tupL {x : Tmp} {ds : List Dat} {Q : List Cell → Tmp → Prop} (hx : rd Γ x (.list ds)) (q : Q Γ (.dt (.tuple ds))) : C1V K (rTupOfF K) Γ Θ x Q := fun L S0 σ τ S vx Qv E k => by
  obtain ⟨a, us, e, h, p⟩ := rdB_l E hx
  exact ⟨a, us, by rw [e], .inl ⟨.of h, fun l o hd hl => k Γ _ _ _ (E.pop.newTup hd hl p) q⟩⟩
theorem c1_tupT {ds : List Dat} {Q : List Cell → Tmp → Prop} (q : Q Γ (.dt (.tuple ds))) : C1V K (rTupOfF K) Γ Θ (.dt (.tuple ds)) Q := fun L S0 σ τ S vx Qv E k => by
  obtain ⟨a, o, us, e, hd, h, p⟩ := dp_tup E.dt
  exact ⟨a, us, by rw [e], .inr ⟨sqt_f (E.sub _ _ h), k Γ S _ _ (E.pop.push (.tup hd h p)) q⟩⟩
/-! ### len(set(..)), reversed copies, slices -/
theorem ve_lenSet {ta : TE} {Q : List Cell → Tmp → Prop} (h : VE K Γ Θ ta fun Γ1 x => ∃ ns : List Int, rd Γ1 x (.list (ns.map .int)) ∧ ns.Nodup ∧ ns.length ≤ 4000 ∧ Q Γ1 (.dt (.int ns.length))) : VE K Γ Θ (RZ.tLenSetI K ta) Q := fun L S0 σ τ S Qv E k => h L S0 σ τ S _ E fun Γ1 S1 v x E1 ⟨ns, hx, h1, h2, q⟩ => by
  obtain ⟨a, e, h⟩ := intsL E1 hx
  exact ⟨a, ns, e, h, h1, h2, k Γ1 S1 _ _ (E1.pop.push (.int _)) q⟩
theorem ve_revL {ta : TE} {Q : List Cell → Tmp → Prop} (h : VE K Γ Θ ta fun Γ1 x => ∃ ds, rd Γ1 x (.list ds) ∧ Q Γ1 (.fr ds.reverse)) : VE K Γ Θ (tRevL K ta) Q := fun L S0 σ τ S Qv E k => h L S0 σ τ S _ E fun Γ1 S1 v x E1 ⟨ds, hx, q⟩ => by
  obtain ⟨a, us, e, h, p⟩ := rdB_l E1 hx
  exact ⟨a, us, e, .of h, fun l hl => k Γ1 _ _ _ (E1.pop.newLst hl p.rev) q⟩
theorem vo_none {Q : List Cell → Option Int → Prop} (q : Q Γ none) : VO K Γ Θ tNoPart Q := fun L S0 σ τ S Qv E k => k Γ S none E q
theorem vo_some {te : TE} {Q : List Cell → Option Int → Prop} (h : VE K Γ Θ te fun Γ1 x => ∃ i, x = .dt (.int i) ∧ Q Γ1 (some i)) : VO K Γ Θ (tPart te) Q := fun L S0 σ τ S Qv E k => h L S0 σ τ S _ E fun Γ1 S1 v x E1 ⟨i, ex, q⟩ => by
  subst ex
  exact ⟨i, dp_int E1.dt, k Γ1 S1 (some i) E1.pop q⟩
def cutD (xs : List Dat) (lo hi : Option Int) : List Dat := (xs.drop (HT.sIx xs.length 0 lo)).take (HT.sIx xs.length xs.length hi - HT.sIx xs.length 0 lo)
theorem dqa_cut {H : Hp} {vs : List V} {ds : List Dat} (h : DqAll H vs ds) (lo hi : Option Int) : DqAll H (cutV vs lo hi) (cutD ds lo hi) := by
  unfold cutV cutD
  rw [h.len]
  exact (h.drop _).take _
theorem ve_slL {te : TE} {tl th : TO} {Q : List Cell → Tmp → Prop} (h : VE K Γ Θ te fun Γ1 x => VO K Γ1 (x :: Θ) tl fun Γ2 lo => VO K Γ2 (x :: Θ) th fun Γ3 hi => ∃ ds, rd Γ3 x (.list ds) ∧ Q Γ3 (.fr (cutD ds lo hi))) : VE K Γ Θ (tSl (rSlL K) te tl th) Q := fun L S0 σ τ S Qv E k =>
  h L S0 σ τ S _ E fun Γ1 S1 v x E1 h1 => h1 L S0 σ _ S1 _ E1 fun Γ2 S2 lo E2 h2 => h2 L S0 σ _ S2 _ E2 fun Γ3 S3 hi E3 ⟨ds, hx, q⟩ => by
    obtain ⟨a, us, e, h, p⟩ := rdB_l E3 hx
    exact ⟨a, us, e, .of h, fun l hl => k Γ3 _ _ _ (E3.pop.newLst hl (dqa_cut p lo hi)) q⟩
theorem cutD_whole {ds : List Dat} {lo hi : Option Int} (h : HT.sIx ds.length 0 lo = 0 ∧ HT.sIx ds.length ds.length hi = ds.length) : cutD ds lo hi = ds := by
  unfold cutD
  rw [h.1, h.2, List.drop_zero, Nat.sub_zero, List.take_length]
theorem ve_slT {te : TE} {tl th : TO} {Q : List Cell → Tmp → Prop} (h : VE K Γ Θ te fun Γ1 x => VO K Γ1 (x :: Θ) tl fun Γ2 lo => VO K Γ2 (x :: Θ) th fun Γ3 hi => ∃ ds, x = .dt (.tuple ds) ∧ Q Γ3 (.dt (.tuple (cutD ds lo hi)))) : VE K Γ Θ (tSl (rSlF K) te tl th) Q := fun L S0 σ τ S Qv E k =>
  h L S0 σ τ S _ E fun Γ1 S1 v x E1 h1 => h1 L S0 σ _ S1 _ E1 fun Γ2 S2 lo E2 h2 => h2 L S0 σ _ S2 _ E2 fun Γ3 S3 hi E3 ⟨ds, hx, q⟩ => by
    subst hx
    obtain ⟨a, o, us, e, hd, h, p⟩ := dp_tup E3.dt
    refine ⟨a, us, e, sqt_f (E3.sub _ _ h), fun w => ?_, fun _ l o hd hl => k Γ3 _ _ _ (E3.pop.newTup hd hl (dqa_cut p lo hi)) q⟩
    rw [p.len] at w
    rw [cutD_whole w] at q
    exact k Γ3 S3 _ _ (E3.pop.push (.tup hd h p)) q
/-- t.index(x) -/
theorem ve_tidx {ta te : TE} {Q : List Cell → Tmp → Prop}
    (h : VE K Γ Θ ta fun Γ1 x => ∃ ds, x = .dt (.tuple ds) ∧ VE K Γ1 (x :: Θ) te fun Γ2 y => ∃ d j z, rd Γ2 y d ∧ flD d = true ∧ ds.all flD = true ∧ ds[j]? = some z ∧ eqF z d = true ∧ (∀ (m : Nat) z', m < j → ds[m]? = some z' → eqF z' d = false) ∧ Q Γ2 (.dt (.int (j : Nat)))) :
    VE K Γ Θ (tTIdx ta te) Q := fun L S0 σ τ S Qv E k => h L S0 σ τ S _ E fun Γ1 S1 vx x E1 ⟨ds, ex, h1⟩ => by
  subst ex
  obtain ⟨a, o, us, ea, hd, hu, pu⟩ := dp_tup E1.dt
  subst ea
  refine ⟨⟨a, o, us, rfl, hd, E1.sub _ _ hu⟩, h1 L S0 σ _ S1 _ E1 fun Γ2 S2 vy y E2 ⟨d, j, z, hy, f1, f2, hj, hz, hno, q⟩ => ?_⟩
  obtain ⟨a', o', zs, ea, hd', hs, p⟩ := dp_tup E2.pop.dt
  cases ea
  have p' := dpa_mono E2.sub _ _ p
  have gy := E2.rd hy
  obtain ⟨v, hv, gv⟩ := p'.get hj
  have fz : flD z = true := List.all_eq_true.mp f2 z (List.mem_of_getElem? hj)
  refine ⟨vy, rfl, a, o', zs, j, v, rfl, hd', E2.sub _ _ hs, dq_flat gy f1, dqa_flat p' f2, hv, (dq_eqF gv gy fz f1).trans hz, fun m z' hm hm' => ?_, k Γ2 S2 _ _ (E2.pop.pop.push (.int _)) q⟩
  obtain ⟨d', hd', gd'⟩ := p'.getV hm'
  rw [dq_eqF gd' gy (List.all_eq_true.mp f2 d' (List.mem_of_getElem? hd')) f1]
  exact hno m d' hm hd'
/-! ### methods of a list in a slot -/
theorem ve_append {i : Nat} {te : TE} {Q : List Cell → Tmp → Prop} (h0 : ∃ ds, IsLs Γ i ds) (h : VX K Γ Θ te fun Γ1 a => ∃ d ds, a = .dt d ∧ IsLs Γ1 i ds ∧ ds.length < sizeLine ∧ Q (putC Γ1 i (ds ++ [d])) (.dt .none)) : VE K Γ Θ (tBM K "list" rAppend (tVar i) (tCons te tNil)) Q := fun L S0 σ τ S Qv E k => by
  obtain ⟨ds0, c0, hc0, hl0⟩ := h0
  obtain ⟨a, ea, _, us, hu, _⟩ := E.own hc0 hl0
  refine ⟨_, ea, .inl ⟨rfl, us, .of hu⟩, h L S0 σ τ S _ E fun Γ1 S1 v x E1 ⟨d, ds, ex, ⟨c, hc, hl⟩, hz, q⟩ => ?_⟩
  subst ex
  obtain ⟨a', vs, ea', hv, p, mk⟩ := E1.pop.mutSlot hc hl
  rw [ea] at ea'; cases ea'
  have hd : Dq S1.b v d := E1.dt
  rw [putC_eq hc] at q
  exact ⟨a, vs, v, rfl, rfl, hv, by rw [p.len]; exact hz, k _ _ _ _ ((mk _ _ (p.app (.one hd))).push .non) q⟩
def rInsert : V → List V → Hp → VK → Prop := fun x vs H Q => ∃ (l : Addr) (xs : List V) (i : Int) (y : V), x = .ref l ∧ vs = [.int i, y] ∧ H l = some (.lst xs) ∧ xs.length < sizeLine ∧ 0 ≤ i ∧ i < 2 ^ 63 ∧ Q .non (upd H l (.lst (xs.take i.toNat ++ [y] ++ xs.drop i.toNat)))
theorem cm_insert {X : Cx} : MtR X "list.insert" rInsert := mt_insert
theorem ve_insert {i : Nat} {ti te : TE} {Q : List Cell → Tmp → Prop} (h0 : ∃ ds, IsLs Γ i ds)
    (h : VX K Γ Θ ti fun Γ1 b => VX K Γ1 (b.tmp :: Θ) te fun Γ2 a => ∃ j d ds, b = .dt (.int j) ∧ a = .dt d ∧ IsLs Γ2 i ds ∧ ds.length < sizeLine ∧ 0 ≤ j ∧ j < 2 ^ 63 ∧ Q (putC Γ2 i (ds.take j.toNat ++ [d] ++ ds.drop j.toNat)) (.dt .none)) :
    VE K Γ Θ (tBM K "list" rInsert (tVar i) (tCons ti (tCons te tNil))) Q := fun L S0 σ τ S Qv E k => by
  obtain ⟨ds0, c0, hc0, hl0⟩ := h0
  obtain ⟨a, ea, _, us, hu, _⟩ := E.own hc0 hl0
  refine ⟨_, ea, .inl ⟨rfl, us, .of hu⟩, h L S0 σ τ S _ E fun Γ1 S1 vj b E1 h1 => h1 L S0 σ _ S1 _ E1 fun Γ2 S2 v x E2 ⟨j, d, ds, eb, ex, ⟨c, hc, hl⟩, hz, hj0, hj1, q⟩ => ?_⟩
  subst ex eb
  obtain ⟨a', vs, ea', hv, p, mk⟩ := E2.pop.pop.mutSlot hc hl
  rw [ea] at ea'; cases ea'
  have hd : Dq S2.b v d := E2.dt
  have ej : vj = .int j := dp_int (show Dq S2.b vj (.int j) from E2.pop.dt)
  rw [putC_eq hc] at q
  exact ⟨a, vs, j, v, rfl, by rw [ej], hv, by rw [p.len]; exact hz, hj0, hj1, k _ _ _ _ ((mk _ _ (((p.take _).app (.one hd)).app (p.drop _))).push .non) q⟩
theorem ve_extend {i : Nat} {te : TE} {Q : List Cell → Tmp → Prop} (h0 : ∃ ds, IsLs Γ i ds) (h : VX K Γ Θ te fun Γ1 a => ∃ es ds, a = .dt (.list es) ∧ IsLs Γ1 i ds ∧ ds.length + es.length ≤ sizeLine ∧ Q (putC Γ1 i (ds ++ es)) (.dt .none)) : VE K Γ Θ (tBM K "list" rExtend (tVar i) (tCons te tNil)) Q := fun L S0 σ τ S Qv E k => by
  obtain ⟨ds0, c0, hc0, hl0⟩ := h0
  obtain ⟨a, ea, _, us, hu, _⟩ := E.own hc0 hl0
  refine ⟨_, ea, .inl ⟨rfl, us, .of hu⟩, h L S0 σ τ S _ E fun Γ1 S1 v x E1 ⟨es, ds, ex, ⟨c, hc, hl⟩, hz, q⟩ => ?_⟩
  subst ex
  obtain ⟨a', vs, ea', hv, p, mk⟩ := E1.pop.mutSlot hc hl
  rw [ea] at ea'; cases ea'
  obtain ⟨b, zs, eb, hb, pb⟩ := dp_list (show Dq S1.b v (.list es) from E1.dt)
  rw [putC_eq hc] at q
  exact ⟨a, b, vs, zs, rfl, by rw [eb], hv, E1.sub _ _ hb, by rw [p.len, pb.len]; exact hz, k _ _ _ _ ((mk _ _ (p.app pb)).push .non) q⟩
/-- l.index(x), flat -/
theorem ve_indexL {ta te : TE} {Q : List Cell → Tmp → Prop}
    (h : VE K Γ Θ ta fun Γ1 x => (∃ ds, rd Γ1 x (.list ds)) ∧ VE K Γ1 (x :: Θ) te fun Γ2 y => ∃ ds d j z, rd Γ2 x (.list ds) ∧ rd Γ2 y d ∧ flD d = true ∧ ds.all flD = true ∧ ds[j]? = some z ∧ eqF z d = true ∧ (∀ (m : Nat) z', m < j → ds[m]? = some z' → eqF z' d = false) ∧ Q Γ2 (.dt (.int (j : Nat)))) :
    VE K Γ Θ (tBM K "list" (rIndex K) ta (tCons te tNil)) Q := fun L S0 σ τ S Qv E k => h L S0 σ τ S _ E fun Γ1 S1 vx x E1 ⟨⟨ds0, hx0⟩, h1⟩ => by
  obtain ⟨a, us, ea, hu, _⟩ := rdB_l E1 hx0
  subst ea
  refine ⟨.inl ⟨rfl, us, .of hu⟩, h1 L S0 σ _ S1 _ E1 fun Γ2 S2 vy y E2 ⟨ds, d, j, z, hx, hy, f1, f2, hj, hz, hno, q⟩ => ?_⟩
  obtain ⟨a', zs, ea, hs, p⟩ := dp_list (E2.pop.rd hx)
  cases ea
  have gy := E2.rd hy
  obtain ⟨v, hv, gv⟩ := p.get hj
  have fz : flD z = true := List.all_eq_true.mp f2 z (List.mem_of_getElem? hj)
  refine ⟨a, zs, vy, j, v, rfl, rfl, .of hs, dq_flat gy f1, dqa_flat p f2, hv, (dq_eqF gv gy fz f1).trans hz, fun m z' hm hm' => ?_, k Γ2 S2 _ _ (E2.pop.pop.push (.int _)) q⟩
  obtain ⟨d', hd', gd'⟩ := p.getV hm'
  rw [dq_eqF gd' gy (List.all_eq_true.mp f2 d' (List.mem_of_getElem? hd')) f1]
  exact hno m d' hm hd'
end
end Ld
set_option Elab.async false
set_option linter.all false
set_option maxRecDepth 100000
namespace Ld
open PySem PySem.Spec PyProof.Rows L2 Lx
/-! ### statements: what is under way are the sources of the loops around -/
def srcT (ss : List Dat) : List Tmp := ss.map .dt
theorem nb_src {i : Nat} {ss : List Dat} : ∀ t ∈ srcT ss, t ≠ Tmp.br i := fun t ht e => by
  obtain ⟨d, _, rfl⟩ := List.mem_map.mp ht
  cases e
def VSs (K : PySem.W.Frag) (Γ : List Cell) (t : TS) (R : DE) : Prop := ∀ ss : List Dat, VS K Γ (srcT ss) t R
section
variable {K : PySem.W.Frag} {Γ : List Cell} {Θ : List Tmp}
abbrev DE.wn (R : DE) (n : List Cell → Prop) : DE := { R with nx := n }
theorem ss_seq {t u : TS} {R : DE} (h : VSs K Γ t (R.wn fun Γ' => VSs K Γ' u R)) : VSs K Γ (tSeq t u) R := fun ss L S0 σ τ S D E kn kr kb kc =>
  h ss L S0 σ τ S { D with nx := u D } E (fun Γ' σ' S' E' q => q ss L S0 σ' τ S' D E' kn kr kb kc) kr kb kc
theorem ss_next {R : DE} (h : R.nx Γ) : VSs K Γ tNext R := fun ss L S0 σ τ S D E kn kr kb kc => kn Γ σ S E h
theorem ss_cont {R : DE} (h : R.ct Γ) : VSs K Γ tCont R := fun ss L S0 σ τ S D E kn kr kb kc => kc Γ σ S E h
theorem ss_ret {te : TE} {R : DE} (h : ∀ ss, VD K Γ (srcT ss) te R.rt) : VSs K Γ (tRet te) R := fun ss L S0 σ τ S D E kn kr kb kc =>
  h ss L S0 σ τ S D.rt E fun Γ' S' v d E' q => kr Γ' σ S' v d E'.pop E'.dt q
theorem ss_retN {R : DE} (h : R.rt Γ .none) : VSs K Γ tRetN R := fun ss L S0 σ τ S D E kn kr kb kc => kr Γ σ S .non .none E .non h
theorem ss_drop {te : TE} {R : DE} (h : ∀ ss, VE K Γ (srcT ss) te fun Γ1 _ => R.nx Γ1) : VSs K Γ (tDrop te) R := fun ss L S0 σ τ S D E kn kr kb kc =>
  h ss L S0 σ τ S _ E fun Γ' S' v c E' q => kn Γ' σ S' E'.pop q
theorem ss_if {c : TT} {t u : TS} {R : DE} (h : ∀ ss, VT K Γ (srcT ss) c fun Γ1 b => (b = true → VSs K Γ1 t R) ∧ (b = false → VSs K Γ1 u R)) : VSs K Γ (tIfS c t u) R := fun ss L S0 σ τ S D E kn kr kb kc =>
  h ss L S0 σ τ S _ E fun Γ' S' b E' q => by
    cases b with
    | true => rw [if_pos rfl]; exact q.1 rfl ss L S0 σ τ S' D E' kn kr kb kc
    | false => rw [if_neg Bool.false_ne_true]; exact q.2 rfl ss L S0 σ τ S' D E' kn kr kb kc
/-- a stored value's cell -/
def Sto (Γ : List Cell) (i : Nat) (Q : List Cell → Prop) : Tmp → Prop
  | .dt d => Q (Γ.set i (.dt d))
  | .fr ds => Q (Γ.set i (.ow ds))
  | .br j => ∃ ds, Γ[j]? = some (.ow ds) ∧ Q ((Γ.set j (.dt (.list ds))).set i (.dt (.list ds)))
  | .sc _ => False
  | .ob p => Q (Γ.set i (.ob p))
  | .li R => Q (Γ.set i (.li R))
theorem ss_set {i : Nat} {te : TE} {R : DE} (h : ∀ ss, VE K Γ (srcT ss) te fun Γ1 c => Sto Γ1 i R.nx c) : VSs K Γ (tAsg te (gName i)) R := fun ss L S0 σ τ S D E kn kr kb kc =>
  h ss L S0 σ τ S _ E fun Γ' S' v c E' q => by
    cases c with
    | dt d => exact kn _ _ S' (E'.pop.setDt nb_src E'.dt) q
    | fr ds => exact kn _ _ S' (E'.setFr nb_src) q
    | sc ns => exact q.elim
    | ob pp => exact kn _ _ S' (E'.setOb nb_src) q
    | li R => exact kn _ _ S' (E'.setLi nb_src) q
    | br j =>
      obtain ⟨ds, hj, q⟩ := q
      obtain ⟨S2, e, E2⟩ := E'.frzSlot hj
      obtain ⟨w, h1, z2, h2⟩ := id E2.ok
      obtain ⟨u, eu, qu⟩ := h1 j _ (List.getElem?_set_self (List.getElem?_eq_some_iff.mp hj).1)
      have z2' : σ[j]? = some (some v) := z2
      rw [z2'] at eu; cases eu
      show D.nx _ S'.h
      rw [← e]
      exact kn _ _ S2 (E2.pop.setDt nb_src qu) q
end
section
variable {K : PySem.W.Frag} {Γ : List Cell} {Θ : List Tmp} {L : Addr → Prop} {S0 S : Hs} {σ : L2.St} {τ : List V}
/-- what is second is taken out -/
theorem Env.swap {x y : Tmp} {u v : V} (E : Env K L S0 Γ (y :: x :: Θ) σ (v :: u :: τ) S) : Env K L S0 Γ (x :: y :: Θ) σ (u :: v :: τ) S := by
  obtain ⟨w, g1, g3, g2, g4⟩ := E.ok
  refine ⟨E.gr, E.sub, E.len, fun a => match w a with
    | some (.inr n) => if n = Θ.length then some (.inr (n + 1)) else if n = Θ.length + 1 then some (.inr Θ.length) else some (.inr n)
    | o => o, fun i c e => ?_, ?_, ?_, g4.imp fun n t q hn z => ?_⟩
  · have q := g1 i c e
    cases c with
    | no => trivial
    | dt d => exact q
    | ow ds => obtain ⟨a, e, o, n⟩ := q; exact ⟨a, e, ⟨o.nb, by simp only [o.at_], o.is⟩, n⟩
    | ln ds => obtain ⟨a, e, o, n⟩ := q; exact ⟨a, e, ⟨o.nb, by simp only [o.at_], o.is⟩, n⟩
    | sc ns => exact q
    | ob pp => obtain ⟨a, e, o, n⟩ := q; exact ⟨a, e, ⟨o.nb, by simp only [o.at_], o.is⟩, n⟩
    | li R => obtain ⟨a, e, o⟩ := q; exact ⟨a, e, o.reK (fun x ho => by simp only [ho]) fun _ h => h⟩
  · cases x with
    | dt d => exact g2
    | fr ds => obtain ⟨a, e, o, n⟩ := g2; exact ⟨a, e, ⟨o.nb, by simp only [o.at_, if_pos, List.length_cons], o.is⟩, n⟩
    | br i => exact g2
    | sc ns => exact g2
    | ob pp => obtain ⟨a, e, o, n⟩ := g2; exact ⟨a, e, ⟨o.nb, by simp only [o.at_, if_pos, List.length_cons], o.is⟩, n⟩
    | li R => obtain ⟨a, e, o⟩ := g2; exact ⟨a, e, o.reK (fun x ho => by simp only [ho, if_pos, List.length_cons]) fun _ h => h⟩
  · cases y with
    | dt d => exact g3
    | fr ds => obtain ⟨a, e, o, n⟩ := g3; exact ⟨a, e, ⟨o.nb, by simp only [o.at_, List.length_cons, if_neg (Nat.succ_ne_self _), if_pos], o.is⟩, n⟩
    | br i => exact g3
    | sc ns => exact g3
    | ob pp => obtain ⟨a, e, o, n⟩ := g3; exact ⟨a, e, ⟨o.nb, by simp only [o.at_, List.length_cons, if_neg (Nat.succ_ne_self _), if_pos], o.is⟩, n⟩
    | li R => obtain ⟨a, e, o⟩ := g3; exact ⟨a, e, o.reK (fun x ho => by simp only [ho, List.length_cons, if_neg (Nat.succ_ne_self _), if_pos]) fun _ h => h⟩
  · cases q with
    | dt d => exact z
    | fr ds => obtain ⟨a, e, o, m⟩ := z; exact ⟨a, e, ⟨o.nb, by simp only [o.at_, if_neg (Nat.ne_of_lt hn), if_neg (Nat.ne_of_lt (Nat.lt_succ_of_lt hn))], o.is⟩, m⟩
    | br i => exact z
    | sc ns => exact z
    | ob pp => obtain ⟨a, e, o, m⟩ := z; exact ⟨a, e, ⟨o.nb, by simp only [o.at_, if_neg (Nat.ne_of_lt hn), if_neg (Nat.ne_of_lt (Nat.lt_succ_of_lt hn))], o.is⟩, m⟩
    | li R => obtain ⟨a, e, o⟩ := z; exact ⟨a, e, o.reK (fun x ho => by simp only [ho, if_neg (Nat.ne_of_lt hn), if_neg (Nat.ne_of_lt (Nat.lt_succ_of_lt hn))]) fun _ h => h⟩
/-- data or a new list, stored -/
def St1 (Γ : List Cell) (i : Nat) : Tmp → Option (List Cell)
  | .dt d => some (Γ.set i (.dt d))
  | .fr ds => some (Γ.set i (.ow ds))
  | .ob p => some (Γ.set i (.ob p))
  | .li R => some (Γ.set i (.li R))
  | _ => none
theorem Env.st1 {i : Nat} {c : Tmp} {v : V} {Γ' : List Cell} (E : Env K L S0 Γ (c :: Θ) σ (v :: τ) S) (hb : ∀ t ∈ Θ, t ≠ .br i) (h : St1 Γ i c = some Γ') : Env K L S0 Γ' Θ (σ.set i (some v)) τ S := by
  cases c with
  | dt d => cases h; exact E.pop.setDt hb E.dt
  | fr ds => cases h; exact E.setFr hb
  | br j => cases h
  | sc ns => cases h
  | ob pp => cases h; exact E.setOb hb
  | li R => cases h; exact E.setLi hb
end
section
variable {K : PySem.W.Frag} {Γ : List Cell} {Θ : List Tmp}
/-- a, b = x, y -/
theorem ss_par {i j : Nat} {ta tb : TE} {R : DE} (h : ∀ ss, VE K Γ (srcT ss) ta fun Γ1 x => VE K Γ1 (x :: srcT ss) tb fun Γ2 y => (∀ k, x ≠ .br k) ∧ ∃ Γ3 Γ4, St1 Γ2 i x = some Γ3 ∧ St1 Γ3 j y = some Γ4 ∧ R.nx Γ4) : VSs K Γ (tPar i j (tCons ta (tCons tb tNil))) R := fun ss L S0 σ τ S D E kn kr kb kc =>
  h ss L S0 σ τ S _ E fun Γ1 S1 u x E1 h1 => h1 L S0 σ _ S1 _ E1 fun Γ2 S2 v y E2 ⟨nx, Γ3, Γ4, e3, e4, q⟩ => by
    refine ⟨u, v, rfl, ?_⟩
    have ny : y ≠ .br i := fun z => by subst z; cases e4
    exact kn Γ4 _ S2 (((E2.swap).st1 (fun t ht => by
      rcases List.mem_cons.mp ht with rfl | ht
      · exact ny
      · exact nb_src t ht) e3).st1 nb_src e4) q
theorem ss_par3 {i j l : Nat} {ta tb tc : TE} {R : DE} (h : ∀ ss, VE K Γ (srcT ss) ta fun Γ1 x => VE K Γ1 (x :: srcT ss) tb fun Γ2 y => VE K Γ2 (y :: x :: srcT ss) tc fun Γ3 z => ∃ Γ4 Γ5 Γ6, St1 Γ3 i x = some Γ4 ∧ St1 Γ4 j y = some Γ5 ∧ St1 Γ5 l z = some Γ6 ∧ R.nx Γ6) :
    VSs K Γ (tPar3 i j l (tCons ta (tCons tb (tCons tc tNil)))) R := fun ss L S0 σ τ S D E kn kr kb kc =>
  h ss L S0 σ τ S _ E fun Γ1 S1 u x E1 h1 => h1 L S0 σ _ S1 _ E1 fun Γ2 S2 v y E2 h2 => h2 L S0 σ _ S2 _ E2 fun Γ3 S3 w z E3 ⟨Γ4, Γ5, Γ6, e4, e5, e6, q⟩ => by
    refine ⟨u, v, w, rfl, ?_⟩
    have ny : ∀ k, y ≠ .br k := fun k z => by subst z; cases e5
    have nz : ∀ k, z ≠ .br k := fun k q => by subst q; cases e6
    -- z :: y :: x  ->  x first
    obtain ⟨wd, g1, gz, gy, gx, g4⟩ := id E3.ok
    have E4 : Env K L S0 Γ3 (y :: x :: srcT ss) σ (v :: u :: τ) S3 := E3.pop
    -- store z last: keep it by storing x, y under it
    have a1 : Env K L S0 Γ3 (y :: z :: x :: srcT ss) σ (v :: w :: u :: τ) S3 := E3.swap
    have a2 : ∃ E' : True, Env K L S0 Γ3 (x :: z :: y :: srcT ss) σ (u :: w :: v :: τ) S3 := by
      -- rotate by hand: the word w over the three places
      refine ⟨trivial, E3.gr, E3.sub, E3.len, fun a => match wd a with
        | some (.inr n) => if n = ss.length then some (.inr (n + 2)) else if n = ss.length + 1 then some (.inr ss.length) else if n = ss.length + 2 then some (.inr (ss.length + 1)) else some (.inr n)
        | o => o, fun i c e => ?_, ?_, ?_, ?_, g4.imp fun n t q hn z => ?_⟩
      · have q := g1 i c e
        cases c with
        | no => trivial
        | dt d => exact q
        | ow ds => obtain ⟨a, e, o, n⟩ := q; exact ⟨a, e, ⟨o.nb, by simp only [o.at_], o.is⟩, n⟩
        | ln ds => obtain ⟨a, e, o, n⟩ := q; exact ⟨a, e, ⟨o.nb, by simp only [o.at_], o.is⟩, n⟩
        | sc ns => exact q
        | ob pp => obtain ⟨a, e, o, n⟩ := q; exact ⟨a, e, ⟨o.nb, by simp only [o.at_], o.is⟩, n⟩
        | li R => obtain ⟨a, e, o⟩ := q; exact ⟨a, e, o.reK (fun x ho => by simp only [ho]) fun _ h => h⟩
      · cases x with
        | dt d => exact gx
        | fr ds => obtain ⟨a, e, o, n⟩ := gx; exact ⟨a, e, ⟨o.nb, by simp [o.at_, srcT] <;> omega, o.is⟩, n⟩
        | br i => exact gx
        | sc ns => exact gx
        | ob pp => obtain ⟨a, e, o, n⟩ := gx; exact ⟨a, e, ⟨o.nb, by simp [o.at_, srcT] <;> omega, o.is⟩, n⟩
        | li R => obtain ⟨a, e, o⟩ := gx; exact ⟨a, e, o.reK (fun x ho => by simp [ho, srcT] <;> omega) fun _ h => h⟩
      · cases z with
        | dt d => exact gz
        | fr ds => obtain ⟨a, e, o, n⟩ := gz; exact ⟨a, e, ⟨o.nb, by simp [o.at_, srcT] <;> omega, o.is⟩, n⟩
        | br i => exact gz
        | sc ns => exact gz
        | ob pp => obtain ⟨a, e, o, n⟩ := gz; exact ⟨a, e, ⟨o.nb, by simp [o.at_, srcT] <;> omega, o.is⟩, n⟩
        | li R => obtain ⟨a, e, o⟩ := gz; exact ⟨a, e, o.reK (fun x ho => by simp [ho, srcT] <;> omega) fun _ h => h⟩
      · cases y with
        | dt d => exact gy
        | fr ds => obtain ⟨a, e, o, n⟩ := gy; exact ⟨a, e, ⟨o.nb, by simp [o.at_, srcT] <;> omega, o.is⟩, n⟩
        | br i => exact gy
        | sc ns => exact gy
        | ob pp => obtain ⟨a, e, o, n⟩ := gy; exact ⟨a, e, ⟨o.nb, by simp [o.at_, srcT] <;> omega, o.is⟩, n⟩
        | li R => obtain ⟨a, e, o⟩ := gy; exact ⟨a, e, o.reK (fun x ho => by simp [ho, srcT] <;> omega) fun _ h => h⟩
      · have hn' : n < ss.length := by simpa [srcT] using hn
        cases q with
        | dt d => exact z
        | fr ds => obtain ⟨a, e, o, m⟩ := z; exact ⟨a, e, ⟨o.nb, by simp only [o.at_, if_neg (Nat.ne_of_lt hn'), if_neg (show n ≠ ss.length + 1 by omega), if_neg (show n ≠ ss.length + 2 by omega)], o.is⟩, m⟩
        | br i => exact z
        | sc ns => exact z
        | ob pp => obtain ⟨a, e, o, m⟩ := z; exact ⟨a, e, ⟨o.nb, by simp only [o.at_, if_neg (Nat.ne_of_lt hn'), if_neg (show n ≠ ss.length + 1 by omega), if_neg (show n ≠ ss.length + 2 by omega)], o.is⟩, m⟩
        | li R => obtain ⟨a, e, o⟩ := z; exact ⟨a, e, o.reK (fun x ho => by simp only [ho, if_neg (Nat.ne_of_lt hn'), if_neg (show n ≠ ss.length + 1 by omega), if_neg (show n ≠ ss.length + 2 by omega)]) fun _ h => h⟩
    obtain ⟨_, a2⟩ := a2
    have a3 := a2.st1 (Γ' := Γ4) (fun t ht => by
      rcases List.mem_cons.mp ht with rfl | ht
      · exact nz i
      · rcases List.mem_cons.mp ht with rfl | ht
        · exact ny i
        · exact nb_src t ht) e4
    have a4 := (a3.swap).st1 (Γ' := Γ5) (fun t ht => by
      rcases List.mem_cons.mp ht with rfl | ht
      · exact nz j
      · exact nb_src t ht) e5
    exact kn Γ6 _ S3 (a4.st1 nb_src e6) q
/-- xs[i] = e, a list of one's own -/
theorem ss_setL {j : Nat} {te ti : TE} {R : DE} (h : ∀ ss, VX K Γ (srcT ss) te fun Γ1 a => (∃ ds, IsLs Γ1 j ds) ∧ VE K Γ1 (a.tmp :: srcT ss) ti fun Γ2 y => ∃ d i ds k, a = .dt d ∧ y = .dt (.int i) ∧ IsLs Γ2 j ds ∧ ixN ds.length i = some k ∧ R.nx (putC Γ2 j (ds.set k d))) :
    VSs K Γ (tAsg te (gSub (tVar j) ti rSetL)) R := fun ss L S0 σ τ S D E kn kr kb kc => h ss L S0 σ τ S _ E fun Γ1 S1 v a E1 ⟨⟨ds0, c0, hc0, hl0⟩, h1⟩ => by
  obtain ⟨l, el, _⟩ := E1.own hc0 hl0
  refine ⟨_, el, h1 L S0 σ _ S1 _ E1 fun Γ2 S2 vi y E2 ⟨d, i, ds, k, ea, ey, ⟨c, hc, hl⟩, hk, q⟩ => ?_⟩
  subst ea ey
  obtain ⟨l', vs, el', hv, p, mk⟩ := E2.pop.pop.mutSlot hc hl
  rw [el] at el'; cases el'
  have hd : Dq S2.b v d := E2.pop.dt
  rw [putC_eq hc] at q
  exact ⟨l, vs, i, k, rfl, dp_int E2.dt, hv, by rw [p.len]; exact hk, kn _ _ _ (mk _ _ (p.set hd k)) q⟩
theorem dqa_one {H : Hp} {v : V} {d : Dat} (h : DqAll H [v] [d]) : Dq H v d := by cases h with | cons a _ => exact a
theorem dqa_two {H : Hp} {u v : V} {d e : Dat} (h : DqAll H [u, v] [d, e]) : Dq H u d ∧ Dq H v e := by cases h with | cons a b => exact ⟨a, dqa_one b⟩
theorem src_l {K : PySem.W.Frag} {S : Hs} {a : Addr} {ds : List Dat} (sub : Same S.b S.h) (h : Dq S.b (.ref a) (.list ds)) : ∃ ys, SqL K S.h a ys ∧ DqAll S.b ys ds := by
  obtain ⟨b, ys, eb, hy, py⟩ := dp_list h
  cases eb
  exact ⟨ys, SqL.of (sub _ _ hy), py⟩
theorem src_t {K : PySem.W.Frag} {S : Hs} {a : Addr} {ds : List Dat} (sub : Same S.b S.h) (h : Dq S.b (.ref a) (.tuple ds)) : ∃ ys, SqT K S.h a ys ∧ DqAll S.b ys ds := by
  obtain ⟨b, o, ys, eb, _, hy, py⟩ := dp_tup h
  cases eb
  exact ⟨ys, sqt_f (sub _ _ hy), py⟩
/-- an item that a loop gives: data, or a pair that was just made -/
def Itm (H : Hp) (v : V) (d : Dat) : Bool → Prop
  | false => Dq H v d
  | true => ∃ a xs ds, v = .ref a ∧ d = .tuple ds ∧ H a = some (.tup xs) ∧ DqAll H xs ds
/-! ### what a loop walks -/
structure Dw (K : PySem.W.Frag) (J : It) (srcs : List Dat) (τ1 : List V) (pr : Bool) (ds : List Dat) : Prop where
  go : ∀ (S : Hs) i, Same S.b S.h → DqAll S.b τ1 srcs → i < ds.length → J.go i S.h
  stop : ∀ (S : Hs), Same S.b S.h → DqAll S.b τ1 srcs → J.stop ds.length S.h
  yld : ∀ (S : Hs) i x H', Same S.b S.h → DqAll S.b τ1 srcs → i < ds.length → J.yld i S.h x H' → ∃ S' d, S'.h = H' ∧ Gr L0 S S' ∧ Same S'.b S'.h ∧ ds[i]? = some d ∧ Itm S'.b x d pr
def VI (K : PySem.W.Frag) (Γ : List Cell) (Θ : List Tmp) (wi : TI) (Q : List Cell → Bool → List Dat → Prop) : Prop := ∀ (L : Addr → Prop) (S0 : Hs) (σ : L2.St) (τ : List V) (S : Hs) (R : It → Hp → Prop), Env K L S0 Γ Θ σ τ S →
  (∀ Γ' srcs τ1 S' J pr ds, Env K L S0 Γ' (srcT srcs ++ Θ) σ (τ1 ++ τ) S' → τ1.length = srcs.length → Dw K J srcs τ1 pr ds → Q Γ' pr ds → R J S'.h) → wi σ S.h R
theorem srcs_ok {L : Addr → Prop} {S0 S : Hs} {σ : L2.St} {τ : List V} {w : Wh} : ∀ {srcs : List Dat} {τ1 : List V}, TmpsOk K S0 w S σ (srcT srcs ++ Θ) (τ1 ++ τ) → τ1.length = srcs.length → DqAll S.b τ1 srcs
  | [], [], _, _ => .nil
  | d :: ds, v :: vs, h, e => .cons h.1 (srcs_ok (L := L) h.2 (by simpa using e))
  | [], _ :: _, _, e => by cases e
  | _ :: _, [], _, e => by cases e
theorem Env.srcs {L : Addr → Prop} {S0 S : Hs} {σ : L2.St} {τ τ1 : List V} {srcs : List Dat} (E : Env K L S0 Γ (srcT srcs ++ Θ) σ (τ1 ++ τ) S) (e : τ1.length = srcs.length) : DqAll S.b τ1 srcs := by
  obtain ⟨w, _, h⟩ := E.ok
  exact srcs_ok (L := L) h e
theorem Env.unsrc {L : Addr → Prop} {S0 S : Hs} {σ : L2.St} {τ : List V} : ∀ {srcs : List Dat} {τ1 : List V}, Env K L S0 Γ (srcT srcs ++ Θ) σ (τ1 ++ τ) S → τ1.length = srcs.length → Env K L S0 Γ Θ σ τ S
  | [], [], E, _ => E
  | d :: ds, v :: vs, E, e => Env.unsrc (srcs := ds) (τ1 := vs) E.pop (by simpa using e)
  | [], _ :: _, _, e => by cases e
  | _ :: _, [], _, e => by cases e
/-- a list -/
theorem vi_list {te : TE} {Q : List Cell → Bool → List Dat → Prop} (h : VD K Γ Θ te fun Γ1 d => ∃ ds, d = .list ds ∧ Q Γ1 false ds) : VI K Γ Θ (iList K te) Q := fun L S0 σ τ S R E k => h L S0 σ τ S _ E fun Γ1 S1 v d E1 ⟨ds, ed, q⟩ => by
  subst ed
  obtain ⟨a, xs, ev, hx, p⟩ := dp_list E1.dt
  subst ev
  refine ⟨a, rfl, ⟨xs, .of (E1.sub _ _ hx)⟩, k Γ1 [.list ds] [.ref a] S1 _ false ds E1 rfl ⟨fun S i sub hs hi => ?_, fun S sub hs => ?_, fun S i x H' sub hs hi y => ?_⟩ q⟩
  · obtain ⟨ys, hy', py⟩ := src_l (K := K) sub (dqa_one hs)
    obtain ⟨z, hz, _⟩ := py.get (List.getElem?_eq_getElem hi)
    exact ⟨ys, z, hy', hz⟩
  · obtain ⟨ys, hy', py⟩ := src_l (K := K) sub (dqa_one hs)
    exact ⟨ys, hy', Nat.le_of_eq py.len⟩
  · obtain ⟨ys, hy', py⟩ := src_l (K := K) sub (dqa_one hs)
    obtain ⟨rfl, y⟩ := y
    obtain ⟨d, hd, gd⟩ := py.getV (y ys hy')
    exact ⟨S, d, rfl, Gr.refl _ _, sub, hd, gd⟩
theorem vi_tup {te : TE} {Q : List Cell → Bool → List Dat → Prop} (h : VD K Γ Θ te fun Γ1 d => ∃ ds, d = .tuple ds ∧ Q Γ1 false ds) : VI K Γ Θ (iTup K te) Q := fun L S0 σ τ S R E k => h L S0 σ τ S _ E fun Γ1 S1 v d E1 ⟨ds, ed, q⟩ => by
  subst ed
  obtain ⟨a, o, xs, ev, _, hx, p⟩ := dp_tup E1.dt
  subst ev
  refine ⟨a, rfl, ⟨xs, sqt_f (E1.sub _ _ hx)⟩, k Γ1 [.tuple ds] [.ref a] S1 _ false ds E1 rfl ⟨fun S i sub hs hi => ?_, fun S sub hs => ?_, fun S i x H' sub hs hi y => ?_⟩ q⟩
  · obtain ⟨ys, hy', py⟩ := src_t (K := K) sub (dqa_one hs)
    obtain ⟨z, hz, _⟩ := py.get (List.getElem?_eq_getElem hi)
    exact ⟨ys, z, hy', hz⟩
  · obtain ⟨ys, hy', py⟩ := src_t (K := K) sub (dqa_one hs)
    exact ⟨ys, hy', Nat.le_of_eq py.len⟩
  · obtain ⟨ys, hy', py⟩ := src_t (K := K) sub (dqa_one hs)
    obtain ⟨rfl, y⟩ := y
    obtain ⟨d, hd, gd⟩ := py.getV (y ys hy')
    exact ⟨S, d, rfl, Gr.refl _ _, sub, hd, gd⟩
def rngD (lo hi : Int) : List Dat := (List.range (hi - lo).toNat).map fun i => .int (lo + (i : Nat))
theorem rngD_len {lo hi : Int} : (rngD lo hi).length = (hi - lo).toNat := by unfold rngD; rw [List.length_map, List.length_range]
theorem rngD_at {lo hi : Int} {i : Nat} (h : i < (hi - lo).toNat) : (rngD lo hi)[i]? = some (.int (lo + (i : Nat))) := by
  unfold rngD
  rw [List.getElem?_map, List.getElem?_eq_getElem (by rw [List.length_range]; exact h), List.getElem_range] <;> rfl
theorem dw_rng {lo : Int} {hi : Int} : Dw K (Itr lo (hi - lo).toNat) [] [] false (rngD lo hi) :=
  ⟨fun S i _ _ h => by rw [rngD_len] at h; exact h, fun S _ _ => by rw [rngD_len]; exact Nat.le_refl _, fun S i x H' sub _ hi y => by
    obtain ⟨rfl, rfl⟩ := y
    rw [rngD_len] at hi
    exact ⟨S, _, rfl, Gr.refl _ _, sub, rngD_at hi, .int _⟩⟩
theorem vi_rng1 {te : TE} {Q : List Cell → Bool → List Dat → Prop} (h : VE K Γ Θ te fun Γ1 x => ∃ n, x = .dt (.int n) ∧ -(2 ^ 62) ≤ n ∧ n < 2 ^ 62 ∧ Q Γ1 false (rngD 0 n)) : VI K Γ Θ (iRng1 (tCons te tNil)) Q := fun L S0 σ τ S R E k => h L S0 σ τ S _ E fun Γ1 S1 v x E1 ⟨n, ex, h1, h2, q⟩ => by
  subst ex
  refine ⟨n, by rw [dp_int E1.dt], h1, h2, ?_⟩
  have w := dw_rng (K := K) (lo := 0) (hi := n)
  rw [Int.sub_zero] at w
  exact k Γ1 [] [] S1 _ false _ E1.pop rfl w q
theorem vi_rng2 {ta tb : TE} {Q : List Cell → Bool → List Dat → Prop} (h : VE K Γ Θ ta fun Γ1 x => VE K Γ1 (x :: Θ) tb fun Γ2 y => ∃ m n, x = .dt (.int m) ∧ y = .dt (.int n) ∧ (-(2 ^ 62) ≤ m ∧ m < 2 ^ 62 ∧ -(2 ^ 62) ≤ n ∧ n < 2 ^ 62) ∧ Q Γ2 false (rngD m n)) :
    VI K Γ Θ (iRng2 (tCons ta (tCons tb tNil))) Q := fun L S0 σ τ S R E k => h L S0 σ τ S _ E fun Γ1 S1 u x E1 h1 => h1 L S0 σ _ S1 _ E1 fun Γ2 S2 v y E2 ⟨m, n, ex, ey, hb, q⟩ => by
  subst ex ey
  exact ⟨m, n, by rw [dp_int E2.dt, dp_int E2.pop.dt], hb, k Γ2 [] [] S2 _ false _ E2.pop.pop rfl dw_rng q⟩
def enumD (xs : List Dat) : List Dat := xs.zipIdx.map fun p => .tuple [.int (p.2 : Nat), p.1]
theorem enumD_len {xs : List Dat} : (enumD xs).length = xs.length := by unfold enumD; rw [List.length_map, List.length_zipIdx]
theorem enumD_at {xs : List Dat} {i : Nat} {d : Dat} (h : xs[i]? = some d) : (enumD xs)[i]? = some (.tuple [.int (i : Nat), d]) := by
  unfold enumD
  rw [List.getElem?_map, List.getElem?_zipIdx, h]
  show some (PyData.tuple [.int ((0 + i : Nat) : Int), d]) = _
  rw [Nat.zero_add]
/-- a new pair -/
theorem gr_pair {S : Hs} {T : Addr} {x y : V} {d e : Dat} (sub : Same S.b S.h) (hT : S.h T = none) (hx : Dq S.b x d) (hy : Dq S.b y e) :
    ∃ S' : Hs, S'.h = upd S.h T (.tup [x, y]) ∧ Gr L0 S S' ∧ Same S'.b S'.h ∧ Itm S'.b (.ref T) (.tuple [d, e]) true := by
  have g := gr_newB (o := .tup [x, y]) hT sub
  exact ⟨⟨upd S.b T (.tup [x, y]), upd S.h T (.tup [x, y])⟩, rfl, g, sub_newB hT sub, T, _, _, rfl, rfl, upd_same, .cons (dp_mono g.b _ _ hx) (.cons (dp_mono g.b _ _ hy) .nil)⟩
theorem vi_enum {te : TE} {Q : List Cell → Bool → List Dat → Prop} (h : VD K Γ Θ te fun Γ1 d => ∃ ds, d = .list ds ∧ Q Γ1 true (enumD ds)) : VI K Γ Θ (iEnum K (tCons te tNil)) Q := fun L S0 σ τ S R E k => h L S0 σ τ S _ E fun Γ1 S1 v d E1 ⟨ds, ed, q⟩ => by
  subst ed
  obtain ⟨a, xs, ev, hx, p⟩ := dp_list E1.dt
  subst ev
  refine ⟨a, xs, rfl, .of (E1.sub _ _ hx), k Γ1 [.list ds] [.ref a] S1 _ true (enumD ds) E1 rfl ⟨fun S i sub hs hi => ?_, fun S sub hs => ?_, fun S i x H' sub hs hi y => ?_⟩ q⟩
  · obtain ⟨ys, hy', py⟩ := src_l (K := K) sub (dqa_one hs)
    rw [enumD_len] at hi
    obtain ⟨z, hz, _⟩ := py.get (List.getElem?_eq_getElem hi)
    exact ⟨ys, z, hy', hz⟩
  · obtain ⟨ys, hy', py⟩ := src_l (K := K) sub (dqa_one hs)
    exact ⟨ys, hy', by rw [enumD_len]; exact Nat.le_of_eq py.len⟩
  · obtain ⟨ys, hy', py⟩ := src_l (K := K) sub (dqa_one hs)
    rw [enumD_len] at hi
    obtain ⟨T, z, rfl, hT, rfl, y⟩ := y
    obtain ⟨d, hd, gd⟩ := py.getV (y ys hy')
    obtain ⟨S', e1, g1, s1, q1⟩ := gr_pair sub hT (.int (i : Nat)) gd
    exact ⟨S', _, e1, g1, s1, enumD_at hd, q1⟩
def zipD (xs ys : List Dat) : List Dat := (xs.zip ys).map fun p => .tuple [p.1, p.2]
theorem zipD_len {xs ys : List Dat} : (zipD xs ys).length = min xs.length ys.length := by unfold zipD; rw [List.length_map, List.length_zip]
theorem zipD_at {xs ys : List Dat} {i : Nat} {d e : Dat} (h : xs[i]? = some d) (h' : ys[i]? = some e) : (zipD xs ys)[i]? = some (.tuple [d, e]) := by
  unfold zipD
  rw [List.getElem?_map, List.zip_eq_zipWith, List.getElem?_zipWith, h, h'] <;> rfl
theorem vi_zip {ta tb : TE} {Q : List Cell → Bool → List Dat → Prop} (h : VD K Γ Θ ta fun Γ1 d => VD K Γ1 (.dt d :: Θ) tb fun Γ2 e => ∃ ds es, d = .list ds ∧ e = .list es ∧ Q Γ2 true (zipD ds es)) : VI K Γ Θ (iZip K (tCons ta (tCons tb tNil))) Q := fun L S0 σ τ S R E k =>
  h L S0 σ τ S _ E fun Γ1 S1 u d E1 h1 => h1 L S0 σ _ S1 _ E1 fun Γ2 S2 v e E2 ⟨ds, es, ed, ee, q⟩ => by
  subst ed ee
  obtain ⟨b, zs, eb, hb, pb⟩ := dp_list E2.dt
  obtain ⟨a, xs, ea, hx, p⟩ := dp_list E2.pop.dt
  subst ea eb
  refine ⟨a, b, xs, zs, rfl, .of (E2.sub _ _ hx), .of (E2.sub _ _ hb), k Γ2 [.list es, .list ds] [.ref b, .ref a] S2 _ true (zipD ds es) E2 rfl ⟨fun S i sub hs hi => ?_, fun S sub hs => ?_, fun S i x H' sub hs hi y => ?_⟩ q⟩
  · obtain ⟨ws, hw', pw⟩ := src_l (K := K) sub (dqa_two hs).1
    obtain ⟨ys, hy', py⟩ := src_l (K := K) sub (dqa_two hs).2
    rw [zipD_len] at hi
    have i1 : i < ds.length := by omega
    have i2 : i < es.length := by omega
    obtain ⟨z, hz, _⟩ := py.get (List.getElem?_eq_getElem i1)
    obtain ⟨z', hz', _⟩ := pw.get (List.getElem?_eq_getElem i2)
    exact ⟨ys, ws, z, z', hy', hw', hz, hz'⟩
  · obtain ⟨ws, hw', pw⟩ := src_l (K := K) sub (dqa_two hs).1
    obtain ⟨ys, hy', py⟩ := src_l (K := K) sub (dqa_two hs).2
    refine ⟨ys, ws, hy', hw', ?_⟩
    rw [zipD_len, py.len, pw.len]
    omega
  · obtain ⟨ws, hw', pw⟩ := src_l (K := K) sub (dqa_two hs).1
    obtain ⟨ys, hy', py⟩ := src_l (K := K) sub (dqa_two hs).2
    obtain ⟨T, z, z', rfl, hT, rfl, y1, y2⟩ := y
    obtain ⟨d, hd, gd⟩ := py.getV (y1 ys hy')
    obtain ⟨e, he, ge⟩ := pw.getV (y2 ws hw')
    obtain ⟨S', e1, g1, s1, q1⟩ := gr_pair sub hT gd ge
    exact ⟨S', _, e1, g1, s1, zipD_at hd he, q1⟩
/-! ### targets -/
def VG (K : PySem.W.Frag) (pr : Bool) (Γ : List Cell) (g : TG) (d : Dat) (Q : List Cell → Prop) : Prop := ∀ (L : Addr → Prop) (S0 : Hs) (Θ : List Tmp) (σ : L2.St) (τ : List V) (S : Hs) (v : V) (R : L2.St → Hp → Prop), (∀ i, ∀ t ∈ Θ, t ≠ Tmp.br i) → Env K L S0 Γ Θ σ τ S → Itm S.b v d pr →
  (∀ Γ' σ', Env K L S0 Γ' Θ σ' τ S → Q Γ' → R σ' S.h) → g v σ S.h R
theorem vg_name {i : Nat} {d : Dat} {Q : List Cell → Prop} (q : Q (Γ.set i (.dt d))) : VG K false Γ (gName i) d Q := fun L S0 Θ σ τ S v R nb E hd k => k _ _ (E.setDt (nb i) hd) q
theorem vg_pair {pr : Bool} {i j : Nat} {x y : Dat} {Q : List Cell → Prop} (q : Q ((Γ.set i (.dt x)).set j (.dt y))) : VG K pr Γ (gTup K 2 (gCons (gName i) (gCons (gName j) gNil))) (.tuple [x, y]) Q := fun L S0 Θ σ τ S v R nb E hd k => by
  obtain ⟨a, xs, e, h, p⟩ : ∃ a xs, v = .ref a ∧ SqT K S.h a xs ∧ DqAll S.b xs [x, y] := by
    cases pr with
    | false =>
      obtain ⟨a, o, xs, e, _, h, p⟩ := dp_tup (show Dq S.b v (.tuple [x, y]) from hd)
      exact ⟨a, xs, e, sqt_f (E.sub _ _ h), p⟩
    | true =>
      obtain ⟨a, xs, ds, e, e2, h, p⟩ := hd
      cases e2
      exact ⟨a, xs, e, .of (E.sub _ _ h), p⟩
  cases p with
  | cons p1 p =>
    cases p with
    | cons p2 p =>
      cases p
      exact ⟨a, _, e, h, rfl, _, _, rfl, _, _, rfl, rfl, k _ _ ((E.setDt (nb i) p1).setDt (nb j) p2) q⟩
/-- a, b = e -/
theorem ss_asgG {te : TE} {g : TG} {R : DE} (h : ∀ ss, VD K Γ (srcT ss) te fun Γ1 d => VG K false Γ1 g d R.nx) : VSs K Γ (tAsg te g) R := fun ss L S0 σ τ S D E kn kr kb kc =>
  h ss L S0 σ τ S _ E fun Γ' S' v d E' q => q L S0 (srcT ss) σ τ S' v _ (fun i => nb_src) E'.pop E'.dt fun Γ2 σ2 E2 z => kn Γ2 σ2 S' E2 z
/-! ### for, while -/
theorem ss_for {wi : TI} {g : TG} {tb : TS} {R : DE} (P : Nat → List Cell → Prop)
    (h : ∀ ss, VI K Γ (srcT ss) wi fun Γ1 pr ds => P 0 Γ1 ∧ (∀ i d Γ2, ds[i]? = some d → P i Γ2 → VG K pr Γ2 g d fun Γ3 => VSs K Γ3 tb ⟨P (i + 1), R.rt, R.nx, P (i + 1)⟩) ∧ ∀ Γ2, P ds.length Γ2 → R.nx Γ2) : VSs K Γ (tFor wi g tb) R := fun ss L S0 σ τ S D E kn kr kb kc =>
  h ss L S0 σ τ S _ E fun Γ1 srcs τ1 S1 J pr ds E1 hl w ⟨h0, hs, hd⟩ => by
    have nbr : ∀ i, ∀ t ∈ srcT srcs ++ srcT ss, t ≠ Tmp.br i := fun i t ht => (List.mem_append.mp ht).elim (nb_src t) (nb_src t)
    refine ⟨fun i m σ H => m = ds.length - i ∧ i ≤ ds.length ∧ ∃ Γ2 S2, S2.h = H ∧ Env K L S0 Γ2 (srcT srcs ++ srcT ss) σ (τ1 ++ τ) S2 ∧ P i Γ2, ⟨_, rfl, Nat.zero_le _, Γ1, S1, rfl, E1, h0⟩, ?_⟩
    rintro i m σ2 H ⟨rfl, hi, Γ2, S2, rfl, E2, p⟩
    have dq := E2.srcs hl
    by_cases hlt : i < ds.length
    · refine .inr ⟨w.go S2 i E2.sub dq hlt, fun σ3 H3 => ∃ Γ3 S3, S3.h = H3 ∧ Env K L S0 Γ3 (srcT srcs ++ srcT ss) σ3 (τ1 ++ τ) S3 ∧ P (i + 1) Γ3, fun σ' H' ⟨Γ3, S3, e, E3, p3⟩ => ⟨_, by omega, rfl, hlt, Γ3, S3, e, E3, p3⟩, fun x H' y => ?_⟩
      obtain ⟨S3, d, e3, g3, s3, hd3, q3⟩ := w.yld S2 i x H' E2.sub dq hlt y
      subst e3
      refine hs i d Γ2 hd3 p L S0 _ σ2 _ S3 x _ nbr (E2.grow g3 s3) q3 fun Γ4 σ4 E4 q4 => ?_
      have es : srcT srcs ++ srcT ss = srcT (srcs ++ ss) := by unfold srcT; rw [List.map_append]
      rw [es] at E4
      refine q4 (srcs ++ ss) L S0 σ4 _ S3 _ E4 (fun Γ' σ' S' E' q => ?_) (fun Γ' σ' S' v d E' hv q => ?_) (fun Γ' σ' S' E' q => ?_) (fun Γ' σ' S' E' q => ?_)
      · rw [← es] at E'; exact ⟨Γ', S', rfl, E', q⟩
      · rw [← es] at E'; exact kr Γ' σ' S' v d (E'.unsrc hl) hv q
      · rw [← es] at E'; exact kn Γ' σ' S' (E'.unsrc hl) q
      · rw [← es] at E'; exact ⟨Γ', S', rfl, E', q⟩
    · have e : i = ds.length := by omega
      subst e
      exact .inl ⟨w.stop S2 E2.sub dq, kn Γ2 σ2 S2 (E2.unsrc hl) (hd Γ2 p)⟩
theorem ss_while {c : TT} {tb : TS} {R : DE} (P : Nat → List Cell → Prop) (m0 : Nat) (h0 : P m0 Γ)
    (hs : ∀ m Γ1, P m Γ1 → ∀ ss, VT K Γ1 (srcT ss) c fun Γ2 b => (b = true → VSs K Γ2 tb ⟨fun Γ3 => ∃ m', m' < m ∧ P m' Γ3, R.rt, R.nx, fun Γ3 => ∃ m', m' < m ∧ P m' Γ3⟩) ∧ (b = false → R.nx Γ2)) : VSs K Γ (tWhile c tb) R := fun ss L S0 σ τ S D E kn kr kb kc => by
  refine ⟨fun m σ H => ∃ Γ2 S2, S2.h = H ∧ Env K L S0 Γ2 (srcT ss) σ τ S2 ∧ P m Γ2, ⟨m0, Γ, S, rfl, E, h0⟩, ?_⟩
  rintro m σ2 H ⟨Γ2, S2, rfl, E2, p⟩
  refine hs m Γ2 p ss L S0 σ2 τ S2 _ E2 fun Γ3 S3 b E3 q => ?_
  cases b with
  | true =>
    rw [if_pos rfl]
    refine ⟨fun σ' H' => ∃ m' Γ' S', m' < m ∧ S'.h = H' ∧ Env K L S0 Γ' (srcT ss) σ' τ S' ∧ P m' Γ', fun σ' H' ⟨m', Γ', S', hm, e, E', p'⟩ => ⟨m', hm, Γ', S', e, E', p'⟩, ?_⟩
    refine q.1 rfl ss L S0 σ2 τ S3 _ E3 (fun Γ' σ' S' E' q => ?_) kr (fun Γ' σ' S' E' q => kn Γ' σ' S' E' q) (fun Γ' σ' S' E' q => ?_)
    · obtain ⟨m', hm, p'⟩ := q; exact ⟨m', Γ', S', hm, rfl, E', p'⟩
    · obtain ⟨m', hm, p'⟩ := q; exact ⟨m', Γ', S', hm, rfl, E', p'⟩
  | false => rw [if_neg Bool.false_ne_true]; exact kn Γ3 σ2 S3 E3 (q.2 rfl)
end
end Ld
set_option Elab.async false
set_option linter.all false
set_option maxRecDepth 100000
namespace Ld
open PySem PySem.Spec PyProof.Rows L2 Lx
/-! ### comprehensions -/
def clr : List Nat → List Cell → List Cell
  | [], Γ => Γ
  | v :: vs, Γ => (clr vs Γ).set v .no
theorem clr_len {Γ : List Cell} : ∀ vs : List Nat, (clr vs Γ).length = Γ.length
  | [] => rfl
  | v :: vs => by unfold clr; rw [List.length_set, clr_len vs]
theorem clr_at {Γ : List Cell} {i : Nat} {c : Cell} : ∀ {vs : List Nat}, (clr vs Γ)[i]? = some c → c = Cell.no ∨ Γ[i]? = some c
  | [], h => .inr h
  | v :: vs, h => by
    unfold clr at h
    by_cases e : v = i
    · subst e
      rw [List.getElem?_set_self (by
        have := (List.getElem?_eq_some_iff.mp h).1
        rw [List.length_set] at this; exact this)] at h
      cases h
      exact .inl rfl
    · rw [List.getElem?_set_ne e] at h
      exact clr_at h
theorem wipe_ne {σ : L2.St} {i : Nat} : ∀ {vs : List Nat}, i ∉ vs → (wipe σ vs)[i]? = σ[i]?
  | [], _ => rfl
  | v :: vs, h => by
    unfold wipe
    rw [List.getElem?_set_ne (fun e => h (by rw [e]; exact List.mem_cons_self))]
    exact wipe_ne fun z => h (List.mem_cons_of_mem _ z)
theorem wipe_at {σ : L2.St} {i : Nat} : ∀ {vs : List Nat}, i ∈ vs → i < σ.length → (wipe σ vs)[i]? = some none
  | [], h, _ => by cases h
  | v :: vs, h, hl => by
    unfold wipe
    by_cases e : v = i
    · subst e
      exact List.getElem?_set_self (by rw [wipe_length]; exact hl)
    · rw [List.getElem?_set_ne e]
      exact wipe_at ((List.mem_cons.mp h).resolve_left (fun z => e z.symm)) hl
theorem wipe_eq {σ σ' : L2.St} {vs : List Nat} (hl : σ'.length = σ.length) (h : ∀ i, i ∉ vs → σ'[i]? = σ[i]?) : wipe σ' vs = wipe σ vs := by
  refine List.ext_getElem? fun i => ?_
  by_cases hi : i ∈ vs
  · by_cases hlt : i < σ.length
    · rw [wipe_at hi hlt, wipe_at hi (by rw [hl]; exact hlt)]
    · rw [List.getElem?_eq_none (by rw [wipe_length]; omega), List.getElem?_eq_none (by rw [wipe_length]; omega)]
  · rw [wipe_ne hi, wipe_ne hi]; exact h i hi
theorem wipe_set {σ : L2.St} {vs : List Nat} {j : Nat} {x : Option V} (hj : j ∈ vs) : wipe ((wipe σ vs).set j x) vs = wipe σ vs := by
  refine (wipe_eq (σ' := (wipe σ vs).set j x) (σ := σ) (by rw [List.length_set, wipe_length]) fun i hi => ?_)
  rw [List.getElem?_set_ne (fun e => hi (by rw [← e]; exact hj)), wipe_ne hi]
theorem wipe_set2 {σ : L2.St} {vs : List Nat} {i j : Nat} {x y : Option V} (hi : i ∈ vs) (hj : j ∈ vs) : wipe (((wipe σ vs).set i x).set j y) vs = wipe σ vs := by
  refine (wipe_eq (σ := σ) (by rw [List.length_set, List.length_set, wipe_length]) fun k hk => ?_)
  rw [List.getElem?_set_ne (fun e => hk (by rw [← e]; exact hj)), List.getElem?_set_ne (fun e => hk (by rw [← e]; exact hi)), wipe_ne hk]
def NB (vs : List Nat) (Θ : List Tmp) : Prop := ∀ t ∈ Θ, ∀ v ∈ vs, t ≠ Tmp.br v
theorem nb_nil {vs : List Nat} : NB vs [] := fun t h => by cases h
theorem nb_srcT {vs : List Nat} {ss : List Dat} : NB vs (srcT ss) := fun t h v _ => nb_src t h
theorem nb_dt {vs : List Nat} {d : Dat} {Θ : List Tmp} (h : NB vs Θ) : NB vs (.dt d :: Θ) := fun t ht v hv => by
  rcases List.mem_cons.mp ht with rfl | ht
  · exact fun z => nomatch z
  · exact h t ht v hv
theorem nb_fr {vs : List Nat} {d : List Dat} {Θ : List Tmp} (h : NB vs Θ) : NB vs (.fr d :: Θ) := fun t ht v hv => by
  rcases List.mem_cons.mp ht with rfl | ht
  · exact fun z => nomatch z
  · exact h t ht v hv
theorem nb_sc {vs : List Nat} {d : List Int} {Θ : List Tmp} (h : NB vs Θ) : NB vs (.sc d :: Θ) := fun t ht v hv => by
  rcases List.mem_cons.mp ht with rfl | ht
  · exact fun z => nomatch z
  · exact h t ht v hv
theorem nb_br {vs : List Nat} {i : Nat} {Θ : List Tmp} (hi : i ∉ vs) (h : NB vs Θ) : NB vs (.br i :: Θ) := fun t ht v hv => by
  rcases List.mem_cons.mp ht with rfl | ht
  · intro z; cases z; exact hi hv
  · exact h t ht v hv
theorem nb_arg {vs : List Nat} {a : Arg} {Θ : List Tmp} (h : NB vs Θ) : NB vs (a.tmp :: Θ) := by
  cases a with
  | dt d => exact nb_dt h
  | sc ns => exact nb_sc h
theorem nb_app {vs : List Nat} {Θ Θ' : List Tmp} (h : NB vs Θ) (h' : NB vs Θ') : NB vs (Θ ++ Θ') := fun t ht v hv => (List.mem_append.mp ht).elim (fun z => h t z v hv) fun z => h' t z v hv
section
variable {K : PySem.W.Frag} {Γ : List Cell} {Θ : List Tmp} {L : Addr → Prop} {S0 S : Hs} {σ σ' : L2.St} {τ : List V}
/-- slots that nothing is known of may hold anything -/
theorem Env.reslot {vs : List Nat} (E : Env K L S0 Γ Θ σ τ S) (hl : σ'.length = σ.length) (h : ∀ i, i ∉ vs → σ'[i]? = σ[i]?) (hn : ∀ v ∈ vs, Γ[v]? = some .no) (nb : NB vs Θ) : Env K L S0 Γ Θ σ' τ S := by
  obtain ⟨w, h1, h2⟩ := E.ok
  refine ⟨E.gr, E.sub, hl.trans E.len, w, fun i c e => ?_, h2.imp' fun k v t hk hm q => ?_⟩
  · by_cases hi : i ∈ vs
    · rw [hn i hi] at e; cases e; trivial
    · rw [h i hi]; exact h1 i c e
  · cases t with
    | dt d => exact q
    | fr ds => exact q
    | sc ns => exact q
    | ob pp => exact q
    | li R => exact q
    | br i =>
      show σ'[i]? = some (some v)
      rw [h i (fun hi => nb _ hm i hi rfl)]; exact q
theorem Env.wiped {vs : List Nat} (E : Env K L S0 Γ Θ σ τ S) (hn : ∀ v ∈ vs, Γ[v]? = some .no) (nb : NB vs Θ) : Env K L S0 Γ Θ (wipe σ vs) τ S := E.reslot (wipe_length _ _) (fun i hi => wipe_ne hi) hn nb
theorem Env.unwiped {vs : List Nat} (E : Env K L S0 Γ Θ (wipe σ vs) τ S) (hn : ∀ v ∈ vs, Γ[v]? = some .no) (nb : NB vs Θ) : Env K L S0 Γ Θ σ τ S := E.reslot (wipe_length _ _).symm (fun i hi => (wipe_ne hi).symm) hn nb
theorem Env.under {t : Tmp} {v : V} : ∀ {srcs : List Dat} {τ1 : List V}, Env K L S0 Γ (t :: (srcT srcs ++ Θ)) σ (v :: (τ1 ++ τ)) S → τ1.length = srcs.length → Env K L S0 Γ (t :: Θ) σ (v :: τ) S
  | [], [], E, _ => E
  | d :: ds, u :: us, E, e => Env.under (srcs := ds) (τ1 := us) (Env.swap E).pop (by simpa using e)
  | [], _ :: _, _, e => by cases e
  | _ :: _, [], _, e => by cases e
end
/-- what a comprehension's target does to the cells -/
structure TgI (K : PySem.W.Frag) (pr : Bool) (g : TG) (vs : List Nat) (d : Dat) (f : List Cell → List Cell) : Prop where
  run : ∀ (L : Addr → Prop) (S0 : Hs) (Γ : List Cell) (Θ : List Tmp) (σ : L2.St) (τ : List V) (S : Hs) (v : V) (R : L2.St → Hp → Prop), NB vs Θ → Env K L S0 Γ Θ (wipe σ vs) τ S → Itm S.b v d pr →
    (∀ σ', Env K L S0 (f Γ) Θ σ' τ S → wipe σ' vs = wipe σ vs → R σ' S.h) → g v (wipe σ vs) S.h R
theorem tg_name {K : PySem.W.Frag} {j : Nat} {vs : List Nat} {d : Dat} (hj : j ∈ vs) : TgI K false (gName j) vs d fun Γ => Γ.set j (.dt d) := ⟨fun L S0 Γ Θ σ τ S v R nb E hd k => k _ (E.setDt (fun t ht => nb t ht j hj) hd) (wipe_set hj)⟩
theorem tg_pair {K : PySem.W.Frag} {pr : Bool} {i j : Nat} {vs : List Nat} {x y : Dat} (hi : i ∈ vs) (hj : j ∈ vs) : TgI K pr (gTup K 2 (gCons (gName i) (gCons (gName j) gNil))) vs (.tuple [x, y]) fun Γ => (Γ.set i (.dt x)).set j (.dt y) := ⟨fun L S0 Γ Θ σ τ S v R nb E hd k => by
  obtain ⟨a, xs, e, h, p⟩ : ∃ a xs, v = .ref a ∧ SqT K S.h a xs ∧ DqAll S.b xs [x, y] := by
    cases pr with
    | false =>
      obtain ⟨a, o, xs, e, _, h, p⟩ := dp_tup (show Dq S.b v (.tuple [x, y]) from hd)
      exact ⟨a, xs, e, sqt_f (E.sub _ _ h), p⟩
    | true =>
      obtain ⟨a, xs, ds, e, e2, h, p⟩ := hd
      cases e2
      exact ⟨a, xs, e, .of (E.sub _ _ h), p⟩
  cases p with
  | cons p1 p =>
    cases p with
    | cons p2 p =>
      cases p
      exact ⟨a, _, e, h, rfl, _, _, rfl, _, _, rfl, rfl, k _ ((E.setDt (fun t ht => nb t ht i hi) p1).setDt (fun t ht => nb t ht j hj) p2) (wipe_set2 hi hj)⟩⟩
/-! ### a def -/
theorem args_cells {K : PySem.W.Frag} {L : Addr → Prop} {S0 S : Hs} {w : Wh} : ∀ {vs : List V} {as : List Arg} (j : Nat), ArgsOk K S.b vs as → ∀ i c, (as.map Arg.cell)[i]? = some c → SlotOk K L S0 w S (j + i) ((vs.map some)[i]?) c
  | _, _, _, .nil, i, c, e => by simp at e
  | _, _, j, .cons (v := v) (a := a) h t, 0, c, e => by
    cases e
    cases a with
    | dt d => exact ⟨v, rfl, h⟩
    | sc ns => obtain ⟨b, rfl, q⟩ := h; exact ⟨b, rfl, q⟩
  | _, _, j, .cons h t, i + 1, c, e => by
    have := args_cells (K := K) (L := L) (S0 := S0) (S := S) (w := w) (j + 1) t i c e
    rw [show j + (i + 1) = j + 1 + i by omega]
    exact this
def cells0 (N : List Str) (cs : List Cell) : List Cell := cs ++ List.replicate (N.length - cs.length) .no
theorem start_at {N : List Str} {vs : List V} {i : Nat} (h : i < vs.length) : (L2.start N vs)[i]? = (vs.map some)[i]? := by
  unfold L2.start
  rw [List.getElem?_append_left (by rw [List.length_map]; exact h)]
theorem env_start {K : PySem.W.Frag} {N : List Str} {vs : List V} {as : List Arg} {B H : Hp} (sub : Same B H) (h : ArgsOk K B vs as) (hl : vs.length ≤ N.length) : Env K L0 ⟨B, H⟩ (cells0 N (as.map Arg.cell)) [] (L2.start N vs) [] ⟨B, H⟩ := by
  refine ⟨Gr.refl _ _, sub, ?_, fun _ => none, fun i c e => ?_, trivial⟩
  · unfold L2.start cells0
    rw [List.length_append, List.length_append, List.length_map, List.length_map, List.length_replicate, List.length_replicate, h.len]
  · unfold cells0 at e
    by_cases hi : i < (as.map Arg.cell).length
    · rw [List.getElem?_append_left hi] at e
      rw [start_at (by rw [h.len]; rw [List.length_map] at hi; exact hi)]
      have := args_cells (K := K) (L := L0) (S0 := ⟨B, H⟩) (S := ⟨B, H⟩) (w := fun _ => none) 0 h i c e
      rw [Nat.zero_add] at this
      exact this
    · rw [List.getElem?_append_right (by omega)] at e
      have e2 := List.mem_of_getElem? e
      rw [List.mem_replicate] at e2
      rw [e2.2]
      trivial
section
variable {P : Program} {w : World} {K : PySem.W.Frag} {mg : Str → Option Value} {base : Heap}
abbrev Bx (P : Program) (w : World) (K : PySem.W.Frag) (mg : Str → Option Value) (base : Heap) (N : List Str) (qual : Str) (st : Stmt) (f : Addr) (cdv : Value) (A : Around) (outer : List PySem.Env) (s : Shared) (H : Hp) (E : XK) : Cx := (cxOf CX0 P w K mg base N qual (defScope st) f cdv A outer s H E).nox
/-- a def that changes the list that is its second argument -/
theorem env_startT {N : List Str} {v0 : V} {t : Addr} {rest : List V} {a0 : Arg} {as : List Arg} {zs : List Dat} {B H : Hp} (sub : Same B H) (h0 : ArgOk K B v0 a0) (h : ArgsOk K B rest as) (nb : B t = none) (hz : ∃ us, H t = some (.lst us) ∧ DqAll B us zs) (hl : rest.length + 2 ≤ N.length) :
    Env K (fun a => a = t) ⟨B, H⟩ (cells0 N (a0.cell :: .ln zs :: as.map Arg.cell)) [] (L2.start N (v0 :: .ref t :: rest)) [] ⟨B, H⟩ := by
  refine ⟨Gr.refl _ _, sub, ?_, fun a => if a = t then some (.inl 1) else none, fun i c e => ?_, trivial⟩
  · unfold L2.start cells0
    simp only [List.length_append, List.length_map, List.length_replicate, List.length_cons, h.len]
  · unfold cells0 at e
    by_cases hi : i < (a0.cell :: .ln zs :: as.map Arg.cell).length
    · rw [List.getElem?_append_left hi] at e
      rw [start_at (by simp only [List.length_cons, List.length_map, h.len] at hi ⊢; exact hi)]
      match i, e with
      | 0, e =>
        cases e
        cases a0 with
        | dt d => exact ⟨v0, rfl, h0⟩
        | sc ns => obtain ⟨b, rfl, q⟩ := h0; exact ⟨b, rfl, q⟩
      | 1, e =>
        cases e
        exact ⟨t, rfl, ⟨nb, if_pos rfl, hz⟩, rfl⟩
      | i + 2, e =>
        have := args_cells (K := K) (L := fun a => a = t) (S0 := ⟨B, H⟩) (S := ⟨B, H⟩) (w := fun a => if a = t then some (.inl 1) else none) 2 h i c e
        have e3 : 2 + i = i + 2 := Nat.add_comm 2 i
        rw [e3] at this
        exact this
    · rw [List.getElem?_append_right (by omega)] at e
      have e2 := List.mem_of_getElem? e
      rw [List.mem_replicate] at e2
      rw [e2.2]
      trivial
/-- .. its first argument -/
theorem env_startU {N : List Str} {t : Addr} {rest : List V} {as : List Arg} {zs : List Dat} {B H : Hp} (sub : Same B H) (h : ArgsOk K B rest as) (nb : B t = none) (hz : ∃ us, H t = some (.lst us) ∧ DqAll B us zs) (hl : rest.length + 1 ≤ N.length) :
    Env K (fun a => a = t) ⟨B, H⟩ (cells0 N (.ln zs :: as.map Arg.cell)) [] (L2.start N (.ref t :: rest)) [] ⟨B, H⟩ := by
  refine ⟨Gr.refl _ _, sub, ?_, fun a => if a = t then some (.inl 0) else none, fun i c e => ?_, trivial⟩
  · unfold L2.start cells0
    simp only [List.length_append, List.length_map, List.length_replicate, List.length_cons, h.len]
  · unfold cells0 at e
    by_cases hi : i < (.ln zs :: as.map Arg.cell).length
    · rw [List.getElem?_append_left hi] at e
      rw [start_at (by simp only [List.length_cons, List.length_map, h.len] at hi ⊢; exact hi)]
      match i, e with
      | 0, e =>
        cases e
        exact ⟨t, rfl, ⟨nb, if_pos rfl, hz⟩, rfl⟩
      | i + 1, e =>
        have := args_cells (K := K) (L := fun a => a = t) (S0 := ⟨B, H⟩) (S := ⟨B, H⟩) (w := fun a => if a = t then some (.inl 0) else none) 1 h i c e
        have e3 : 1 + i = i + 1 := Nat.add_comm 1 i
        rw [e3] at this
        exact this
    · rw [List.getElem?_append_right (by omega)] at e
      have e2 := List.mem_of_getElem? e
      rw [List.mem_replicate] at e2
      rw [e2.2]
      trivial
end
end Ld
set_option Elab.async false
set_option linter.all false
set_option maxRecDepth 100000
namespace Ld
open PySem PySem.Spec PyProof.Rows L2 Lx
/-! ### isinstance of data -/
def tyN : Dat → String
  | .none => "NoneType"
  | .bool _ => "bool"
  | .int _ => "int"
  | .str _ => "str"
  | .list _ => "list"
  | .tuple _ => "tuple"
  | .dict _ => "dict"
theorem dq_ty {K : PySem.W.Frag} {H : Hp} {v : V} {d : Dat} (h : Dq H v d) : TyX K H v (.type (tyN d)) := by
  cases h with
  | non => exact .base .non
  | bl b => exact .base (.bl b)
  | int i => exact .base (.int i)
  | str x => exact .base (.str x)
  | lst h _ => exact .base (.lst h)
  | tup hd h _ => exact .fTuple h
section
variable {K : PySem.W.Frag} {Γ : List Cell} {Θ : List Tmp}
theorem ve_isi {ta : TE} {n : String} {Q : List Cell → Tmp → Prop} (h : VE K Γ Θ ta fun Γ1 x => ∃ d b, rd Γ1 x d ∧ kitB (tyN d) n = some b ∧ Q Γ1 (.dt (.bool b))) : VE K Γ Θ (tCB (rIsi K) (tCons ta (tCons (tC (.ty n)) tNil))) Q := fun L S0 σ τ S Qv E k => h L S0 σ τ S _ E fun Γ1 S1 v x E1 ⟨d, b, hd, hb, q⟩ =>
  ⟨v, .ty n, _, _, b, rfl, .ty n, dq_ty (E1.rd hd), kit_ty hb, k Γ1 S1 _ _ (E1.pop.push (.bl b)) q⟩
end
section
variable {K : PySem.W.Frag} {Γ : List Cell} {Θ : List Tmp}
/-! ### what is under way, by its form -/
theorem fz_dt {d : Dat} {Q : List Cell → Dat → Prop} (q : Q Γ d) : Fz Γ Q (.dt d) := q
theorem fz_fr {d : List Dat} {Q : List Cell → Dat → Prop} (q : Q Γ (.list d)) : Fz Γ Q (.fr d) := q
theorem fz_br {i : Nat} {ds : List Dat} {Q : List Cell → Dat → Prop} (h : Γ[i]? = some (.ow ds)) (q : Q (Γ.set i (.dt (.list ds))) (.list ds)) : Fz Γ Q (.br i) := ⟨ds, h, q⟩
theorem az_dt {d : Dat} {Q : List Cell → Arg → Prop} (q : Q Γ (.dt d)) : Az Γ Q (.dt d) := q
theorem az_sc {d : List Int} {Q : List Cell → Arg → Prop} (q : Q Γ (.sc d)) : Az Γ Q (.sc d) := q
theorem az_fr {d : List Dat} {Q : List Cell → Arg → Prop} (q : Q Γ (.dt (.list d))) : Az Γ Q (.fr d) := q
theorem az_br {i : Nat} {ds : List Dat} {Q : List Cell → Arg → Prop} (h : Γ[i]? = some (.ow ds)) (q : Q (Γ.set i (.dt (.list ds))) (.dt (.list ds))) : Az Γ Q (.br i) := ⟨ds, h, q⟩
theorem asb {b : Bool} {Q : List Cell → Bool → Prop} (q : Q Γ b) : AsB Γ Q (.dt (.bool b)) := q
theorem sto_dt {i : Nat} {d : Dat} {Q : List Cell → Prop} (q : Q (Γ.set i (.dt d))) : Sto Γ i Q (.dt d) := q
theorem sto_fr {i : Nat} {d : List Dat} {Q : List Cell → Prop} (q : Q (Γ.set i (.ow d))) : Sto Γ i Q (.fr d) := q
theorem sto_br {i j : Nat} {ds : List Dat} {Q : List Cell → Prop} (h : Γ[j]? = some (.ow ds)) (q : Q ((Γ.set j (.dt (.list ds))).set i (.dt (.list ds)))) : Sto Γ i Q (.br j) := ⟨ds, h, q⟩
theorem rd_dt {d : Dat} : rd Γ (.dt d) d := rfl
theorem rd_fr {ds : List Dat} : rd Γ (.fr ds) (.list ds) := rfl
theorem rd_ow {i : Nat} {ds : List Dat} (h : Γ[i]? = some (.ow ds)) : rd Γ (.br i) (.list ds) := .inr ⟨ds, rfl, .inl h⟩
theorem rd_ln {i : Nat} {ds : List Dat} (h : Γ[i]? = some (.ln ds)) : rd Γ (.br i) (.list ds) := .inr ⟨ds, rfl, .inr h⟩
theorem sq_l {x : Tmp} {ds : List Dat} (h : rd Γ x (.list ds)) : SeqD Γ x ds := .inl h
theorem sq_t {ds : List Dat} : SeqD Γ (.dt (.tuple ds)) ds := .inr rfl
theorem isl_ow {i : Nat} {ds : List Dat} (h : Γ[i]? = some (.ow ds)) : IsLs Γ i ds := ⟨_, h, rfl⟩
theorem isl_ln {i : Nat} {ds : List Dat} (h : Γ[i]? = some (.ln ds)) : IsLs Γ i ds := ⟨_, h, rfl⟩
theorem b2 {A B : Prop} {b : Bool} (h1 : b = true → A) (h2 : b = false → B) : (b = true → A) ∧ (b = false → B) := ⟨h1, h2⟩
theorem r2_eqS {ns : List Int} {y : Tmp} {e : Dat} {Q : List Cell → Tmp → Prop} (hy : rd Γ y e) (sd : SeqAt.shaped (.list (ns.map .int)) = true) (se : SeqAt.shaped e = true) (q : Q Γ (.dt (.bool (PyData.eqv (.list (ns.map .int)) e)))) : R2V K (rEqD K) Γ Θ (.sc ns) y Q := fun L S0 σ τ S vx vy Qv E k => by
  obtain ⟨w, a, ea, hs⟩ := E.pop.top
  have dpi : ∀ ns : List Int, DpAll K S.h (ns.map V.int) (ns.map PyData.int) := fun ns => by
    induction ns with
    | nil => exact .nil
    | cons n ns ih => exact .cons (.int n) ih
  exact ⟨_, e, by rw [ea]; exact .lst (E.sub.seq hs) (dpi ns), dq_dp _ _ (E.rd hy), sd, se, k Γ S _ _ (E.pop.pop.push (.bl _)) q⟩
theorem ve_scr {i : Nat} {ns : List Int} {Q : List Cell → Tmp → Prop} (h : Γ[i]? = some (.sc ns)) (q : Q Γ (.sc ns)) : VE K Γ Θ (tVar i) Q := fun L S0 σ τ S Qv E k => by
  obtain ⟨w, h1, h2⟩ := id E.ok
  obtain ⟨a, e, p⟩ := h1 i _ h
  exact ⟨_, e, k Γ S (.ref a) (.sc ns) ⟨E.gr, E.sub, E.len, w, h1, ⟨a, rfl, p⟩, h2⟩ q⟩
end
/-! ### a def of the text, a def that keeps its promise -/
structure Df (K : PySem.W.Frag) (mg : Str → Option Value) (x : Str) (st : Stmt) (ps : List Str) (f : Addr) (fd : FuncData) : Prop where
  F : Fun K x x st f fd
  g : mg x = some (.ref f)
  b : Binds K fd ps []
structure Cal (P : Program) (w : World) (K : PySem.W.Frag) (mg : Str → Option Value) (base : Heap) (k : Nat) (x : Str) (ps : List Str) (sp : Sp) (f : Addr) (fd : FuncData) : Prop where
  G : FnOk P w K mg base CX0 k f fd ps sp
  g : mg x = some (.ref f)
  kp : PySem.W.keepIn K (.ref f) = true
  b : Binds K fd ps []
theorem Df.cal {P : Program} {w : World} {K : PySem.W.Frag} {mg : Str → Option Value} {base : Heap} {k : Nat} {x : Str} {st : Stmt} {ps : List Str} {sp : Sp} {f : Addr} {fd : FuncData} (D : Df K mg x st ps f fd) (G : FnOk P w K mg base CX0 k f fd ps sp) : Cal P w K mg base k x ps sp f fd := ⟨G, D.g, D.F.kp, D.b⟩
end Ld
set_option Elab.async false
set_option linter.all false
set_option maxRecDepth 100000
namespace PySem
open Sem (wp)
open Builtin Builtin.Str
set_option maxHeartbeats 1000000 in
theorem meets_enumerate_newLd {v : Value} {o : Obj} {H : Heap → Prop} (B : Begins v o H) :
    Meets (Builtin.«enumerate.__new__» ⟨[.type "enumerate", v], []⟩) (fun _ R s => H s.heap ∧
      R (.ok (.ret (.ref (s.heap.push o).objs.size))) { s with heap := (s.heap.push o).push { cls := .type "enumerate", data := .fields #[.none, .bool false, .ref s.heap.objs.size, rawInt 0, .none, .none] } }) :=
  .of_wp fun prog w A R s h => by
    obtain ⟨hp, g, d, tk, os⟩ := s; obtain ⟨h1, h⟩ := h
    have hsub := sub_enumerate
    have q1 : ∀ {A' : Around} {E : Value → Shared → Prop} {Q : Value → Shared → Prop}, Q (.ref hp.objs.size) ⟨hp.push o, g, d, tk, os⟩ → wpAny (model prog w) A' (pyIter v) Q E ⟨hp, g, d, tk, os⟩ :=
      fun q => B.iter prog w _ _ ⟨hp, g, d, tk, os⟩ _ h1 q
    wp_walk using q1
    refine wpAny_stack_any fun st => wpAny_pure ?_
    split
    · rename_i c _ _ _ _ _
      cases (c == Value.type "enumerate")
      · wp_walk using q1
        exact ⟨_, rfl, h⟩
      · wp_walk using q1
        exact ⟨_, rfl, h⟩
    · wp_walk using q1
      exact ⟨_, rfl, h⟩
theorem call_enumerate_ld {prog : Program} {w : World} {A : Around} {E : Value → Shared → Prop} {s : Shared} {v : Value} {o : Obj} {H : Heap → Prop} {Q : Value → Shared → Prop} (B : Begins v o H) (h1 : H s.heap)
    (h : ∀ h', IsEnum h' (s.heap.objs.size + 1) s.heap.objs.size 0 .none → h'.get? s.heap.objs.size = some o → h'.objs.size = s.heap.objs.size + 2 →
      (∀ b o, s.heap.get? b = some o → h'.get? b = some o) → Q (.ref (s.heap.objs.size + 1)) { s with heap := h' }) :
    wpAny (model prog w) A (call (.type "enumerate") [v]) Q E s := by
  refine callType_new F.called_enumerate (by decide) (F.typeCall_enumerate_1 _) (F.newCall_enumerate_1 _) (fun obj => F.args_object_init_2 obj _) F.entry_enumerate_new
    (meets_enumerate_newLd B) ⟨h1, ?_⟩
  have hz : (s.heap.push o).objs.size = s.heap.objs.size + 1 := Heap.size_push ..
  show _ ∧ _
  rw [hz]
  have he : IsEnum ((s.heap.push o).push
      { cls := .type "enumerate", data := .fields #[.none, .bool false, .ref s.heap.objs.size, rawInt 0, .none, .none] }) (s.heap.objs.size + 1) s.heap.objs.size 0 .none := by
    have := Heap.get?_push_size (s.heap.push o)
      (o := { cls := .type "enumerate", data := .fields #[.none, .bool false, .ref s.heap.objs.size, rawInt 0, .none, .none] }) rfl
    rw [hz] at this; exact this
  refine ⟨⟨_, he, rfl⟩, h _ he (Heap.get?_push_of_some _ (Heap.get?_push_size _ B.free)) (by rw [Heap.size_push, hz]) fun b o x => Heap.get?_push_of_some _ (Heap.get?_push_of_some _ x)⟩
theorem wpAny_pyNext_enum_endT {prog : Program} {w : World} {A : Around} {E : Value → Shared → Prop} {s : Shared} {e it l : Addr} {i : Nat} {items : Array Value} {old : Value} {k : Int} {Q : Option Value → Shared → Prop} (hh : A.in1.handled = none)
    (he : IsEnum s.heap e it k old) (hit : s.heap.IsTupleIter it l i) (hl : s.heap.IsTuple l items) (hx : items[i]? = none)
    (hQ : ∀ h', Heap.ExtBut it s.heap h' → Q none { s with heap := h' }) : wpAny (model prog w) A (pyNext (.ref e)) Q E s := by
  have hT : s.TypeIs (.ref e) "enumerate" := ⟨_, he, rfl⟩
  unfold pyNext
  refine wpAny_bind (wpAny_attempt (wpAny_callSpecial?_slot (name := Str.ofString "__next__") hT F.slot_enumerate_next
    (wpAny_call_entry F.slot_enumerate_next hT F.entry_enumerate_next ?_ (F.args_enumerate_next_1 _))))
  show wpAny _ _ (field (.ref e) 2 >>= _) _ _ _
  refine wpAny_bind (wpAny_field he rfl (x := .ref it) rfl ?_)
  refine wpAny_bind (wpAny_nextOf_tuple_end hh hit hl hx fun h' x he' hx' => ?_)
  obtain ⟨o, ho, hc⟩ := hx'
  refine wpAny_bind (wpAny_isInstance (T := "StopIteration") (b := true) ⟨o, ho, hc⟩ isSubtype_stop ?_)
  exact wpAny_pure (hQ _ he')
end PySem
namespace Ld
open PySem PySem.Spec PyProof.Rows L2 Lx
/-! ### enumerate(tuple) -/
def IteT (K : PySem.W.Frag) (a : Addr) : It :=
  ⟨fun i H => ∃ (xs : List V) (x : V), SqT K H a xs ∧ xs[i]? = some x, fun i H v H' => ∃ T x, v = .ref T ∧ H T = none ∧ H' = upd H T (.tup [.int (i : Nat), x]) ∧ ∀ xs, SqT K H a xs → xs[i]? = some x, fun i H => ∃ xs : List V, SqT K H a xs ∧ xs.length ≤ i⟩
theorem turn_enumT {P : Program} {w : World} {K : PySem.W.Frag} {elts : List Expr} {kk : Nat} {tpos : Pos} (a e it : Addr) :
    Turn P w K (.Tuple elts kk tpos) (IteT K a) [e, it] e (fun i h => (∃ old, IsEnum h e it ((i : Nat) : Int) old) ∧ h.IsTupleIter it a i ∧ e ≠ it ∧ a ≠ it ∧ a ≠ e) where
  mem := by simp
  obj := fun i h st b hb => by
    obtain ⟨⟨old, he⟩, ⟨o, ho, hc, hd⟩, _⟩ := st
    have e' : b = e ∨ b = it := by simpa using hb
    rcases e' with z | z
    · rw [z]; exact ⟨_, he, fun v q => nomatch q⟩
    · rw [z]; exact ⟨o, ho, fun v q => by rw [hd] at q; cases q⟩
  keep := fun i h h' st k => let ⟨⟨old, he⟩, hi, hne⟩ := st; ⟨⟨old, k e (by simp) _ he⟩, hi.at fun o q => k it (by simp) o q, hne⟩
  item := by
    intro X hP hw hK hc i pins s σ H E I hf st hg
    subst hP hw hK
    obtain ⟨⟨old, he⟩, hit, hne, hai, hae⟩ := st
    obtain ⟨xs, x, hq, hx⟩ := hg
    obtain ⟨its, rv, p, hz⟩ := I.tuple hq
    obtain ⟨u, hu, ru⟩ := rv.get hx
    have hel : e < s.heap.objs.size := Heap.lt_size he
    have hil : it < s.heap.objs.size := by obtain ⟨_, q, _⟩ := hit; exact Heap.lt_size q
    have hlt : i < its.toArray.size := by
      have := (List.getElem?_eq_some_iff.mp hu).1
      simpa using this
    have hh : X.A.in1.handled = none := I.ok.hd hc
    have D := Draws.tuple (prog := X.prog) (w := X.w) hh it a hai its.toArray
    refine wpAny_pyNext_enum_itemD D he ⟨hit, p⟩ hlt hne (by simp only [List.mem_cons, List.not_mem_nil, or_false, not_or]; exact ⟨hne, fun z => hae z.symm⟩) fun y h' tk hy ho hit' hT hsz hk => ?_
    have ey : y = u := by
      have h1 : its.toArray[i]? = some y := hy
      have h2 : its.toArray[i]? = some u := by simpa using hu
      rw [h1] at h2; exact Option.some.inj h2
    subst ey
    refine ⟨_, rfl, wpAny_letOwnedTupleGo_enum (s := { s with heap := h', toks := tk + 1 }) ho fun h'' he' sb => ?_⟩
    have hT2 : h''.get? s.heap.objs.size = some { cls := .type "tuple", data := .seq #[.int i tk, y] } := (sb.2 _ (Nat.ne_of_gt hel)).trans hT
    have new : ObjOk X.prog X.w (upd H s.heap.objs.size (.tup [.int (i : Nat), x])) h'' s.heap.objs.size (.tup [.int (i : Nat), x]) :=
      ⟨by show 2 ≤ sizeLine; decide, [.int i tk, y], .cons ⟨_, rfl⟩ (.cons ru .nil), ⟨_, hT2, rfl, _, rfl⟩⟩
    have I1 : Inv X pins σ (upd H s.heap.objs.size (.tup [.int (i : Nat), x])) { s with heap := h'', toks := tk + 1 } :=
      I.turnedNew (ch := [e, it]) (fun b ob hb q => (sb.2 b (fun z => hb (by simp [z]))).trans (hk b ob (fun z => hb (by simp [z])) (fun z => hb (by simp [z])) q)) hf (Nat.le_refl _) new
    refine ⟨.ref s.heap.objs.size, _, I1, rfl, ⟨_, x, rfl, I.hok.fresh (Nat.le_refl _), rfl, fun ys hy => by rw [I.tuple_inj hy hq]; exact hx⟩, ⟨⟨y, ?_⟩, hit'.1.at fun o q => (sb.2 it (Ne.symm hne)).trans q, hne, hai, hae⟩, fun b hb => ?_⟩
    · have e1 : ((i + 1 : Nat) : Int) = (i : Int) + 1 := by omega
      rw [e1]; exact he'
    · have hb' : b < s.heap.objs.size := by
        have e' : b = e ∨ b = it := by simpa using hb
        rcases e' with z | z
        · rw [z]; exact hel
        · rw [z]; exact hil
      rw [upd_ne (Nat.ne_of_lt hb')]
      exact (hf b hb).1
  done := by
    intro X hP hw hK hc i pins s σ H E I hf st hg
    subst hP hw hK
    obtain ⟨⟨old, he⟩, hit, hne, hai, hae⟩ := st
    obtain ⟨xs, hq, hx⟩ := hg
    obtain ⟨its, rv, p, hz⟩ := I.tuple hq
    obtain ⟨f0, f1, f2, f3, f4, f5⟩ := hf it (by simp)
    have hl := rv.length
    have hh : X.A.in1.handled = none := I.ok.hd hc
    refine wpAny_pyNext_enum_endT hh he hit p (by simp; omega) fun h' eb => ⟨rfl, I.turned (t' := s.toks) (fun b o hb q => eb b o hb q) f0 f1 f3 f4 f5⟩
  self := fun A i s Q E st h => let ⟨⟨_, he⟩, _⟩ := st; wpAny_pyIter_enum he h
def iEnumT (K : PySem.W.Frag) (ta : TA) : TI := fun σ H R => ta σ H fun vs H1 => ∃ a xs, vs = [.ref a] ∧ SqT K H1 a xs ∧ R (IteT K a) H1
theorem pi_enumT {X : Cx} {e : Expr} {ta : TA} {p pos tpos : Pos} {elts : List Expr} {kk : Nat} (hg : Gl X "enumerate") (hm : X.mg "enumerate" = none) (ha : PA X [e] ta) (hs : starEach [e] X.env = [(false, eval e X.env)] := by rfl) :
    PI X (.Tuple elts kk tpos) (.Call (.Name "enumerate" p) [e] [] pos) (iEnumT X.K ta) := by
  refine ⟨fun pins s σ H R I h => ?_⟩
  refine Call_ (ld_blt I hg hm boot_enumerate (PyProof.Rows.callWith_type1 (thn (ha.run pos pins s σ H _ I h) fun us s1 ⟨vs, H1, I1, r1, q1⟩ => ?_) hs rfl))
  obtain ⟨a, xs, ex, hq, q⟩ := q1
  subst ex
  cases r1 with
  | cons r rr =>
    cases rr
    cases r
    obtain ⟨its, rv, p', hz⟩ := I1.tuple hq
    refine call_enumerate_ld (begins_tuple a its.toArray) p' fun h' he hit hsz hk => wpAny_pyIter_enum he ?_
    have I2 : Inv X pins σ H1 { s1 with heap := h' } := I1.kept (t' := s1.toks) hk
    have ha : a < s1.heap.objs.size := p'.lt
    refine ⟨s1.heap.objs.size + 1, [s1.heap.objs.size + 1, s1.heap.objs.size], _, _, H1, rfl, I2, turn_enumT a (s1.heap.objs.size + 1) s1.heap.objs.size, ⟨⟨.none, he⟩, ⟨_, hit, rfl, rfl⟩, Nat.succ_ne_self _, Nat.ne_of_lt ha, Nat.ne_of_lt (Nat.lt_succ_of_lt ha)⟩, fun b hb => ?_, q⟩
    have e' : b = s1.heap.objs.size + 1 ∨ b = s1.heap.objs.size := by simpa using hb
    have hle : s1.heap.objs.size ≤ b := by
      rcases e' with z | z
      · rw [z]; exact Nat.le_add_right _ _
      · rw [z]; exact Nat.le_refl _
    exact I1.fpOk hle (I1.hok.fresh hle)
section
variable {K : PySem.W.Frag} {Γ : List Cell} {Θ : List Tmp}
theorem vi_enumT {te : TE} {Q : List Cell → Bool → List Dat → Prop} (h : VD K Γ Θ te fun Γ1 d => ∃ ds, d = .tuple ds ∧ Q Γ1 true (enumD ds)) : VI K Γ Θ (iEnumT K (tCons te tNil)) Q := fun L S0 σ τ S R E k => h L S0 σ τ S _ E fun Γ1 S1 v d E1 ⟨ds, ed, q⟩ => by
  subst ed
  obtain ⟨a, o, xs, ev, _, hx, p⟩ := dp_tup E1.dt
  subst ev
  refine ⟨a, xs, rfl, sqt_f (E1.sub _ _ hx), k Γ1 [.tuple ds] [.ref a] S1 _ true (enumD ds) E1 rfl ⟨fun S i sub hs hi => ?_, fun S sub hs => ?_, fun S i x H' sub hs hi y => ?_⟩ q⟩
  · obtain ⟨ys, hy', py⟩ := src_t (K := K) sub (dqa_one hs)
    rw [enumD_len] at hi
    obtain ⟨z, hz, _⟩ := py.get (List.getElem?_eq_getElem hi)
    exact ⟨ys, z, hy', hz⟩
  · obtain ⟨ys, hy', py⟩ := src_t (K := K) sub (dqa_one hs)
    exact ⟨ys, hy', by rw [enumD_len]; exact Nat.le_of_eq py.len⟩
  · obtain ⟨ys, hy', py⟩ := src_t (K := K) sub (dqa_one hs)
    rw [enumD_len] at hi
    obtain ⟨T, z, rfl, hT, rfl, y⟩ := y
    obtain ⟨d, hd, gd⟩ := py.getV (y ys hy')
    obtain ⟨S', e1, g1, s1, q1⟩ := gr_pair sub hT (.int (i : Nat)) gd
    exact ⟨S', _, e1, g1, s1, enumD_at hd, q1⟩
end
/-! ### sorted of a tuple of ints -/
end Ld
set_option Elab.async false
set_option linter.all false
set_option maxRecDepth 100000
namespace Ld
open PySem PySem.Spec PyProof.Rows L2 Lx
/-! ### promises with a ghost -/
def spG {α : Type} (K : PySem.W.Frag) (A : α → List Arg) (pre : α → Prop) (post : α → Dat → Prop) : Sp := fun vs H Q _ => ∃ (B : Hp) (x : α), Same B H ∧ ArgsOk K B vs (A x) ∧ pre x ∧
  ∀ v S' d, Gr L0 ⟨B, H⟩ S' → Same S'.b S'.h → Dq S'.b v d → post x d → Q v S'.h
abbrev spF {α : Type} (K : PySem.W.Frag) (A : α → List Arg) (pre : α → Prop) (g : α → Dat) : Sp := spG K A pre fun x d => d = g x
def spW {α : Type} (K : PySem.W.Frag) (A : α → Arg × List Arg) (pre : α → List Dat → Prop) (post : α → List Dat → List Dat → Dat → Prop) : Sp := fun vs H Q _ => ∃ (B : Hp) (v0 : V) (t : Addr) (rest : List V) (x : α) (zs : List Dat), vs = v0 :: .ref t :: rest ∧ Same B H ∧ ArgsOk K B (v0 :: rest) ((A x).1 :: (A x).2) ∧
  B t = none ∧ (∃ us, H t = some (.lst us) ∧ DqAll B us zs) ∧ pre x zs ∧
  ∀ v S' zs' d, Gr (fun a => a = t) ⟨B, H⟩ S' → Same S'.b S'.h → S'.b t = none → (∃ us, S'.h t = some (.lst us) ∧ DqAll S'.b us zs') → Dq S'.b v d → post x zs zs' d → Q v S'.h
section
variable {K : PySem.W.Frag} {Γ : List Cell} {Θ : List Tmp}
theorem ve_callG {α : Type} {A : α → List Arg} {pre : α → Prop} {post : α → Dat → Prop} {X : XK} {t : TA} {Q : List Cell → Tmp → Prop} (h : VAX K Γ Θ t fun Γ1 as => ∃ x, as = A x ∧ pre x ∧ ∀ d, post x d → Q Γ1 (.dt d)) : VE K Γ Θ (tCall (spG K A pre post) [] X t) Q := fun L S0 σ τ S Qv E k => h L S0 σ τ S _ E fun Γ1 S1 vs as E1 p ⟨x, ex, hp, q⟩ => by
  show spG K A pre post (vs ++ []) S1.h Qv X
  rw [List.append_nil]
  subst ex
  exact ⟨S1.b, x, E1.sub, p, hp, fun v S' d g s hd hq => k Γ1 S' v _ ((E1.grow g s).push hd) (q d hq)⟩
theorem ve_callF {α : Type} {A : α → List Arg} {pre : α → Prop} {g : α → Dat} {X : XK} {t : TA} {Q : List Cell → Tmp → Prop} (h : VAX K Γ Θ t fun Γ1 as => ∃ x, as = A x ∧ pre x ∧ Q Γ1 (.dt (g x))) : VE K Γ Θ (tCall (spF K A pre g) [] X t) Q :=
  ve_callG fun L S0 σ τ S Qv E k => h L S0 σ τ S Qv E fun Γ1 S1 vs as E1 p ⟨x, ex, hp, q⟩ => k Γ1 S1 vs as E1 p ⟨x, ex, hp, fun d hd => by rw [hd]; exact q⟩
theorem ve_callW {α : Type} {A : α → Arg × List Arg} {pre : α → List Dat → Prop} {post : α → List Dat → List Dat → Dat → Prop} {X : XK} {t0 : TE} {i : Nat} {t : TA} {Q : List Cell → Tmp → Prop}
    (h : VX K Γ Θ t0 fun Γ1 a0 => (∃ ds, IsLs Γ1 i ds) ∧ VAX K Γ1 (a0.tmp :: Θ) t fun Γ2 as => ∃ x zs, IsLs Γ2 i zs ∧ (a0, as) = A x ∧ pre x zs ∧ ∀ zs' d, post x zs zs' d → Q (putC Γ2 i zs') (.dt d)) :
    VE K Γ Θ (tCall (spW K A pre post) [] X (tCons t0 (tCons (tVar i) t))) Q := fun L S0 σ τ S Qv E k => h L S0 σ τ S _ E fun Γ1 S1 v0 a0 E1 ⟨⟨ds, c1, hc1, hl1⟩, h1⟩ => by
  obtain ⟨a, ea, _⟩ := E1.own hc1 hl1
  refine ⟨_, ea, h1 L S0 σ (v0 :: τ) S1 _ E1 fun Γ2 S2 vs as E2 p ⟨x, zs, ⟨c, hc, hl⟩, ex, hp, q⟩ => ?_⟩
  obtain ⟨a', ea', nb, us, hu, pu⟩ := E2.own hc hl
  rw [ea] at ea'; cases ea'
  show spW K A pre post ((v0 :: .ref a :: vs) ++ []) S2.h Qv X
  rw [List.append_nil]
  refine ⟨S2.b, v0, a, vs, x, zs, rfl, E2.sub, ?_, nb, ⟨us, hu, pu⟩, hp, fun v S' zs' d g s nb' hz hd hq => ?_⟩
  · rw [← ex]; exact .cons (argOk_top E2) p
  · have q' := q zs' d hq
    rw [putC_eq hc] at q'
    exact k _ S' v _ ((E2.pop.lent hc hl ea g s nb' hz).push hd) q'
/-- a comprehension over items of one kind -/
theorem ve_lcT {α : Type} (inj : α → Dat) (xs : List α) (p : α → Bool) (v : α → Dat) {wi : TI} {g : TG} {tt : TT} {te : TE} {vs : List Nat} {Q : List Cell → Tmp → Prop} (nb : NB vs Θ)
    (h : VI K Γ Θ wi fun Γ1 pr ds => ds = xs.map inj ∧ (∀ v ∈ vs, Γ1[v]? = some Cell.no) ∧ xs.length < sizeLine ∧ (∀ a, a ∈ xs → ∃ f, TgI K pr g vs (inj a) f ∧ ∀ acc srcs, VT K (f Γ1) (.fr acc :: (srcT srcs ++ Θ)) tt fun Γ3 b =>
      b = p a ∧ (b = true → VD K Γ3 (.fr acc :: (srcT srcs ++ Θ)) te fun Γ4 y => y = v a ∧ clr vs Γ4 = Γ1) ∧ (b = false → clr vs Γ3 = Γ1)) ∧ Q Γ1 (.fr ((xs.filter p).map v))) : VE K Γ Θ (tLc wi g tt te vs) Q := fun L S0 σ τ S Qv E k =>
  h L S0 σ τ S _ E fun Γ1 srcs τ1 S1 J pr ds E1 hl w ⟨eds, hn, hsz, hs, hq⟩ => fun D hD => by
    have nbs : NB vs (srcT srcs ++ Θ) := nb_app nb_srcT nb
    have hls : ds.length = xs.length := by rw [eds, List.length_map]
    have E1w : Env K L S0 Γ1 (.fr [] :: (srcT srcs ++ Θ)) (wipe σ vs) (.ref D :: (τ1 ++ τ)) ⟨S1.b, upd S1.h D (.lst [])⟩ := (E1.newLst hD .nil).wiped hn (nb_fr nbs)
    refine ⟨fun i m H => m = ds.length - i ∧ i ≤ ds.length ∧ ∃ S2, S2.h = H ∧ Env K L S0 Γ1 (.fr (((xs.take i).filter p).map v) :: (srcT srcs ++ Θ)) (wipe σ vs) (.ref D :: (τ1 ++ τ)) S2, ⟨_, rfl, Nat.zero_le _, _, rfl, E1w⟩, ?_⟩
    rintro i m H ⟨rfl, hi, S2, rfl, E2⟩
    have dq := E2.pop.srcs hl
    by_cases hlt : i < ds.length
    · refine .inr ⟨w.go S2 i E2.sub dq hlt, fun H3 => ∃ S3, S3.h = H3 ∧ Env K L S0 Γ1 (.fr (((xs.take (i + 1)).filter p).map v) :: (srcT srcs ++ Θ)) (wipe σ vs) (.ref D :: (τ1 ++ τ)) S3,
        fun H' ⟨S3, e, E3⟩ => ⟨_, by omega, rfl, hlt, S3, e, E3⟩, fun x H' y => ?_⟩
      obtain ⟨S3, d, e3, g3, s3, hd3, q3⟩ := w.yld S2 i x H' E2.sub dq hlt y
      subst e3
      obtain ⟨a, ha, ead⟩ : ∃ a, xs[i]? = some a ∧ inj a = d := by
        rw [eds, List.getElem?_map] at hd3
        exact Option.map_eq_some_iff.mp hd3
      subst ead
      obtain ⟨f, tg, hf⟩ := hs a (List.mem_of_getElem? ha)
      refine tg.run L S0 Γ1 _ σ _ S3 x _ (nb_fr nbs) (E2.grow g3 s3) q3 fun σ3 E3 ew => ⟨ew, ?_⟩
      refine hf _ srcs L S0 σ3 _ S3 _ E3 fun Γ4 S4 b E4 ⟨eb, q4⟩ => ?_
      have fin : ∀ {Γ5 : List Cell} {acc5 : List Dat} {S5 : Hs}, Env K L S0 Γ5 (.fr acc5 :: (srcT srcs ++ Θ)) σ3 (.ref D :: (τ1 ++ τ)) S5 → clr vs Γ5 = Γ1 → Env K L S0 Γ1 (.fr acc5 :: (srcT srcs ++ Θ)) (wipe σ vs) (.ref D :: (τ1 ++ τ)) S5 := fun {Γ5 acc5 S5} E5 p5 => by
        rw [← ew, ← p5]
        exact (E5.forget (clr_len vs) fun i c e => clr_at e).wiped (by rw [p5]; exact hn) (nb_fr nbs)
      have tk : xs.take (i + 1) = xs.take i ++ [a] := by rw [List.take_add_one, ha] <;> rfl
      cases b with
      | true =>
        rw [if_pos rfl]
        refine q4.1 rfl L S0 σ3 _ S4 _ E4 fun Γ5 S5 u y E5 ⟨ey, p5⟩ => ?_
        obtain ⟨a', us, ea, hu, pu, mk⟩ := E5.swap.mutTop
        cases ea
        have hv : Dq S5.b u y := E5.dt
        have le : us.length ≤ xs.length := by
          rw [pu.len, List.length_map]
          exact Nat.le_trans (List.length_filter_le _ _) (by rw [List.length_take]; omega)
        refine ⟨us, hu, by omega, ⟨S5.b, upd S5.h D (.lst (us ++ [u]))⟩, rfl, ?_⟩
        have := fin (Env.pop (Env.swap (mk (us ++ [u]) _ (pu.app (.one hv))))) p5
        rw [tk, List.filter_append, List.map_append, List.filter_cons, if_pos eb.symm, List.filter_nil, List.map_singleton, ← ey]
        exact this
      | false =>
        rw [if_neg Bool.false_ne_true]
        refine ⟨S4, rfl, ?_⟩
        have := fin E4 (q4.2 rfl)
        rw [tk, List.filter_append, List.map_append, List.filter_cons, if_neg (by rw [← eb]; exact Bool.false_ne_true), List.filter_nil, List.map_nil, List.append_nil]
        exact this
    · have e : i = ds.length := by omega
      subst e
      rw [hls, List.take_length] at E2
      exact .inl ⟨w.stop S2 E2.sub dq, k Γ1 S2 _ _ ((E2.under hl).unwiped hn (nb_fr nb)) hq⟩
end
section
variable {P : Program} {w : World} {K : PySem.W.Frag} {mg : Str → Option Value} {base : Heap}
theorem ok_G {α : Type} {x qual : Str} {st : Stmt} {f : Addr} {fd : FuncData} {N ps : List Str} {k : Nat} {Ar : α → List Arg} {pre : α → Prop} {post : α → Dat → Prop} (F : Fun K x qual st f fd) (Sc : FnScope N ps (defScope st)) (hl : ∀ x, (Ar x).length = ps.length) (hN : ps.length ≤ N.length)
    (hb : ∀ (cdv : Value) (A : Around) (outer : List PySem.Env) (s : Shared) (H : Hp) (E : XK), Room k (A.deeper (envOfC qual (defScope st) s.heap.objs.size f cdv)) →
      ∃ t, PSs (Bx P w K mg base N qual st f cdv A outer s H E) (defBody st) t ∧ ∀ x, pre x → VSs K (cells0 N ((Ar x).map Arg.cell)) t ⟨fun _ => post x .none, fun _ d => post x d, fun _ => False, fun _ => False⟩) : FnOk P w K mg base CX0 (k + 1) f fd ps (spG K Ar pre post) := by
  refine F.ok Sc (fun vs H Q E h => ?_) (fun cdv A outer s H vs Q E hr h => ?_)
  · obtain ⟨B, x, _, p, hp, _⟩ := h
    rw [p.len, hl x]
  · obtain ⟨t, ht, hv⟩ := hb cdv A outer s H E hr
    obtain ⟨B, x, sub, p, hp, q⟩ := h
    have hlv : vs.length ≤ N.length := by rw [p.len, hl x]; exact hN
    refine ⟨t, ht, ?_⟩
    refine hv x hp [] L0 ⟨B, H⟩ (L2.start N vs) [] ⟨B, H⟩ _ (env_start sub p hlv) (fun Γ' σ' S' E' z => ?_) (fun Γ' σ' S' v d E' hd z => ?_) (fun Γ' σ' S' E' z => z.elim) (fun Γ' σ' S' E' z => z.elim)
    · exact q .non S' .none E'.gr E'.sub .non z
    · exact q v S' d E'.gr E'.sub hd z
theorem ok_W {α : Type} {x qual : Str} {st : Stmt} {f : Addr} {fd : FuncData} {N ps : List Str} {k : Nat} {Ar : α → Arg × List Arg} {pre : α → List Dat → Prop} {post : α → List Dat → List Dat → Dat → Prop} (F : Fun K x qual st f fd) (Sc : FnScope N ps (defScope st)) (hl : ∀ x, (Ar x).2.length + 2 = ps.length) (hN : ps.length ≤ N.length)
    (hb : ∀ (cdv : Value) (A : Around) (outer : List PySem.Env) (s : Shared) (H : Hp) (E : XK), Room k (A.deeper (envOfC qual (defScope st) s.heap.objs.size f cdv)) →
      ∃ t, PSs (Bx P w K mg base N qual st f cdv A outer s H E) (defBody st) t ∧ ∀ x zs, pre x zs → VSs K (cells0 N ((Ar x).1.cell :: .ln zs :: (Ar x).2.map Arg.cell)) t
        ⟨fun Γ => ∃ zs', Γ[1]? = some (.ln zs') ∧ post x zs zs' .none, fun Γ d => ∃ zs', Γ[1]? = some (.ln zs') ∧ post x zs zs' d, fun _ => False, fun _ => False⟩) : FnOk P w K mg base CX0 (k + 1) f fd ps (spW K Ar pre post) := by
  refine F.ok Sc (fun vs H Q E h => ?_) (fun cdv A outer s H vs Q E hr h => ?_)
  · obtain ⟨B, v0, t, rest, x, zs, rfl, _, p, _, _, hp, _⟩ := h
    have := hl x
    have := p.len
    simp only [List.length_cons] at *
    omega
  · obtain ⟨tr, ht, hv⟩ := hb cdv A outer s H E hr
    obtain ⟨B, v0, t, rest, x, zs, rfl, sub, p, nb, hz, hp, q⟩ := h
    obtain ⟨p0, p1⟩ : ArgOk K B v0 (Ar x).1 ∧ ArgsOk K B rest (Ar x).2 := by cases p with | cons a b => exact ⟨a, b⟩
    have hlv := hl x
    have hle := p1.len
    refine ⟨tr, ht, ?_⟩
    have fin : ∀ {Γ' : List Cell} {σ' : L2.St} {S' : Hs} {v : V} {d : Dat}, Env K (fun a => a = t) ⟨B, H⟩ Γ' [] σ' [] S' → Dq S'.b v d → (∃ zs', Γ'[1]? = some (.ln zs') ∧ post x zs zs' d) → Q v S'.h := fun {Γ' σ' S' v d} E' hd ⟨zs', h1, z⟩ => by
      obtain ⟨wd, g1, _⟩ := E'.ok
      obtain ⟨b, _, o, hb⟩ := g1 1 _ h1
      cases hb
      exact q v S' zs' d E'.gr E'.sub o.nb o.is hd z
    refine hv x zs hp [] (fun a => a = t) ⟨B, H⟩ _ [] ⟨B, H⟩ _ (env_startT sub p0 p1 nb hz (by omega)) (fun Γ' σ' S' E' z => ?_) (fun Γ' σ' S' v d E' hd z => fin E' hd z) (fun Γ' σ' S' E' z => z.elim) (fun Γ' σ' S' E' z => z.elim)
    exact fin E' .non z
end
end Ld
namespace Ld
open PySem PySem.Spec PyProof.Rows L2 Lx
/-- a module's whole number -/
structure GlobI (K : PySem.W.Frag) (mg : Str → Option Value) (x : Str) (n : Int) : Prop where
  u : ∃ t, mg x = some (.int n t)
end Ld
namespace Ld
open PySem PySem.Spec PyProof.Rows L2 Lx
section
variable {K : PySem.W.Frag} {Γ : List Cell} {Θ : List Tmp}
theorem c1_allF {ds : List Dat} (bs : List Bool) {Q : List Cell → Tmp → Prop} (h : ds = bs.map .bool) (q : Q Γ (.dt (.bool (bs.all id)))) : C1V K (L2.rAll K) Γ Θ (.fr ds) Q := c1_all (ns := bs) (by rw [h]; exact rd_fr) q
theorem c1_sumF {ds : List Dat} (bs : List Int) {Q : List Cell → Tmp → Prop} (h : ds = bs.map .int) (q : Q Γ (.dt (.int bs.sum))) : C1V K (L2.rSum K) Γ Θ (.fr ds) Q := c1_sum (ns := bs) (by rw [h]; exact rd_fr) q
end
end Ld
set_option Elab.async false
set_option linter.all false
set_option maxRecDepth 100000
namespace Ld
open PySem PySem.Spec PyProof.Rows L2 Lx
section
variable {X : Cx} {K : PySem.W.Frag}
theorem ix_listK (e : X.K = K) : IxR X (rIxL K) := e ▸ ix_list
theorem ix_tupK (e : X.K = K) : IxR X (rIxT K) := e ▸ ix_tup
theorem op_neDK (e : X.K = K) (hu : X.A.units + 64 < cLine) : OpR X (compareOp .NotEq) (rNeD K) := e ▸ op_neD hu
theorem pi_listK {tg l : Expr} {tl : TE} (e : X.K = K) (hl : PE X l tl) : PI X tg l (iList K tl) := e ▸ pi_list hl
theorem pg_tupK {es : List Expr} {k : Nat} {t : TGs} {n : Nat} {pos : Pos} (e : X.K = K) (hc : X.calm = true) (h : PGs X es t)
    (hn : (assignEach es X.env).length = n := by rfl) (hst : (assignEach es X.env).findIdx? (·.1) = none := by rfl) : PG X (.Tuple es k pos) (gTup K n t) := e ▸ pg_tup hc h hn hst
end
end Ld
set_option Elab.async false
set_option linter.all false
set_option maxRecDepth 100000
namespace Sh
open PySem PySem.Spec PyProof.Rows L2 Lx Ld
/-! ### data of rows -/
abbrev iL (ns : List Int) : List Dat := ns.map .int
def oD : Option Int → Dat
  | none => .none
  | some i => .int i
abbrev oL (row : List (Option Int)) : List Dat := row.map oD
def nums (row : List (Option Int)) : List Int := row.filterMap id
def gr (ns : List Int) : List Int := ns.zipIdx.map fun p => (((ns.take p.2).filter fun o => decide (o > p.1)).length : Nat)
def RowOk (r : List (Option Int)) : Prop := r.length ≤ 24 ∧ (nums r).Nodup
def lotStep (acc : List (List Int)) : Option Int → List (List Int)
  | none => acc ++ [[]]
  | some i => acc.set (acc.length - 1) (acc.getD (acc.length - 1) [] ++ [i])
def lots (r : List (Option Int)) : List (List Int) := r.foldl lotStep [[]]
def tL (ll : List (List Int)) : List Dat := ll.map fun l => .tuple (iL l)
def lL (ll : List (List Int)) : List Dat := ll.map fun l => .list (iL l)
def insF (row : List Int) (p : Int × Int) : List Int := row.take p.2.toNat ++ [p.1] ++ row.drop p.2.toNat
def rowF (ds cs : List Int) : List Int := (ds.zip cs).foldl insF []
def dsc (ns : List Int) : List Int := ns.mergeSort fun a b => decide (b ≤ a)
def asc (ns : List Int) : List Int := ns.mergeSort fun a b => decide (a ≤ b)
def CntOk (cs : List Int) (n : Nat) : Prop := cs.length = n ∧ ∀ (i : Nat) c, cs[i]? = some c → 0 ≤ c ∧ c ≤ (i : Int)
theorem kb_ii : kitB "int" "int" = some true := by decide +kernel
theorem kb_ib : kitB "int" "bool" = some false := by decide +kernel
theorem kb_tt : kitB "tuple" "tuple" = some true := by decide +kernel
theorem kb_ll : kitB "list" "list" = some true := by decide +kernel
theorem gl_le {n : Nat} (h : n ≤ 100000) : n ≤ sizeLine := by
  have : 100000 < sizeLine := by decide +kernel
  omega
theorem gl_lt {n : Nat} (h : n ≤ 100000) : n < sizeLine := by
  have : 100000 < sizeLine := by decide +kernel
  omega
theorem nums_eq : ∀ row : List (Option Int), (row.filter fun o => !isNo (oD o)).map oD = iL (nums row)
  | [] => rfl
  | none :: r => nums_eq r
  | some i :: r => by
    show PyData.int i :: ((r.filter fun o => !isNo (oD o)).map oD) = PyData.int i :: iL (nums r)
    rw [nums_eq r]
theorem nums_len (row : List (Option Int)) : (nums row).length ≤ row.length := List.length_filterMap_le _ _
theorem cut_to (ds : List Dat) (n : Nat) : Ld.cutD ds none (some (n : Int)) = ds.take n := by
  unfold Ld.cutD
  rw [HT.sIx_none, HT.sIx_nat, List.drop_zero, Nat.sub_zero, List.take_eq_take_iff]
  omega
theorem ixN_at {n j : Nat} (hj : j < n) : ixN n (j : Int) = some j := by
  unfold ixN
  rw [if_pos (by omega), if_pos (by omega), Int.toNat_natCast]
theorem atI_nat {α : Type} {xs : List α} {j : Nat} {x : α} (h : xs[j]? = some x) : atI xs (j : Int) = some x := by
  have hj := (List.getElem?_eq_some_iff.mp h).1
  unfold atI
  rw [ixN_at hj]
  exact h
theorem ixN_last {n : Nat} (h : 0 < n) : ixN n (-1) = some (n - 1) := by
  unfold ixN
  rw [if_neg (by omega), if_pos (by omega)]
  congr 1
  omega
theorem atI_last {α : Type} {xs : List α} {x : α} (h : xs[xs.length - 1]? = some x) : atI xs (-1) = some x := by
  unfold atI
  rw [ixN_last (by have := (List.getElem?_eq_some_iff.mp h).1; omega)]
  exact h
theorem oL_at {r : List (Option Int)} {i : Nat} {d : Dat} (h : (oL r)[i]? = some d) : ∃ o, r[i]? = some o ∧ d = oD o := by
  rw [List.getElem?_map] at h
  obtain ⟨o, h1, h2⟩ := Option.map_eq_some_iff.mp h
  exact ⟨o, h1, h2.symm⟩
theorem take_snoc {α : Type} {r : List α} {i : Nat} {o : α} (h : r[i]? = some o) : r.take (i + 1) = r.take i ++ [o] := by rw [List.take_add_one, h] <;> rfl
theorem lots_snoc (r : List (Option Int)) (o : Option Int) : lots (r ++ [o]) = lotStep (lots r) o := by unfold lots; rw [List.foldl_append] <;> rfl
theorem lots_ne : ∀ r : List (Option Int), 0 < (lots r).length := fun r => by
  have h : ∀ (r : List (Option Int)) (acc : List (List Int)), 0 < acc.length → 0 < (r.foldl lotStep acc).length := by
    intro r
    induction r with
    | nil => exact fun _ h => h
    | cons o r ih =>
      intro acc h
      refine ih _ ?_
      cases o with
      | none => show 0 < (acc ++ [[]]).length; simp
      | some i => show 0 < (acc.set _ _).length; simpa using h
  exact h r _ (by decide)
theorem lots_len (r : List (Option Int)) : (lots r).length ≤ r.length + 1 := by
  have h : ∀ (r : List (Option Int)) (acc : List (List Int)), (r.foldl lotStep acc).length ≤ acc.length + r.length := by
    intro r
    induction r with
    | nil => exact fun _ => Nat.le_refl _
    | cons o r ih =>
      intro acc
      refine Nat.le_trans (ih _) ?_
      cases o with
      | none => show (acc ++ [[]]).length + _ ≤ _; simp; omega
      | some i => show (acc.set _ _).length + _ ≤ _; simp
  have := h r [[]]
  simp at this
  unfold lots
  omega
theorem lots_flat (r : List (Option Int)) : (lots r).flatten = nums r := by
  have h : ∀ (r : List (Option Int)) (acc : List (List Int)), 0 < acc.length → (r.foldl lotStep acc).flatten = acc.flatten ++ nums r := by
    intro r
    induction r with
    | nil => intro acc _; simp [nums]
    | cons o r ih =>
      intro acc h
      show (r.foldl lotStep (lotStep acc o)).flatten = _
      cases o with
      | none =>
        rw [ih _ (by show 0 < (acc ++ [[]]).length; simp)]
        show (acc ++ [[]]).flatten ++ _ = _
        simp [nums]
      | some i =>
        rw [ih _ (by show 0 < (acc.set _ _).length; simpa using h)]
        show (acc.set _ _).flatten ++ _ = _
        obtain ⟨as, a, rfl⟩ : ∃ as a, acc = as ++ [a] := ⟨acc.dropLast, acc.getLast (List.ne_nil_of_length_pos h), (List.dropLast_concat_getLast _).symm⟩
        have e : (as ++ [a]).length - 1 = as.length := by simp
        rw [e, List.set_append_right _ _ (Nat.le_refl _)]
        simp [nums]
  rw [show lots r = r.foldl lotStep [[]] from rfl, h r _ (by decide)]
  simp
theorem nums_app (a b : List (Option Int)) : nums (a ++ b) = nums a ++ nums b := List.filterMap_append
theorem gr_len (ns : List Int) : (gr ns).length = ns.length := by unfold gr; rw [List.length_map, List.length_zipIdx]
/-! ### sorting -/
theorem eq_dsc {ns ns' : List Int} (p : ns'.Perm ns) (h : OrdB true ns') : ns' = dsc ns := by
  refine List.Perm.eq_of_pairwise (le := fun a b : Int => b ≤ a) (fun a b _ _ x y => by omega) h ?_ (p.trans (List.mergeSort_perm _ _).symm)
  have := List.pairwise_mergeSort (le := fun a b : Int => decide (b ≤ a)) (fun a b c x y => by simp at *; omega) (fun a b => by simp; omega) ns
  exact this.imp (fun h => by simpa using h)
theorem eq_asc {ns ns' : List Int} (p : ns'.Perm ns) (h : ns'.Pairwise (· ≤ ·)) : ns' = asc ns := by
  refine List.Perm.eq_of_pairwise (le := fun a b : Int => a ≤ b) (fun a b _ _ x y => by omega) h ?_ (p.trans (List.mergeSort_perm _ _).symm)
  have := List.pairwise_mergeSort (le := fun a b : Int => decide (a ≤ b)) (fun a b c x y => by simp at *; omega) (fun a b => by simp; omega) ns
  exact this.imp (fun h => by simpa using h)
theorem asc_perm (ns : List Int) : (asc ns).Perm ns := List.mergeSort_perm _ _
theorem dsc_perm (ns : List Int) : (dsc ns).Perm ns := List.mergeSort_perm _ _
theorem asc_srt (ns : List Int) : (asc ns).Pairwise (· ≤ ·) := (List.pairwise_mergeSort (le := fun a b : Int => decide (a ≤ b)) (fun a b c x y => by simp at *; omega) (fun a b => by simp; omega) ns).imp (fun h => by simpa using h)
theorem dsc_srt (ns : List Int) : (dsc ns).Pairwise (· ≥ ·) := (List.pairwise_mergeSort (le := fun a b : Int => decide (b ≤ a)) (fun a b c x y => by simp at *; omega) (fun a b => by simp; omega) ns).imp (fun h => by simpa using h)
theorem rowF_snoc {ds cs : List Int} {i : Nat} {d c : Int} (h1 : ds[i]? = some d) (h2 : cs[i]? = some c) : rowF (ds.take (i + 1)) (cs.take (i + 1)) = insF (rowF (ds.take i) (cs.take i)) (d, c) := by
  unfold rowF
  rw [take_snoc h1, take_snoc h2]
  have l1 := (List.getElem?_eq_some_iff.mp h1).1
  have l2 := (List.getElem?_eq_some_iff.mp h2).1
  rw [List.zip_append (by rw [List.length_take, List.length_take]; omega), List.foldl_append]
  rfl
theorem insF_len (row : List Int) (p : Int × Int) : (insF row p).length = row.length + 1 := by
  unfold insF
  simp only [List.length_append, List.length_take, List.length_drop, List.length_singleton]
  omega
theorem rowF_len (ds cs : List Int) : (rowF ds cs).length = min ds.length cs.length := by
  have h : ∀ (l : List (Int × Int)) (acc : List Int), (l.foldl insF acc).length = acc.length + l.length := by
    intro l
    induction l with
    | nil => exact fun _ => rfl
    | cons p l ih => intro acc; show (l.foldl insF (insF acc p)).length = _; rw [ih, insF_len, List.length_cons]; omega
  unfold rowF
  rw [h, List.length_zip, List.length_nil, Nat.zero_add]
end Sh
namespace Sh
open PySem PySem.Spec PyProof.Rows L2 Lx Ld
theorem oL_some (ns : List Int) : oL (ns.map some) = iL ns := by
  show List.map oD (List.map some ns) = _
  rw [List.map_map]
  rfl
theorem nums_some : ∀ ns : List Int, nums (ns.map some) = ns
  | [] => rfl
  | n :: ns => by
    show n :: nums (ns.map some) = _
    rw [nums_some ns]
end Sh
namespace Sh
theorem fil_true {α : Type} (xs : List α) : xs.filter (fun _ => true) = xs := List.filter_eq_self.mpr fun _ _ => rfl
end Sh
namespace Sh
open PySem PySem.Spec PyProof.Rows L2 Lx Ld
section
variable {K : PySem.W.Frag} {Γ : List Cell} {Θ : List Tmp}
theorem eqv_ii (i j : Int) : PyData.eqv (.int i) (.int j) = decide (i = j) := by
  simp [PyData.eqv, BEq.beq]
theorem r2_eqI {i j : Int} {Q : List Cell → Tmp → Prop} (q : Q Γ (.dt (.bool (decide (i = j))))) : R2V K (rEqD K) Γ Θ (.dt (.int i)) (.dt (.int j)) Q := r2_eqD rd_dt rd_dt rfl rfl (by rw [eqv_ii]; exact q)
theorem r2_neI {i j : Int} {Q : List Cell → Tmp → Prop} (q : Q Γ (.dt (.bool (!decide (i = j))))) : R2V K (rNeD K) Γ Θ (.dt (.int i)) (.dt (.int j)) Q := r2_neD rd_dt rd_dt rfl rfl (by rw [eqv_ii]; exact q)
end
theorem enum_iL (x : List Int) : enumD (iL x) = x.zipIdx.map fun p => PyData.tuple [.int p.2, .int p.1] := by
  unfold enumD
  rw [List.zipIdx_map, List.map_map]
  rfl
theorem zip_iL (x y : List Int) : zipD (iL x) (iL y) = (x.zip y).map fun p => PyData.tuple [.int p.1, .int p.2] := by
  unfold zipD
  rw [List.zip_map, List.map_map]
  rfl
theorem iL_take (x : List Int) (n : Nat) : (iL x).take n = iL (x.take n) := List.map_take.symm
end Sh
namespace Sh
open PySem PySem.Spec PyProof.Rows L2 Lx Ld
theorem tL_last {ll : List (List Int)} (h : 0 < ll.length) : atI (tL ll) (-1) = some (.tuple (iL (ll.getD (ll.length - 1) []))) := by
  refine atI_last ?_
  have e : ll.length - 1 < ll.length := by omega
  rw [tL, List.length_map, List.getElem?_map, List.getElem?_eq_getElem e]
  simp only [Option.map_some, List.getD_eq_getElem?_getD, List.getElem?_eq_getElem e, Option.getD_some]
theorem lots_mem {r : List (Option Int)} {l : List Int} (h : l ∈ lots r) : l.length ≤ (nums r).length := by
  rw [← lots_flat]
  exact (List.sublist_flatten_of_mem h).length_le
end Sh
namespace Sh
open PySem PySem.Spec PyProof.Rows L2 Lx Ld
/-! ### data that are compared -/
def Shp (n : Nat) (d : Dat) : Prop := d.canLay0 = true ∧ d.depth ≤ n
theorem shp_all {n : Nat} : ∀ {ds : List Dat}, (∀ d ∈ ds, Shp n d) → PyData.canLayAll0 ds = true ∧ PyData.depthAll ds ≤ n
  | [], _ => ⟨by simp only [PyData.canLayAll0], by simp only [PyData.depthAll]; exact Nat.zero_le _⟩
  | d :: ds, h => by
    have h1 := h d (by simp)
    have h2 := shp_all fun e he => h e (List.mem_cons_of_mem _ he)
    refine ⟨by simp only [PyData.canLayAll0, h1.1, h2.1]; rfl, ?_⟩
    simp only [PyData.depthAll]
    have := h1.2
    have := h2.2
    omega
theorem shp_list {n : Nat} {ds : List Dat} (h : ∀ d ∈ ds, Shp n d) : Shp (n + 1) (.list ds) := by
  have := shp_all h
  refine ⟨by simp only [PyData.canLay0]; exact this.1, ?_⟩
  have := this.2
  simp only [PyData.depth]
  omega
theorem shp_int (i : Int) : Shp 1 (.int i) := ⟨by simp only [PyData.canLay0], by simp [PyData.depth]⟩
theorem shp_ok {n : Nat} {d : Dat} (h : Shp n d) (l : n ≤ 64) : SeqAt.shaped d = true := by
  show (d.canLay0 && decide (d.depth ≤ 64)) = true
  rw [h.1, decide_eq_true (Nat.le_trans h.2 l)]
  rfl
theorem shp_iL (ns : List Int) : ∀ d ∈ iL ns, Shp 1 d := fun d h => by
  obtain ⟨i, _, rfl⟩ := List.mem_map.mp h
  exact shp_int i
theorem shp_li (ns : List Int) : Shp 2 (.list (iL ns)) := shp_list (shp_iL ns)
theorem eqv_li (xs ys : List Int) : PyData.eqvAll (iL xs) (iL ys) = decide (xs = ys) := by
  induction xs generalizing ys with
  | nil => cases ys <;> simp [PyData.eqvAll]
  | cons x xs ih =>
    cases ys with
    | nil => simp [PyData.eqvAll]
    | cons y ys =>
      show PyData.eqvAll (.int x :: iL xs) (.int y :: iL ys) = _
      simp only [PyData.eqvAll, ih, eqv_ii]
      by_cases h : x = y <;> simp [h]
theorem eqv_l (xs ys : List Int) : PyData.eqv (.list (iL xs)) (.list (iL ys)) = decide (xs = ys) := by
  simp only [PyData.eqv, eqv_li]
section
variable {K : PySem.W.Frag} {Γ : List Cell} {Θ : List Tmp}
theorem r2_eqSL {ns ys : List Int} {y : Tmp} {Q : List Cell → Tmp → Prop} (hy : rd Γ y (.list (iL ys))) (q : Q Γ (.dt (.bool (decide (ns = ys))))) : R2V K (rEqD K) Γ Θ (.sc ns) y Q := r2_eqS hy (shp_ok (shp_li _) (by decide)) (shp_ok (shp_li _) (by decide)) (by rw [eqv_l]; exact q)
end
theorem atI_in {α : Type} {xs : List α} {i : Int} (h0 : 0 ≤ i) (h1 : i < xs.length) : ∃ x, atI xs i = some x ∧ x ∈ xs := by
  obtain ⟨n, rfl⟩ := Int.eq_ofNat_of_zero_le h0
  have hn : n < xs.length := by omega
  exact ⟨xs[n], atI_nat (List.getElem?_eq_getElem hn), List.getElem_mem _⟩
end Sh
namespace Sh
open PySem PySem.Spec PyProof.Rows L2 Lx Ld
def insA {α : Type} (l : List α) (j : Nat) (x : α) : List α := l.take j ++ [x] ++ l.drop j
theorem insA_len {α : Type} (l : List α) (j : Nat) (x : α) : (insA l j x).length = l.length + 1 := by
  unfold insA
  simp only [List.length_append, List.length_take, List.length_drop, List.length_singleton]
  omega
theorem insA_perm {α : Type} (l : List α) (j : Nat) (x : α) : (insA l j x).Perm (x :: l) := by
  unfold insA
  have h : (l.take j ++ [x] ++ l.drop j).Perm (x :: (l.take j ++ l.drop j)) := by
    rw [List.append_assoc]
    exact List.perm_middle
  rwa [List.take_append_drop] at h
theorem nums_ins (r : List (Option Int)) (j : Nat) : nums (insA r j none) = nums r := by
  unfold insA
  rw [nums_app, nums_app]
  show nums _ ++ [] ++ nums _ = _
  rw [List.append_nil, ← nums_app, List.take_append_drop]
theorem zipIdx_snoc {α : Type} (l : List α) (a : α) : (l ++ [a]).zipIdx = l.zipIdx ++ [(a, l.length)] := by
  rw [List.zipIdx_append]
  simp
def cntG (l : List Int) (a : Int) : Nat := (l.filter fun o => decide (o > a)).length
theorem gr_snoc (l : List Int) (a : Int) : gr (l ++ [a]) = gr l ++ [(cntG l a : Int)] := by
  unfold gr cntG
  rw [zipIdx_snoc, List.map_append, List.map_singleton]
  congr 1
  · refine List.map_congr_left fun p hp => ?_
    have := (List.mem_zipIdx_iff_getElem?.mp hp)
    have := (List.getElem?_eq_some_iff.mp this).1
    rw [List.take_append_of_le_length (by omega)]
  · simp only
    rw [List.take_left']
    rfl
theorem sum_ite (l : List Int) (a : Int) : (l.map fun o => if decide (o > a) = true then (1 : Int) else 0).sum = (cntG l a : Int) := by
  unfold cntG
  induction l with
  | nil => rfl
  | cons o l ih =>
    rw [List.map_cons, List.sum_cons, ih, List.filter_cons]
    by_cases h : decide (o > a) = true
    · rw [if_pos h, if_pos h, List.length_cons]
      omega
    · rw [if_neg h, if_neg h]
      omega
end Sh
namespace Sh
open PySem PySem.Spec PyProof.Rows L2 Lx Ld
theorem rng0_len {m : Nat} : (rngD 0 (m : Int)).length = m := by rw [rngD_len]; omega
theorem rng0 {m i : Nat} {d : Dat} (h : (rngD 0 (m : Int))[i]? = some d) : i < m ∧ d = .int (i : Int) := by
  have hi := (List.getElem?_eq_some_iff.mp h).1
  rw [rngD_len] at hi
  rw [rngD_at hi] at h
  exact ⟨by omega, by cases h; rw [Int.zero_add]⟩
theorem iL_ins (l : List Int) (j : Nat) (x : Int) : (iL l).take j ++ [PyData.int x] ++ (iL l).drop j = iL (insA l j x) := by
  simp only [iL, insA, List.map_append, List.map_take, List.map_drop, List.map_cons, List.map_nil]
theorem oL_ins (l : List (Option Int)) (j : Nat) (x : Option Int) : (oL l).take j ++ [oD x] ++ (oL l).drop j = oL (insA l j x) := by
  simp only [oL, insA, List.map_append, List.map_take, List.map_drop, List.map_cons, List.map_nil]
end Sh
namespace Sh
end Sh
namespace Sh
theorem flat_take_le (ll : List (List Int)) (n : Nat) : ((ll.take n).flatten).length ≤ ll.flatten.length := by
  have h : ll.flatten = (ll.take n).flatten ++ (ll.drop n).flatten := by rw [← List.flatten_append, List.take_append_drop]
  rw [h, List.length_append]
  omega
end Sh
set_option Elab.async false
set_option linter.all false
set_option maxRecDepth 100000
namespace Sh
open PySem PySem.Spec PyProof.Rows L2 Lx Ld
/-- all that is new stands still from now on -/
def fzN (S : Hs) (H : Hp) : Hp := fun a => match S.h a with
  | none => H a
  | some _ => S.b a
theorem fzN_new {S : Hs} {H : Hp} {a : Addr} (h : S.h a = none) : fzN S H a = H a := by unfold fzN; rw [h]
theorem fzN_gr {S : Hs} {H : Hp} (sub : Same S.b S.h) (g : Same S.h H) : Gr L0 S ⟨fzN S H, H⟩ := by
  refine ⟨fun a o e => ?_, fun a o _ e => g a o e, fun a e n => ?_, fun a n => ?_⟩
  · show fzN S H a = some o
    unfold fzN
    rw [sub a o e]
    exact e
  · show fzN S H a = none
    unfold fzN
    cases q : S.h a with
    | none => exact absurd q n
    | some o => exact e
  · cases q : S.h a with
    | none => exact absurd q n
    | some o => show H a ≠ none; rw [g a o q]; exact fun z => nomatch z
theorem fzN_sub {S : Hs} {H : Hp} (sub : Same S.b S.h) (g : Same S.h H) : Same (fzN S H) H := fun a o e => by
  unfold fzN at e
  cases q : S.h a with
  | none => rw [q] at e; exact e
  | some o' => rw [q] at e; exact g a o (sub a o e)
structure LotJ (S : Hs) (ll : List (List Int)) (m : Addr) (H : Hp) (ps : List Addr) : Prop where
  same : Same S.h H
  new : S.h m = none
  at_ : H m = some (.lst (ps.map V.ref))
  nd : (m :: ps).Nodup
  news : ∀ p ∈ ps, S.h p = none
  len : ps.length = ll.length
  each : ∀ (j : Nat) (p : Addr) (l : List Int), ps[j]? = some p → ll[j]? = some l → H p = some (.lst (l.map V.int))
theorem lotJ_add {S : Hs} {ll : List (List Int)} {m p : Addr} {H : Hp} {ps : List Addr} (J : LotJ S ll m H ps) (hp : H p = none) : LotJ S (ll ++ [[]]) m (upd (upd H p (.lst [])) m (.lst (ps.map V.ref ++ [.ref p]))) (ps ++ [p]) := by
  have pm : p ≠ m := fun e => by rw [e, J.at_] at hp; cases hp
  have pps : p ∉ ps := fun e => by
    obtain ⟨j, hj⟩ := List.getElem?_of_mem e
    have hl := (List.getElem?_eq_some_iff.mp hj).1
    rw [J.each j p (ll[j]'(by rw [← J.len]; exact hl)) hj (List.getElem?_eq_getElem _)] at hp
    cases hp
  have hS : S.h p = none := by
    cases q : S.h p with
    | none => rfl
    | some o => rw [J.same p o q] at hp; cases hp
  refine ⟨fun a o e => ?_, J.new, ?_, ?_, fun q hq => ?_, by rw [List.length_append, List.length_append, J.len]; rfl, fun j q l h1 h2 => ?_⟩
  · have am : a ≠ m := fun z => by rw [z, J.new] at e; cases e
    have ap : a ≠ p := fun z => by rw [z, hS] at e; cases e
    rw [upd_ne am, upd_ne ap]
    exact J.same a o e
  · rw [upd_same, List.map_append]
    rfl
  · have := J.nd
    rw [List.nodup_cons] at this ⊢
    refine ⟨fun z => ?_, ?_⟩
    · rcases List.mem_append.mp z with z | z
      · exact this.1 z
      · exact pm (List.mem_singleton.mp z).symm
    · refine List.nodup_append.mpr ⟨this.2, by simp, fun a ha b hb => ?_⟩
      rw [List.mem_singleton.mp hb]
      exact fun z => pps (z ▸ ha)
  · rcases List.mem_append.mp hq with z | z
    · exact J.news q z
    · rw [List.mem_singleton.mp z]; exact hS
  · by_cases hj : j < ps.length
    · rw [List.getElem?_append_left hj] at h1
      rw [List.getElem?_append_left (by rw [← J.len]; exact hj)] at h2
      have qm : q ≠ m := fun z => (List.nodup_cons.mp J.nd).1 (z ▸ List.mem_of_getElem? h1)
      have qp : q ≠ p := fun z => pps (z ▸ List.mem_of_getElem? h1)
      rw [upd_ne qm, upd_ne qp]
      exact J.each j q l h1 h2
    · rw [List.getElem?_append_right (by omega)] at h1
      rw [List.getElem?_append_right (by rw [← J.len]; omega), ← J.len] at h2
      cases k : j - ps.length with
      | zero =>
        rw [k] at h1 h2
        cases h1
        cases h2
        rw [upd_ne pm, upd_same]
        rfl
      | succ k' => rw [k] at h1; cases h1
theorem lotJ_put {S : Hs} {ll : List (List Int)} {m p : Addr} {H : Hp} {ps : List Addr} {n : Int} {l : List Int} (J : LotJ S ll m H ps) (hp : ps[ps.length - 1]? = some p) (hl : ll[ll.length - 1]? = some l) :
    LotJ S (ll.set (ll.length - 1) (l ++ [n])) m (upd H p (.lst (l.map V.int ++ [.int n]))) ps := by
  have pps := List.mem_of_getElem? hp
  have pm : p ≠ m := fun z => (List.nodup_cons.mp J.nd).1 (z ▸ pps)
  refine ⟨fun a o e => ?_, J.new, by rw [upd_ne pm.symm]; exact J.at_, J.nd, J.news, by rw [List.length_set]; exact J.len, fun j q l' h1 h2 => ?_⟩
  · have ap : a ≠ p := fun z => by rw [z, J.news p pps] at e; cases e
    rw [upd_ne ap]
    exact J.same a o e
  · by_cases hj : j = ps.length - 1
    · subst hj
      rw [hp] at h1
      cases h1
      rw [J.len, List.getElem?_set_self (by have := (List.getElem?_eq_some_iff.mp hl).1; omega)] at h2
      cases h2
      rw [upd_same, List.map_append]
      rfl
    · rw [List.getElem?_set_ne (by rw [← J.len]; exact fun z => hj z.symm)] at h2
      have qp : q ≠ p := fun z => by
        subst z
        have h3 := (List.nodup_cons.mp J.nd).2
        have a1 := (List.getElem?_eq_some_iff.mp h1).1
        have a2 := (List.getElem?_eq_some_iff.mp hp).1
        exact hj ((List.getElem?_inj a1 h3).mp (h1.trans hp.symm))
      rw [upd_ne qp]
      exact J.each j q l' h1 h2
theorem lotJ_dq {S : Hs} {ll : List (List Int)} {m : Addr} {H : Hp} {ps : List Addr} (J : LotJ S ll m H ps) : Dq (fzN S H) (.ref m) (.list (lL ll)) := by
  refine .lst (by rw [fzN_new J.new]; exact J.at_) ?_
  have h : ∀ (ps : List Addr) (ll : List (List Int)), ps.length = ll.length → (∀ p ∈ ps, S.h p = none) → (∀ (j : Nat) (p : Addr) (l : List Int), ps[j]? = some p → ll[j]? = some l → H p = some (.lst (l.map V.int))) → DqAll (fzN S H) (ps.map V.ref) (lL ll) := by
    intro ps
    induction ps with
    | nil =>
      intro ll h1 _ _
      cases ll with
      | nil => exact .nil
      | cons l ll => cases h1
    | cons p ps ih =>
      intro ll h1 h2 h3
      cases ll with
      | nil => cases h1
      | cons l ll =>
        refine .cons (.lst (by rw [fzN_new (h2 p (by simp))]; exact h3 0 p l rfl rfl) (dpa_of_ints l)) (ih ll (by simpa using h1) (fun q hq => h2 q (List.mem_cons_of_mem _ hq)) fun j q l' a b => h3 (j + 1) q l' a b)
  exact h ps ll J.len J.news J.each
section
variable {K : PySem.W.Frag}
def oV : Option Int → V
  | none => .non
  | some n => .int n
theorem dq_oD {H : Hp} {v : V} {o : Option Int} (h : Dq H v (oD o)) : v = oV o := by
  cases o with
  | none => exact dp_none h
  | some n => exact dp_int h
theorem lots_ss (r : List (Option Int)) (hr : r.length ≤ 100) : VSs K [.dt (.tuple (oL r)), .no, .no]
    (tSeq (tAsg (tLst (tCons (tLst tNil) tNil)) (gName 1)) (tSeq (tFor (iTup K (tVar 0)) (gName 2)
      (tIfS (tTest (tOp rIsN (tVar 2) (tC V.non))) (tDrop (tBM K "list" rAppend (tVar 1) (tCons (tLst tNil) tNil)))
        (tDrop (tBM K "list" rAppend (tOp (rIxL K) (tVar 1) (tUn (rU fun i => V.int (-i)) (tC (V.int 1)))) (tCons (tVar 2) tNil))))) (tRet (tVar 1))))
    ⟨fun _ => PyData.none = .list (lL (lots r)), fun _ d => d = .list (lL (lots r)), fun _ => False, fun _ => False⟩ := fun ss L S0 σ τ S D E kn kr kb kc => by
  obtain ⟨v0, e0, q0⟩ : ∃ v, σ[0]? = some (some v) ∧ Dq S.b v (.tuple (oL r)) := by
    obtain ⟨w, h1, _⟩ := E.ok
    exact h1 0 _ rfl
  obtain ⟨a, o, xs, ev, _, ha, pa⟩ := dp_tup q0
  subst ev
  have hS := E.sub _ _ ha
  have hl3 : σ.length = 3 := E.len
  refine ⟨Nat.zero_le _, fun p hp => ⟨gl_le (by simp), fun m hm => ?_⟩⟩
  have pm : p ≠ m := fun z => by rw [← z, upd_same] at hm; cases hm
  have hm0 : S.h m = none := by rw [upd_ne pm.symm] at hm; exact hm
  have J0 : LotJ S [[]] m (upd (upd S.h p (.lst [])) m (.lst [.ref p])) [p] := by
    refine ⟨fun b o e => ?_, hm0, upd_same, by simp [pm.symm], fun q hq => by rw [List.mem_singleton.mp hq]; exact hp, rfl, fun j q l h1 h2 => ?_⟩
    · rw [upd_ne (fun z => by rw [z, hm0] at e; cases e), upd_ne (fun z => by rw [z, hp] at e; cases e)]
      exact e
    · cases j with
      | zero =>
        cases h1
        cases h2
        rw [upd_ne pm, upd_same]
        rfl
      | succ j => cases h1
  have sa : ∀ {H : Hp}, Same S.h H → SqT K H a xs := fun g => sqt_f (g _ _ hS)
  refine ⟨.ref a, by rw [List.getElem?_set_ne (by decide)]; exact e0, a, rfl, ⟨xs, sa J0.same⟩, ?_⟩
  refine ⟨fun i k σ' H => k = xs.length - i ∧ i ≤ xs.length ∧ σ'.length = 3 ∧ σ'[1]? = some (some (.ref m)) ∧ (∀ j, j ≠ 1 → j ≠ 2 → σ'[j]? = σ[j]?) ∧ ∃ ps, LotJ S (lots (r.take i)) m H ps,
    ⟨_, rfl, Nat.zero_le _, by rw [List.length_set]; exact hl3, List.getElem?_set_self (by omega), fun j h1 _ => List.getElem?_set_ne (Ne.symm h1), [p], J0⟩, ?_⟩
  rintro i k σ' H ⟨rfl, hi, hlen, hs1, hsj, ps, J⟩
  by_cases hlt : i < xs.length
  · refine .inr ⟨⟨xs, xs[i], sa J.same, List.getElem?_eq_getElem hlt⟩, fun σ2 H2 => σ2.length = 3 ∧ σ2[1]? = some (some (.ref m)) ∧ (∀ j, j ≠ 1 → j ≠ 2 → σ2[j]? = σ[j]?) ∧ ∃ ps, LotJ S (lots (r.take (i + 1))) m H2 ps,
      fun σ2 H2 ⟨h1, h2, h3, ps, h4⟩ => ⟨_, by omega, rfl, hlt, h1, h2, h3, ps, h4⟩, fun x H' ⟨eH, hx⟩ => ?_⟩
    subst eH
    obtain ⟨d, hd, gd⟩ := pa.getV (hx xs (sa J.same))
    obtain ⟨o', ho, ed⟩ := oL_at hd
    subst ed
    have ex := dq_oD gd
    have s2 : (σ'.set 2 (some x))[2]? = some (some x) := List.getElem?_set_self (by omega)
    have s1 : (σ'.set 2 (some x))[1]? = some (some (.ref m)) := by rw [List.getElem?_set_ne (by decide)]; exact hs1
    have nxt : ∀ {H2 : Hp} {ps2 : List Addr}, LotJ S (lotStep (lots (r.take i)) o') m H2 ps2 → (σ'.set 2 (some x)).length = 3 ∧ (σ'.set 2 (some x))[1]? = some (some (.ref m)) ∧ (∀ j, j ≠ 1 → j ≠ 2 → (σ'.set 2 (some x))[j]? = σ[j]?) ∧ ∃ ps, LotJ S (lots (r.take (i + 1))) m H2 ps := fun {H2 ps2} J2 =>
      ⟨by rw [List.length_set]; exact hlen, s1, fun j h1 h2 => by rw [List.getElem?_set_ne (Ne.symm h2)]; exact hsj j h1 h2, ps2, by rw [take_snoc ho, lots_snoc]; exact J2⟩
    have hlo := lots_len (r.take i)
    have hne := lots_ne (r.take i)
    have htk : (r.take i).length ≤ r.length := by simp [List.length_take]; omega
    have hpl := J.len
    refine ⟨x, s2, rfl, _, rfl, ?_⟩
    cases o' with
    | none =>
      have ex' : x = V.non := ex
      subst ex'
      rw [if_pos (by simp)]
      refine ⟨_, s1, .inl ⟨rfl, _, .of J.at_⟩, Nat.zero_le _, fun q hq => ⟨m, ps.map V.ref, .ref q, rfl, rfl, ?_, ?_, ?_⟩⟩
      · rw [upd_ne (fun z => by rw [← z, J.at_] at hq; cases hq)]
        exact J.at_
      · rw [List.length_map]
        exact gl_lt (by omega)
      · exact nxt (lotJ_add J hq)
    | some n =>
      have exn : x = V.int n := ex
      subst exn
      rw [if_neg (by simp)]
      have hlst : (ps[ps.length - 1]?) = some (ps[ps.length - 1]'(by omega)) := List.getElem?_eq_getElem _
      have hll : ((lots (r.take i))[(lots (r.take i)).length - 1]?) = some ((lots (r.take i))[(lots (r.take i)).length - 1]'(by omega)) := List.getElem?_eq_getElem _
      have hat : H' (ps[ps.length - 1]'(by omega)) = some (.lst (((lots (r.take i))[(lots (r.take i)).length - 1]'(by omega)).map V.int)) := J.each (ps.length - 1) _ _ hlst (by rw [hpl]; exact hll)
      have hmem := lots_mem (List.mem_of_getElem? hll)
      have hnl := nums_len (r.take i)
      refine ⟨_, s1, 1, rfl, m, _, _, .ref (ps[ps.length - 1]'(by omega)), rfl, rfl, .of J.at_, atI_last ?_, .inl ⟨rfl, _, .of hat⟩, V.int n, s2, _, _, V.int n, rfl, rfl, hat, ?_, ?_⟩
      · rw [List.length_map, List.getElem?_map, hlst]
        rfl
      · rw [List.length_map]
        exact gl_lt (by omega)
      · refine nxt (ps2 := ps) ?_
        show LotJ S ((lots (r.take i)).set _ _) m _ _
        rw [List.getD_eq_getElem?_getD, hll, Option.getD_some]
        exact lotJ_put J hlst hll
  · have ei : i = r.length := by
      have := pa.len
      rw [List.length_map] at this
      omega
    rw [ei, List.take_length] at J
    refine .inl ⟨⟨xs, sa J.same, by omega⟩, .ref m, hs1, ?_⟩
    have g := fzN_gr E.sub J.same
    have E2 : Ld.Env K L S0 [.no, .no, .no] (srcT ss) σ' τ ⟨fzN S H, H⟩ := by
      refine ((E.grow g (fzN_sub E.sub J.same)).forget (Γ' := [.no, .no, .no]) rfl fun j c e => .inl ?_).reslot (vs := [1, 2]) (by rw [hlen, hl3]) (fun j hj => hsj j (fun z => hj (by simp [z])) (fun z => hj (by simp [z]))) (by simp) nb_srcT
      match j, e with
      | 0, e => cases e; rfl
      | 1, e => cases e; rfl
      | 2, e => cases e; rfl
    exact kr _ _ _ _ _ E2 (lotJ_dq J) rfl
end
end Sh
set_option Elab.async false
set_option linter.all false
set_option maxRecDepth 100000
namespace Sh
open PySem PySem.Spec PyProof.Rows L2 Lx Ld
/-! ### counts and rows: there and back -/
def gc (l : List Int) (x : Int) : Nat := cntG (l.takeWhile fun y => y != x) x
theorem take_idx (x : Int) : ∀ l : List Int, l.take (l.idxOf x) = l.takeWhile fun y => y != x
  | [] => rfl
  | y :: l => by
    rw [List.idxOf_cons, List.takeWhile_cons]
    by_cases h : y = x
    · subst h
      simp
    · have : (y == x) = false := by simp [h]
      rw [this]
      simp [h, take_idx x l]
theorem gr_idx {l : List Int} {x : Int} (h : x ∈ l) : (gr l)[l.idxOf x]? = some (gc l x : Int) := by
  have hi := List.idxOf_lt_length_iff.mpr h
  unfold gr gc cntG
  rw [List.getElem?_map, List.getElem?_zipIdx, List.getElem?_eq_getElem hi, Option.map_some, Option.map_some, ← take_idx]
  simp
theorem tw_in {x : Int} (R : List Int) : ∀ {A : List Int}, x ∈ A → ((A ++ R).takeWhile fun y => y != x) = A.takeWhile fun y => y != x
  | y :: A, h => by
    rw [List.cons_append, List.takeWhile_cons, List.takeWhile_cons]
    by_cases h1 : y = x
    · simp [h1]
    · rw [tw_in R ((List.mem_cons.mp h).resolve_left (fun z => h1 z.symm))]
theorem tw_out {x : Int} (R : List Int) : ∀ {A : List Int}, x ∉ A → ((A ++ R).takeWhile fun y => y != x) = A ++ R.takeWhile fun y => y != x
  | [], _ => rfl
  | y :: A, h => by
    have h1 : y ≠ x := fun z => h (by simp [z])
    rw [List.cons_append, List.takeWhile_cons, tw_out R fun z => h (List.mem_cons_of_mem _ z)]
    simp [h1]
theorem cntG_app (A B : List Int) (x : Int) : cntG (A ++ B) x = cntG A x + cntG B x := by
  unfold cntG
  rw [List.filter_append, List.length_append]
theorem cntG_all {A : List Int} {x : Int} (h : ∀ y ∈ A, y > x) : cntG A x = A.length := by
  unfold cntG
  rw [List.filter_eq_self.mpr fun y hy => decide_eq_true (h y hy)]
theorem gc_self {A B : List Int} {d : Int} (h : ∀ y ∈ A, y > d) : gc (A ++ [d] ++ B) d = A.length := by
  have hn : d ∉ A := fun z => by have := h d z; omega
  unfold gc
  rw [List.append_assoc, tw_out _ hn, cntG_app, cntG_all h]
  simp [cntG]
theorem gc_other {A B : List Int} {d x : Int} (h : x > d) : gc (A ++ [d] ++ B) x = gc (A ++ B) x := by
  have hd : (d != x) = true := by simp; omega
  have h1 : ¬ d > x := by omega
  unfold gc
  rw [List.append_assoc]
  by_cases hx : x ∈ A
  · rw [tw_in _ hx, tw_in _ hx]
  · rw [tw_out _ hx, tw_out _ hx, cntG_app, cntG_app]
    congr 1
    rw [List.cons_append, List.nil_append, List.takeWhile_cons, if_pos hd]
    unfold cntG
    rw [List.filter_cons, if_neg (by simpa using h1)]
theorem rowF_app {D cs : List Int} {d c : Int} (h : cs.length = D.length) : rowF (D ++ [d]) (cs ++ [c]) = insA (rowF D cs) c.toNat d := by
  unfold rowF
  rw [List.zip_append h.symm, List.foldl_append]
  rfl
theorem snoc_of {n : Nat} {l : List Int} (h : l.length = n + 1) : ∃ l' a, l = l' ++ [a] ∧ l'.length = n := by
  refine ⟨l.dropLast, l.getLast (List.ne_nil_of_length_pos (by omega)), (List.dropLast_concat_getLast _).symm, ?_⟩
  rw [List.length_dropLast]
  omega
theorem pw_last {D : List Int} {d : Int} (h : (D ++ [d]).Pairwise (· > ·)) : D.Pairwise (· > ·) ∧ ∀ x ∈ D, x > d := by
  rw [List.pairwise_append] at h
  exact ⟨h.1, fun x hx => h.2.2 x hx d (by simp)⟩
/-- a row is told by its numbers and counts -/
theorem rowF_gc {n : Nat} : ∀ {D N : List Int}, D.length = n → D.Pairwise (· > ·) → N.Perm D → rowF D (D.map fun x => (gc N x : Int)) = N ∧ CntOk (D.map fun x => (gc N x : Int)) n := by
  induction n with
  | zero =>
    intro D N h1 h2 h3
    have e := List.length_eq_zero_iff.mp h1
    subst e
    rw [h3.eq_nil]
    exact ⟨rfl, rfl, fun i c h => by cases h⟩
  | succ n ih =>
    intro D N h1 h2 h3
    obtain ⟨D', d, rfl, l1⟩ := snoc_of h1
    obtain ⟨p1, p2⟩ := pw_last h2
    obtain ⟨A, B, rfl⟩ := List.append_of_mem (h3.mem_iff.mpr (show d ∈ D' ++ [d] by simp))
    have q : (A ++ B).Perm D' := by
      have h4 : (d :: (A ++ B)).Perm (d :: D') := (List.perm_middle.symm.trans h3).trans (List.perm_append_singleton d D')
      exact h4.cons_inv
    obtain ⟨i1, i2⟩ := ih l1 p1 q
    have big : ∀ y ∈ A ++ B, y > d := fun y hy => p2 y (q.mem_iff.mp hy)
    have e1 : (D'.map fun x => (gc (A ++ d :: B) x : Int)) = D'.map fun x => (gc (A ++ B) x : Int) := List.map_congr_left fun x hx => by
      rw [show A ++ d :: B = A ++ [d] ++ B by simp, gc_other (p2 x hx)]
    have e2 : (gc (A ++ d :: B) d : Int) = (A.length : Int) := by
      rw [show A ++ d :: B = A ++ [d] ++ B by simp, gc_self fun y hy => big y (List.mem_append_left _ hy)]
    have hq := q.length_eq
    rw [List.length_append] at hq
    rw [List.map_append, List.map_singleton, e1, e2]
    refine ⟨?_, ?_, fun i c hc => ?_⟩
    · rw [rowF_app (by rw [List.length_map]), i1, Int.toNat_natCast]
      unfold insA
      rw [List.take_left' rfl, List.drop_left' rfl]
      simp
    · rw [List.length_append, List.length_map]
      simp only [List.length_singleton]
      omega
    · by_cases hi : i < (D'.map fun x => (gc (A ++ B) x : Int)).length
      · rw [List.getElem?_append_left hi] at hc
        exact i2.2 i c hc
      · rw [List.getElem?_append_right (by omega)] at hc
        rw [List.length_map] at hi hc
        cases k : i - D'.length with
        | zero =>
          rw [k] at hc
          cases hc
          omega
        | succ k' => rw [k] at hc; cases hc
theorem dsc_pw {N : List Int} (h : N.Nodup) : (dsc N).Pairwise (· > ·) := by
  have h1 := dsc_srt N
  have h2 : (dsc N).Nodup := (dsc_perm N).nodup_iff.mpr h
  exact (h1.and h2).imp fun ⟨a, b⟩ => by omega
theorem asc_rev (N : List Int) : (asc N).reverse = dsc N := by
  refine eq_dsc ((List.reverse_perm _).trans (asc_perm N)) ?_
  show (asc N).reverse.Pairwise (· ≥ ·)
  rw [List.pairwise_reverse]
  exact asc_srt N
theorem asc_of_perm {M N : List Int} (h : M.Perm N) : asc M = asc N := eq_asc ((asc_perm M).trans h) (asc_srt M)
end Sh
namespace Sh
open PySem PySem.Spec PyProof.Rows L2 Lx Ld
section
variable {K : PySem.W.Frag} {Γ : List Cell} {Θ : List Tmp}
theorem eqF_ii (a b : Int) : eqF (.int a) (.int b) = decide (a = b) := by simp [eqF, BEq.beq]
theorem iL_fl (ns : List Int) : (iL ns).all flD = true := by simp [flD]
theorem idx_at {ns : List Int} {n : Int} (h : n ∈ ns) : (iL ns)[ns.idxOf n]? = some (.int n) := by
  have hi := List.idxOf_lt_length_iff.mpr h
  rw [List.getElem?_map, List.getElem?_eq_getElem hi]
  simp
theorem idx_no {ns : List Int} {n : Int} {m : Nat} {z : Dat} (hm : m < ns.idxOf n) (hz : (iL ns)[m]? = some z) : eqF z (.int n) = false := by
  rw [List.getElem?_map] at hz
  obtain ⟨k, hk, rfl⟩ := Option.map_eq_some_iff.mp hz
  rw [eqF_ii]
  refine decide_eq_false fun e => ?_
  subst e
  obtain ⟨hl, e2⟩ := List.getElem?_eq_some_iff.mp hk
  have := List.not_of_lt_findIdx (xs := ns) (p := (· == k)) (i := m) hm
  simp [e2] at this
theorem ve_indexI {ta te : TE} {Q : List Cell → Tmp → Prop}
    (h : VE K Γ Θ ta fun Γ1 x => (∃ ds, rd Γ1 x (.list ds)) ∧ VE K Γ1 (x :: Θ) te fun Γ2 y => ∃ ns n, rd Γ2 x (.list (iL ns)) ∧ y = .dt (.int n) ∧ n ∈ ns ∧ Q Γ2 (.dt (.int (ns.idxOf n : Nat)))) :
    VE K Γ Θ (tBM K "list" (rIndex K) ta (tCons te tNil)) Q := ve_indexL (ve_mono h fun Γ1 x ⟨h1, h2⟩ => ⟨h1, ve_mono h2 fun Γ2 y ⟨ns, n, g1, g2, g3, g4⟩ => by
  subst g2
  exact ⟨iL ns, .int n, ns.idxOf n, .int n, g1, rd_dt, rfl, iL_fl ns, idx_at g3, by rw [eqF_ii]; simp, fun m z hm hz => idx_no hm hz, g4⟩⟩)
theorem ve_tidxI {ta te : TE} {Q : List Cell → Tmp → Prop}
    (h : VE K Γ Θ ta fun Γ1 x => ∃ ns, x = .dt (.tuple (iL ns)) ∧ VE K Γ1 (x :: Θ) te fun Γ2 y => ∃ n, y = .dt (.int n) ∧ n ∈ ns ∧ Q Γ2 (.dt (.int (ns.idxOf n : Nat)))) :
    VE K Γ Θ (tTIdx ta te) Q := ve_tidx (ve_mono h fun Γ1 x ⟨ns, hx, h2⟩ => ⟨iL ns, hx, ve_mono h2 fun Γ2 y ⟨n, g2, g3, g4⟩ => by
  subst g2
  exact ⟨.int n, ns.idxOf n, .int n, rd_dt, rfl, iL_fl ns, idx_at g3, by rw [eqF_ii]; simp, fun m z hm hz => idx_no hm hz, g4⟩⟩)
end
end Sh
namespace Sh
open PySem PySem.Spec PyProof.Rows L2 Lx Ld
section
variable {K : PySem.W.Frag} {Γ : List Cell} {Θ : List Tmp}
theorem eqvAll_rfl : ∀ {ds : List Dat}, (∀ d ∈ ds, PyData.eqv d d = true) → PyData.eqvAll ds ds = true
  | [], _ => by simp only [PyData.eqvAll]
  | d :: ds, h => by
    have h1 := h d (by simp)
    have h2 := eqvAll_rfl fun e he => h e (List.mem_cons_of_mem _ he)
    simp only [PyData.eqvAll, h1, h2]
    rfl
theorem eqv_rfl : ∀ (n : Nat) (d : Dat), Shp n d → PyData.eqv d d = true
  | 0, d, h => by
    have := h.2
    cases d <;> first
      | (simp [PyData.depth] at this; done)
      | (simp [PyData.eqv]; done)
  | n + 1, d, h => by
    have h1 := h.1
    have h2 := h.2
    have each : ∀ ds : List Dat, PyData.canLayAll0 ds = true → PyData.depthAll ds ≤ n → ∀ e ∈ ds, PyData.eqv e e = true := by
      intro ds
      induction ds with
      | nil => intro _ _ e he; cases he
      | cons e ds ih =>
        intro a b f hf
        simp only [PyData.canLayAll0, Bool.and_eq_true] at a
        simp only [PyData.depthAll] at b
        rcases List.mem_cons.mp hf with rfl | hf
        · exact eqv_rfl n f ⟨a.1, by omega⟩
        · exact ih a.2 (by omega) f hf
    cases d with
    | none => simp [PyData.eqv]
    | bool b => simp [PyData.eqv]
    | int i => simp [PyData.eqv]
    | str x => simp [PyData.eqv]
    | list ds =>
      simp only [PyData.canLay0] at h1
      simp only [PyData.depth] at h2
      simp only [PyData.eqv]
      exact eqvAll_rfl (each ds h1 (by omega))
    | tuple ds =>
      simp only [PyData.canLay0] at h1
      simp only [PyData.depth] at h2
      simp only [PyData.eqv]
      exact eqvAll_rfl (each ds h1 (by omega))
    | dict kvs => simp [PyData.canLay0] at h1
/-- two that are alike -/
theorem r2_eqA {x y : Tmp} {d e : Dat} {n : Nat} {Q : List Cell → Tmp → Prop} (hx : rd Γ x d) (hy : rd Γ y e) (hs : Shp n d) (hn : n ≤ 64) (he : d = e) (q : Q Γ (.dt (.bool true))) : R2V K (rEqD K) Γ Θ x y Q := by
  subst he
  exact r2_eqD hx hy (shp_ok hs hn) (shp_ok hs hn) (by rw [eqv_rfl n d hs]; exact q)
theorem r2_neA {x y : Tmp} {d e : Dat} {n : Nat} {Q : List Cell → Tmp → Prop} (hx : rd Γ x d) (hy : rd Γ y e) (hs : Shp n d) (hn : n ≤ 64) (he : d = e) (q : Q Γ (.dt (.bool false))) : R2V K (rNeD K) Γ Θ x y Q := by
  subst he
  exact r2_neD hx hy (shp_ok hs hn) (shp_ok hs hn) (by rw [eqv_rfl n d hs]; exact q)
end
end Sh
namespace Sh
end Sh
namespace Sh
end Sh
set_option Elab.async false
set_option linter.all false
set_option maxRecDepth 100000
namespace Ld
open PySem PySem.Spec PyProof.Rows L2 Lx
def spV {α : Type} (K : PySem.W.Frag) (A : α → List Arg) (pre : α → List Dat → Prop) (post : α → List Dat → List Dat → Dat → Prop) : Sp := fun vs H Q _ => ∃ (B : Hp) (t : Addr) (rest : List V) (x : α) (zs : List Dat), vs = .ref t :: rest ∧ Same B H ∧ ArgsOk K B rest (A x) ∧
  B t = none ∧ (∃ us, H t = some (.lst us) ∧ DqAll B us zs) ∧ pre x zs ∧
  ∀ v S' zs' d, Gr (fun a => a = t) ⟨B, H⟩ S' → Same S'.b S'.h → S'.b t = none → (∃ us, S'.h t = some (.lst us) ∧ DqAll S'.b us zs') → Dq S'.b v d → post x zs zs' d → Q v S'.h
section
variable {K : PySem.W.Frag} {Γ : List Cell} {Θ : List Tmp}
theorem ve_callV {α : Type} {A : α → List Arg} {pre : α → List Dat → Prop} {post : α → List Dat → List Dat → Dat → Prop} {X : XK} {i : Nat} {t : TA} {Q : List Cell → Tmp → Prop} (h0 : ∃ ds, IsLs Γ i ds)
    (h : VAX K Γ Θ t fun Γ2 as => ∃ x zs, IsLs Γ2 i zs ∧ as = A x ∧ pre x zs ∧ ∀ zs' d, post x zs zs' d → Q (putC Γ2 i zs') (.dt d)) :
    VE K Γ Θ (tCall (spV K A pre post) [] X (tCons (tVar i) t)) Q := fun L S0 σ τ S Qv E k => by
  obtain ⟨ds, c1, hc1, hl1⟩ := h0
  obtain ⟨a, ea, _⟩ := E.own hc1 hl1
  refine ⟨_, ea, h L S0 σ τ S _ E fun Γ2 S2 vs as E2 p ⟨x, zs, ⟨c, hc, hl⟩, ex, hp, q⟩ => ?_⟩
  obtain ⟨a', ea', nb, us, hu, pu⟩ := E2.own hc hl
  rw [ea] at ea'; cases ea'
  show spV K A pre post ((.ref a :: vs) ++ []) S2.h Qv X
  rw [List.append_nil]
  subst ex
  refine ⟨S2.b, a, vs, x, zs, rfl, E2.sub, p, nb, ⟨us, hu, pu⟩, hp, fun v S' zs' d g s nb' hz hd hq => ?_⟩
  have q' := q zs' d hq
  rw [putC_eq hc] at q'
  exact k _ S' v _ ((E2.lent hc hl ea g s nb' hz).push hd) q'
/-- xs.remove(n), whole numbers -/
theorem ve_remove {i : Nat} {te : TE} {Q : List Cell → Tmp → Prop} (h0 : ∃ ds, IsLs Γ i ds) (h : VE K Γ Θ te fun Γ1 y => ∃ (ns : List Int) (n : Int), y = .dt (.int n) ∧ IsLs Γ1 i (ns.map .int) ∧ n ∈ ns ∧ Q (putC Γ1 i ((ns.erase n).map .int)) (.dt .none)) : VE K Γ Θ (tBM K "list" rRemI (tVar i) (tCons te tNil)) Q := fun L S0 σ τ S Qv E k => by
  obtain ⟨ds0, c0, hc0, hl0⟩ := h0
  obtain ⟨a, ea, _, us, hu, _⟩ := E.own hc0 hl0
  refine ⟨_, ea, .inl ⟨rfl, us, .of hu⟩, h L S0 σ τ S _ E fun Γ1 S1 v y E1 ⟨ns, n, ey, ⟨c, hc, hl⟩, hm, q⟩ => ?_⟩
  subst ey
  have ev : v = .int n := dp_int E1.dt
  obtain ⟨a', vs, ea', hv, p, mk⟩ := E1.pop.mutSlot hc hl
  rw [ea] at ea'; cases ea'
  have evs := dpa_ints p
  subst evs
  rw [putC_eq hc] at q
  have hi := List.idxOf_lt_length_iff.mpr hm
  have e1 : ns.eraseIdx (ns.idxOf n) = ns.erase n := (List.erase_eq_eraseIdx_of_idxOf rfl).symm
  refine ⟨a, ns, n, ns.idxOf n, rfl, by rw [ev], hv, by rw [List.getElem?_eq_getElem hi]; simp, fun m hmi e => ?_, ?_⟩
  · obtain ⟨h1, h2⟩ := List.getElem?_eq_some_iff.mp e
    have := List.not_of_lt_findIdx (xs := ns) (p := (· == n)) (i := m) hmi
    simp [h2] at this
  · rw [e1]
    exact k _ _ _ _ ((mk _ _ (dpa_of_ints _)).push .non) q
end
section
variable {P : Program} {w : World} {K : PySem.W.Frag} {mg : Str → Option Value} {base : Heap}
theorem ok_V {α : Type} {x qual : Str} {st : Stmt} {f : Addr} {fd : FuncData} {N ps : List Str} {k : Nat} {Ar : α → List Arg} {pre : α → List Dat → Prop} {post : α → List Dat → List Dat → Dat → Prop} (F : Fun K x qual st f fd) (Sc : FnScope N ps (defScope st)) (hl : ∀ x, (Ar x).length + 1 = ps.length) (hN : ps.length ≤ N.length)
    (hb : ∀ (cdv : Value) (A : Around) (outer : List PySem.Env) (s : Shared) (H : Hp) (E : XK), Room k (A.deeper (envOfC qual (defScope st) s.heap.objs.size f cdv)) →
      ∃ t, PSs (Bx P w K mg base N qual st f cdv A outer s H E) (defBody st) t ∧ ∀ x zs, pre x zs → VSs K (cells0 N (.ln zs :: (Ar x).map Arg.cell)) t
        ⟨fun Γ => ∃ zs', Γ[0]? = some (.ln zs') ∧ post x zs zs' .none, fun Γ d => ∃ zs', Γ[0]? = some (.ln zs') ∧ post x zs zs' d, fun _ => False, fun _ => False⟩) : FnOk P w K mg base CX0 (k + 1) f fd ps (spV K Ar pre post) := by
  refine F.ok Sc (fun vs H Q E h => ?_) (fun cdv A outer s H vs Q E hr h => ?_)
  · obtain ⟨B, t, rest, x, zs, rfl, _, p, _, _, hp, _⟩ := h
    have := hl x
    have := p.len
    simp only [List.length_cons] at *
    omega
  · obtain ⟨tr, ht, hv⟩ := hb cdv A outer s H E hr
    obtain ⟨B, t, rest, x, zs, rfl, sub, p, nb, hz, hp, q⟩ := h
    have hlv := hl x
    have hle := p.len
    refine ⟨tr, ht, ?_⟩
    have fin : ∀ {Γ' : List Cell} {σ' : L2.St} {S' : Hs} {v : V} {d : Dat}, Env K (fun a => a = t) ⟨B, H⟩ Γ' [] σ' [] S' → Dq S'.b v d → (∃ zs', Γ'[0]? = some (.ln zs') ∧ post x zs zs' d) → Q v S'.h := fun {Γ' σ' S' v d} E' hd ⟨zs', h1, z⟩ => by
      obtain ⟨wd, g1, _⟩ := E'.ok
      obtain ⟨b, _, o, hb⟩ := g1 0 _ h1
      cases hb
      exact q v S' zs' d E'.gr E'.sub o.nb o.is hd z
    refine hv x zs hp [] (fun a => a = t) ⟨B, H⟩ _ [] ⟨B, H⟩ _ (env_startU sub p nb hz (by omega)) (fun Γ' σ' S' E' z => ?_) (fun Γ' σ' S' v d E' hd z => fin E' hd z) (fun Γ' σ' S' E' z => z.elim) (fun Γ' σ' S' E' z => z.elim)
    exact fin E' .non z
end
end Ld
namespace Sh
open PySem PySem.Spec PyProof.Rows L2 Lx Ld
theorem eqv_ss (a b : Str) : PyData.eqv (.str a) (.str b) = decide (a = b) := by
  simp [PyData.eqv, BEq.beq]
theorem cut_last (ds : List Dat) : Ld.cutD ds none (some (-1)) = ds.dropLast := by
  unfold Ld.cutD
  rw [HT.sIx_none, List.drop_zero, Nat.sub_zero, List.dropLast_eq_take]
  congr 1
  show (if (-1 : Int) < 0 then ((-1 : Int) + (ds.length : Int)).toNat else min (-1 : Int).toNat ds.length) = _
  rw [if_pos (by decide)]
  omega
end Sh
namespace Ld
open PySem PySem.Spec PyProof.Rows L2 Lx
structure GlobS (K : PySem.W.Frag) (mg : Str → Option Value) (x : Str) (n : Str) : Prop where
  u : ∃ t, mg x = some (.str n t)
end Ld
namespace Sh
open PySem PySem.Spec PyProof.Rows L2 Lx Ld
theorem kb_ss : kitB "str" "str" = some true := by decide +kernel
def wd (l : Bool) : Str := if l then "light" else "heavy"
def sg (l : Bool) : Int := if l then 1 else -1
theorem wd_l (l : Bool) : decide (wd l = ("light" : Str)) = l := by cases l <;> decide +kernel
theorem wd_s (l : Bool) : SeqAt.shaped (.str (wd l)) = true := by cases l <;> decide +kernel
theorem light_s : SeqAt.shaped (.str "light") = true := by decide +kernel
section
variable {K : PySem.W.Frag} {Γ : List Cell} {Θ : List Tmp}
theorem r2_eqW {l : Bool} {Q : List Cell → Tmp → Prop} (q : Q Γ (.dt (.bool l))) : R2V K (rEqD K) Γ Θ (.dt (.str (wd l))) (.dt (.str "light")) Q := r2_eqD rd_dt rd_dt (wd_s l) light_s (by rw [eqv_ss, wd_l]; exact q)
end
def tm (l : Bool) (xs : List Int) : List Int := xs.map (sg l * ·)
theorem sg_sg (l : Bool) (x : Int) : sg l * (sg l * x) = x := by
  cases l
  · show -1 * (-1 * x) = x; omega
  · show 1 * (1 * x) = x; omega
theorem tm_tm (l : Bool) (xs : List Int) : tm l (tm l xs) = xs := by
  unfold tm
  rw [List.map_map]
  refine (List.map_congr_left fun x _ => sg_sg l x).trans (List.map_id xs)
theorem tm_len (l : Bool) (xs : List Int) : (tm l xs).length = xs.length := List.length_map _
theorem tm_inj (l : Bool) {a b : Int} (h : sg l * a = sg l * b) : a = b := by rw [← sg_sg l a, h, sg_sg]
theorem tm_nodup (l : Bool) {xs : List Int} (h : xs.Nodup) : (tm l xs).Nodup := h.map (sg l * ·) fun a b n e => n (tm_inj l e)
end Sh
set_option Elab.async false
set_option linter.all false
set_option maxRecDepth 100000
set_option maxHeartbeats 2000000
namespace Ld
open PySem PySem.Spec PyProof.Rows L2 Lx
/-- a tuple at a, a list at b, as they stand at each turn; the items in new pairs -/
def ItzM (K : PySem.W.Frag) (a b : Addr) : It := ⟨fun i H => ∃ (xs ys : List V) (x y : V), SqT K H a xs ∧ SqL K H b ys ∧ xs[i]? = some x ∧ ys[i]? = some y, fun i H v H' => ∃ T x y, v = .ref T ∧ H T = none ∧ H' = upd H T (.tup [x, y]) ∧ (∀ xs, SqT K H a xs → xs[i]? = some x) ∧ ∀ ys, SqL K H b ys → ys[i]? = some y, fun i H => ∃ xs ys : List V, SqT K H a xs ∧ SqL K H b ys ∧ (xs.length ≤ i ∨ ys.length ≤ i)⟩
theorem mem5 {c z TI TO i1 i2 : Addr} (h : c ∈ [z, TI, TO, i1, i2]) : c = z ∨ c = TI ∨ c = TO ∨ c = i1 ∨ c = i2 := by simpa using h
theorem turn_zipM {P : Program} {w : World} {K : PySem.W.Frag} {elts : List Expr} {kk : Nat} {tpos : Pos} {a b z TI TO i1 i2 : Addr} (D : ZipApart z TI TO i1 i2 a b) :
    Turn P w K (.Tuple elts kk tpos) (ItzM K a b) [z, TI, TO, i1, i2] z (fun i h => IsZip h z TI TO .none ∧ IsPair h TI (.ref i1) (.ref i2) ∧ (∃ x y, IsPair h TO x y) ∧ h.IsTupleIter i1 a i ∧ h.IsListIter i2 b i) where
  mem := by simp
  obj := fun i h st c hc => by
    obtain ⟨hz, hTI, ⟨x, y, hTO⟩, ⟨o1, e1, _, d1⟩, ⟨o2, e2, _, d2⟩⟩ := st
    rcases mem5 hc with q | q | q | q | q <;> rw [q]
    · exact ⟨_, hz, fun v q => nomatch q⟩
    · exact ⟨_, hTI, fun v q => nomatch q⟩
    · exact ⟨_, hTO, fun v q => nomatch q⟩
    · exact ⟨o1, e1, fun v q => by rw [d1] at q; cases q⟩
    · exact ⟨o2, e2, fun v q => by rw [d2] at q; cases q⟩
  keep := fun i h h' ⟨hz, hTI, ⟨x, y, hTO⟩, h1, h2⟩ k => ⟨k z (by simp) _ hz, k TI (by simp) _ hTI, ⟨x, y, k TO (by simp) _ hTO⟩, h1.at fun o q => k i1 (by simp) o q, h2.at fun o q => k i2 (by simp) o q⟩
  item := by
    intro X hP hw hK hc i pins s σ H E I hf st hg; subst hP hw hK
    obtain ⟨hz, hTI, ⟨x0, y0, hTO⟩, h1, h2⟩ := st; obtain ⟨xs, ys, x, y, hqx, hqy, hx, hy⟩ := hg
    obtain ⟨its, rv, p, _⟩ := I.tuple hqx; obtain ⟨its2, rv2, p2, _⟩ := I.list hqy; obtain ⟨u, hu, ru⟩ := rv.get hx; obtain ⟨u2, hu2, ru2⟩ := rv2.get hy
    have zlt : z < s.heap.objs.size := Heap.lt_size hz
    refine pyNext_zipG_item D (stp_t (xs := its.toArray)) (stp_l (xs := its2.toArray)) hz hTI hTO ⟨h1, p⟩ ⟨h2, p2.isList⟩ (x := u) (y := u2) (by simpa using hu) (by simpa using hu2) fun h' z' TO' ⟨h1', _⟩ ⟨h2', _⟩ hT hsz hk => ?_
    refine ⟨_, rfl, wpAny_letOwnedTupleGo_zip (s := { s with heap := h' }) z' fun h'' z'' sb => ?_⟩
    have t2 : h''.get? s.heap.objs.size = some { cls := .type "tuple", data := .seq #[u, u2] } := (sb.2 _ (Nat.ne_of_gt zlt)).trans hT
    have new : ObjOk X.prog X.w (upd H s.heap.objs.size (.tup [x, y])) h'' s.heap.objs.size (.tup [x, y]) := ⟨by show 2 ≤ sizeLine; decide, [u, u2], .cons ru (.cons ru2 .nil), ⟨_, t2, rfl, _, rfl⟩⟩
    have ne : ∀ {c t : Addr}, c ∉ [z, TI, TO, i1, i2] → t ∈ [z, TI, TO, i1, i2] → c ≠ t := fun a b e => a (e ▸ b)
    have I1 : Inv X pins σ (upd H s.heap.objs.size (.tup [x, y])) { s with heap := h'' } := I.turnedNew (t' := s.toks) (ch := [z, TI, TO, i1, i2]) (fun c o hb q => (sb.2 c (ne hb (by simp))).trans (hk c o (ne hb (by simp)) (ne hb (by simp)) (ne hb (by simp)) (ne hb (by simp)) q)) hf (Nat.le_refl _) new
    refine ⟨.ref s.heap.objs.size, _, I1, rfl, ⟨_, x, y, rfl, I.hok.fresh (Nat.le_refl _), rfl, fun l hl => by rw [I.tuple_inj hl hqx]; exact hx, fun l hl => by rw [I.list_inj hl hqy]; exact hy⟩, ⟨z'', (sb.2 _ D.TIz).trans (hk _ _ D.TIz D.TITO D.TIi1 D.TIi2 hTI), ⟨u, u2, (sb.2 _ D.TOz).trans TO'⟩, h1'.at fun o q => (sb.2 _ D.i1z).trans q, h2'.at fun o q => (sb.2 _ D.i2z).trans q⟩, fun c hcm => ?_⟩
    have hlt : c < s.heap.objs.size := by
      rcases mem5 hcm with q | q | q | q | q <;> rw [q]
      · exact zlt
      · exact Heap.lt_size hTI
      · exact Heap.lt_size hTO
      · obtain ⟨_, e1, _⟩ := h1; exact Heap.lt_size e1
      · obtain ⟨_, e2, _⟩ := h2; exact Heap.lt_size e2
    rw [upd_ne (Nat.ne_of_lt hlt)]; exact (hf c hcm).1
  done := by
    intro X hP hw hK hc i pins s σ H E I hf st hg; subst hP hw hK
    obtain ⟨hz, hTI, ⟨x0, y0, hTO⟩, h1, h2⟩ := st; obtain ⟨xs, ys, hqx, hqy, hend⟩ := hg
    obtain ⟨its, rv, p, _⟩ := I.tuple hqx; obtain ⟨its2, rv2, p2, _⟩ := I.list hqy
    have l1 := rv.length; have l2 := rv2.length
    have he : its.toArray[i]? = none ∨ its2.toArray[i]? = none := hend.imp (fun q => by simp; omega) (fun q => by simp; omega)
    have ne : ∀ {c t : Addr}, c ∉ [z, TI, TO, i1, i2] → t ∈ [z, TI, TO, i1, i2] → c ≠ t := fun a b e => a (e ▸ b)
    exact pyNext_zipG_end (I.ok.hd hc) D (stp_t (xs := its.toArray)) (stp_l (xs := its2.toArray)) hz hTI hTO ⟨h1, p⟩ ⟨h2, p2.isList⟩ he fun h' hk => ⟨rfl, I.turnedL (t' := s.toks) (ch := [z, TI, TO, i1, i2]) (fun c o hb q => hk c o (ne hb (by simp)) (ne hb (by simp)) (ne hb (by simp)) (ne hb (by simp)) q) hf⟩
  self := fun A i s Q E st h => wpAny_pyIter_zip st.1 h
def iZipM (K : PySem.W.Frag) (ta : TA) : TI := fun σ H R => ta σ H fun vs H1 => ∃ a b xs ys, vs = [.ref a, .ref b] ∧ SqT K H1 a xs ∧ SqL K H1 b ys ∧ R (ItzM K a b) H1
theorem pi_zipTL {X : Cx} {e e2 : Expr} {ta : TA} {p pos tpos : Pos} {elts : List Expr} {kk : Nat} (hg : Gl X "zip") (hm : X.mg "zip" = none) (ha : PA X [e, e2] ta) (hs : starEach [e, e2] X.env = (false, eval e X.env) :: starEach [e2] X.env := by rfl) (hpl : (backTo pos (starEach [e2] X.env)).any (·.1) = false := by rfl) :
    PI X (.Tuple elts kk tpos) (.Call (.Name "zip" p) [e, e2] [] pos) (iZipM X.K ta) := by
  refine ⟨fun pins s σ H R I h => Call_ (ld_blt I hg hm PyProof.Rows.boot_zip (PyProof.Rows.callWith_type1 (thn (ha.run pos pins s σ H _ I h) fun us s1 ⟨vs, H1, I1, r1, q1⟩ => ?_) hs hpl))⟩
  obtain ⟨a, b, xs, ys, ex, hqx, hqy, q⟩ := q1; subst ex
  cases r1 with
  | cons r rr =>
    cases rr with
    | cons r' rr =>
      cases rr; cases r; cases r'
      obtain ⟨its, rv, p1, _⟩ := I1.tuple hqx; obtain ⟨its2, rv2, p2, _⟩ := I1.list hqy; obtain ⟨o1, ho1, _⟩ := id p1
      refine call_zipG (begins_tuple a its.toArray) (begins_list b its2.toArray) (fun h z => Heap.IsList.push z _) p1 p2.isList fun h' hz hTI hTO h1 h2 hk => wpAny_pyIter_zip hz ?_
      have I2 : Inv X pins σ H1 { s1 with heap := h' } := I1.kept (t' := s1.toks) hk
      refine ⟨s1.heap.objs.size + 4, [s1.heap.objs.size + 4, s1.heap.objs.size + 2, s1.heap.objs.size + 3, s1.heap.objs.size, s1.heap.objs.size + 1], _, _, H1, rfl, I2, turn_zipM (PySem.W.ktu_apart s1.heap.objs.size a b (Heap.lt_size ho1) p2.lt), ⟨hz, hTI, ⟨_, _, hTO⟩, ⟨_, h1, rfl, rfl⟩, ⟨_, h2, rfl, rfl⟩⟩, fun c hcm => ?_, q⟩
      have hle : s1.heap.objs.size ≤ c := by rcases mem5 hcm with z | z | z | z | z <;> rw [z] <;> omega
      exact I1.fpOk hle (I1.hok.fresh hle)
section
variable {K : PySem.W.Frag} {Γ : List Cell} {Θ : List Tmp}
theorem vi_zipM {ta tb : TE} {Q : List Cell → Bool → List Dat → Prop} (h : VD K Γ Θ ta fun Γ1 d => VD K Γ1 (.dt d :: Θ) tb fun Γ2 e => ∃ ds es, d = .tuple ds ∧ e = .list es ∧ Q Γ2 true (zipD ds es)) : VI K Γ Θ (iZipM K (tCons ta (tCons tb tNil))) Q := fun L S0 σ τ S R E k =>
  h L S0 σ τ S _ E fun Γ1 S1 u d E1 h1 => h1 L S0 σ _ S1 _ E1 fun Γ2 S2 v e E2 ⟨ds, es, ed, ee, q⟩ => by
  subst ed ee
  obtain ⟨b, zs, eb, hb, pb⟩ := dp_list E2.dt
  obtain ⟨a, oa, xs, ea, _, hx, p⟩ := dp_tup E2.pop.dt
  subst ea eb
  refine ⟨a, b, xs, zs, rfl, sqt_f (E2.sub _ _ hx), .of (E2.sub _ _ hb), k Γ2 [.list es, .tuple ds] [.ref b, .ref a] S2 _ true (zipD ds es) E2 rfl ⟨fun S i sub hs hi => ?_, fun S sub hs => ?_, fun S i x H' sub hs hi y => ?_⟩ q⟩
  · obtain ⟨ws, hw', pw⟩ := src_l (K := K) sub (dqa_two hs).1
    obtain ⟨ys, hy', py⟩ := src_t (K := K) sub (dqa_two hs).2
    rw [zipD_len] at hi
    have i1 : i < ds.length := by omega
    have i2 : i < es.length := by omega
    obtain ⟨z, hz, _⟩ := py.get (List.getElem?_eq_getElem i1)
    obtain ⟨z', hz', _⟩ := pw.get (List.getElem?_eq_getElem i2)
    exact ⟨ys, ws, z, z', hy', hw', hz, hz'⟩
  · obtain ⟨ws, hw', pw⟩ := src_l (K := K) sub (dqa_two hs).1
    obtain ⟨ys, hy', py⟩ := src_t (K := K) sub (dqa_two hs).2
    refine ⟨ys, ws, hy', hw', ?_⟩
    rw [zipD_len, py.len, pw.len]
    omega
  · obtain ⟨ws, hw', pw⟩ := src_l (K := K) sub (dqa_two hs).1
    obtain ⟨ys, hy', py⟩ := src_t (K := K) sub (dqa_two hs).2
    obtain ⟨T, z, z', rfl, hT, rfl, y1, y2⟩ := y
    obtain ⟨d, hd, gd⟩ := py.getV (y1 ys hy')
    obtain ⟨e, he, ge⟩ := pw.getV (y2 ws hw')
    obtain ⟨S', e1, g1, s1, q1⟩ := gr_pair sub hT gd ge
    exact ⟨S', _, e1, g1, s1, zipD_at hd he, q1⟩
end
end Ld
set_option Elab.async false
set_option linter.all false
set_option maxRecDepth 100000
namespace Sh
/-! ### past a light shelf -/
def lp : List (Int × Nat) → List Int → List Int
  | [], S => asc S
  | (a, m) :: r, S => (asc (S ++ [a])).take (S.length + 1 - m) ++ lp r ((asc (S ++ [a])).drop (S.length + 1 - m))
/-- of x: how many greater ones come out ahead of it, g greater ones standing -/
def cx (x : Int) : List (Int × Nat) → Nat → Nat
  | [], _ => 0
  | (a, m) :: r, g => if a = x then 0 else ((g + if a > x then 1 else 0) - m) + cx x r (min (g + if a > x then 1 else 0) m)
theorem asc_len (S : List Int) : (asc S).length = S.length := (asc_perm S).length_eq
theorem lp_perm : ∀ (L : List (Int × Nat)) (S : List Int), (lp L S).Perm (S ++ L.map (·.1))
  | [], S => by
    show (asc S).Perm (S ++ [])
    rw [List.append_nil]
    exact asc_perm S
  | (a, m) :: r, S => by
    show ((asc (S ++ [a])).take _ ++ lp r _).Perm (S ++ a :: r.map (·.1))
    have h := lp_perm r ((asc (S ++ [a])).drop (S.length + 1 - m))
    have h2 : ((asc (S ++ [a])).take (S.length + 1 - m) ++ lp r ((asc (S ++ [a])).drop (S.length + 1 - m))).Perm ((asc (S ++ [a])).take (S.length + 1 - m) ++ ((asc (S ++ [a])).drop (S.length + 1 - m) ++ r.map (·.1))) := h.append_left _
    rw [← List.append_assoc, List.take_append_drop] at h2
    refine h2.trans (((asc_perm (S ++ [a])).append_right _).trans ?_)
    rw [List.append_assoc]
    exact .refl _
theorem cntG_perm {A B : List Int} (h : A.Perm B) (x : Int) : cntG A x = cntG B x := (h.filter _).length_eq
theorem cntG_none {A : List Int} {x : Int} (h : ∀ y ∈ A, ¬ y > x) : cntG A x = 0 := by
  unfold cntG
  rw [List.filter_eq_nil_iff.mpr (by simpa using h)]
  rfl
/-- of a rising list the greater ones stand last -/
theorem cntG_take {x : Int} : ∀ {T : List Int}, T.Pairwise (· ≤ ·) → ∀ n, n ≤ T.length → cntG (T.take n) x = cntG T x - (T.length - n)
  | [], _, n, h => by
    rw [Nat.le_zero.mp h]
    rfl
  | y :: T, hp, 0, _ => by
    have : cntG (y :: T) x ≤ (y :: T).length := List.length_filter_le _ _
    rw [List.take_zero]
    show 0 = _
    omega
  | y :: T, hp, n + 1, h => by
    rw [List.pairwise_cons] at hp
    have ih := cntG_take (x := x) hp.2 n (by simpa using h)
    rw [List.take_succ_cons]
    by_cases hy : y > x
    · have a1 : cntG (y :: T) x = (y :: T).length := cntG_all fun z hz => by
        rcases List.mem_cons.mp hz with rfl | hz
        · exact hy
        · have := hp.1 z hz; omega
      have a2 : cntG (y :: T.take n) x = (y :: T.take n).length := cntG_all fun z hz => by
        rcases List.mem_cons.mp hz with rfl | hz
        · exact hy
        · have := hp.1 z (List.mem_of_mem_take hz); omega
      rw [a1, a2]
      simp only [List.length_cons, List.length_take] at h ⊢
      omega
    · have a1 : cntG (y :: T) x = cntG T x := by unfold cntG; rw [List.filter_cons, if_neg (by simpa using hy)]
      have a2 : cntG (y :: T.take n) x = cntG (T.take n) x := by unfold cntG; rw [List.filter_cons, if_neg (by simpa using hy)]
      rw [a1, a2, ih]
      simp only [List.length_cons]
      omega
theorem gc_out {A B : List Int} {x : Int} (h : x ∉ A) : gc (A ++ B) x = cntG A x + gc B x := by
  unfold gc
  rw [tw_out _ h, cntG_app]
theorem gc_srt {T : List Int} {x : Int} (h : T.Pairwise (· ≤ ·)) (hx : x ∈ T) : gc T x = 0 := by
  obtain ⟨A, B, rfl⟩ := List.append_of_mem hx
  rw [List.pairwise_append] at h
  refine cntG_none fun y hy => ?_
  have hy2 : y ∈ A := by
    have := List.takeWhile_append (p := fun y => y != x) (xs := A) (ys := x :: B)
    by_cases hA : x ∈ A
    · rw [tw_in _ hA] at hy
      exact (List.takeWhile_sublist _).subset hy
    · rw [tw_out _ hA] at hy
      simpa using hy
  have := h.2.2 y hy2 x (by simp)
  omega
theorem lp_in : ∀ (L : List (Int × Nat)) (S : List Int) (x : Int), x ∈ S → gc (lp L S) x = 0
  | [], S, x, h => gc_srt (asc_srt S) ((asc_perm S).mem_iff.mpr h)
  | (a, m) :: r, S, x, h => by
    show gc ((asc (S ++ [a])).take _ ++ lp r _) x = 0
    have hs := asc_srt (S ++ [a])
    have hx : x ∈ asc (S ++ [a]) := (asc_perm _).mem_iff.mpr (by simp [h])
    generalize asc (S ++ [a]) = T at hs hx
    generalize S.length + 1 - m = n
    by_cases hT : x ∈ T.take n
    · unfold gc
      rw [tw_in _ hT]
      exact gc_srt (hs.sublist (List.take_sublist _ _)) hT
    · rw [gc_out hT]
      have hd : x ∈ T.drop n := by
        rw [← List.take_append_drop n T] at hx
        exact (List.mem_append.mp hx).resolve_left hT
      rw [lp_in r _ x hd, Nat.add_zero]
      refine cntG_none fun y hy => ?_
      rw [← List.take_append_drop n T, List.pairwise_append] at hs
      have := hs.2.2 y hy x hd
      omega
theorem gc_lp : ∀ (L : List (Int × Nat)) (S : List Int) (x : Int), x ∉ S → x ∈ L.map (·.1) → gc (lp L S) x = cx x L (cntG S x)
  | [], S, x, _, h => by cases h
  | (a, m) :: r, S, x, h, hL => by
    by_cases ha : a = x
    · subst ha
      show gc ((asc (S ++ [a])).take _ ++ lp r _) a = if a = a then 0 else _
      rw [if_pos rfl]
      exact lp_in ((a, m) :: []) S a |> fun _ => by
        have hs := asc_srt (S ++ [a])
        have hx : a ∈ asc (S ++ [a]) := (asc_perm _).mem_iff.mpr (by simp)
        generalize asc (S ++ [a]) = T at hs hx
        generalize S.length + 1 - m = n
        by_cases hT : a ∈ T.take n
        · unfold gc
          rw [tw_in _ hT]
          exact gc_srt (hs.sublist (List.take_sublist _ _)) hT
        · rw [gc_out hT]
          have hd : a ∈ T.drop n := by
            rw [← List.take_append_drop n T] at hx
            exact (List.mem_append.mp hx).resolve_left hT
          rw [lp_in r _ a hd, Nat.add_zero]
          refine cntG_none fun y hy => ?_
          rw [← List.take_append_drop n T, List.pairwise_append] at hs
          have := hs.2.2 y hy a hd
          omega
    · show gc ((asc (S ++ [a])).take _ ++ lp r _) x = if a = x then 0 else _
      rw [if_neg ha]
      have hx : x ∉ asc (S ++ [a]) := fun z => by
        have := (asc_perm _).mem_iff.mp z
        simp only [List.mem_append, List.mem_singleton] at this
        rcases this with q | q
        · exact h q
        · exact ha q.symm
      have hc : cntG (asc (S ++ [a])) x = cntG S x + if a > x then 1 else 0 := by
        rw [cntG_perm (asc_perm _), cntG_app]
        congr 1
        unfold cntG
        by_cases hax : a > x
        · rw [if_pos hax, List.filter_cons, if_pos (by simpa using hax)]; rfl
        · rw [if_neg hax, List.filter_cons, if_neg (by simpa using hax)]; rfl
      have hl : (asc (S ++ [a])).length = S.length + 1 := by rw [asc_len]; simp
      have hs := asc_srt (S ++ [a])
      generalize asc (S ++ [a]) = T at hs hx hc hl
      have hle : cntG T x ≤ T.length := List.length_filter_le _ _
      have ht := cntG_take (x := x) hs (S.length + 1 - m) (by omega)
      have hsum : cntG T x = cntG (T.take (S.length + 1 - m)) x + cntG (T.drop (S.length + 1 - m)) x := by rw [← cntG_app, List.take_append_drop]
      rw [gc_out (fun z => hx (List.mem_of_mem_take z)), gc_lp r _ x (fun z => hx (List.mem_of_mem_drop z)) (by
        rw [List.map_cons] at hL
        exact (List.mem_cons.mp hL).resolve_left (fun z => ha z.symm)), ← hc]
      have e1 : cntG (T.take (S.length + 1 - m)) x = cntG T x - m := by
        rw [ht]
        by_cases hm : m ≤ S.length + 1
        · omega
        · omega
      have e2 : cntG (T.drop (S.length + 1 - m)) x = min (cntG T x) m := by omega
      rw [e1, e2]
/-- with one number of places all along -/
theorem cx_same (x : Int) (b : Nat) : ∀ (N : List Int) (g : Nat), x ∈ N → g ≤ b → cx x (N.map fun a => (a, b)) g = (g + gc N x) - b
  | a :: N, g, h, hg => by
    show (if a = x then 0 else _) = _
    unfold gc
    rw [List.takeWhile_cons]
    by_cases ha : a = x
    · subst ha
      rw [if_pos rfl]
      simp only [bne_self_eq_false]
      show 0 = (g + 0) - b
      omega
    · rw [if_neg ha, show (if (a != x) = true then a :: N.takeWhile (fun y => y != x) else []) = a :: N.takeWhile (fun y => y != x) from if_pos (by simp [ha])]
      have hm := (List.mem_cons.mp h).resolve_left (fun z => ha z.symm)
      have ih := cx_same x b N (min (g + if a > x then 1 else 0) b) hm (Nat.min_le_right _ _)
      have e : cntG (a :: N.takeWhile fun y => y != x) x = (if a > x then 1 else 0) + gc N x := by
        unfold gc cntG
        by_cases hax : a > x
        · rw [if_pos hax, List.filter_cons, if_pos (by simpa using hax), List.length_cons]; omega
        · rw [if_neg hax, List.filter_cons, if_neg (by simpa using hax)]; omega
      rw [ih, e]
      omega
end Sh
namespace Sh
theorem let_step {l : Bool} {T G U : List Int} {one : Int} (hp : (G ++ U).Perm T) (hs : (tm l G).Pairwise (· ≤ ·)) (hgu : ∀ g ∈ G, ∀ u ∈ U, sg l * g ≤ sg l * u) (h1 : one ∈ U) (h2 : ∀ y ∈ U, sg l * one ≤ sg l * y) :
    ((G ++ [one]) ++ U.erase one).Perm T ∧ (tm l (G ++ [one])).Pairwise (· ≤ ·) ∧ (∀ g ∈ G ++ [one], ∀ u ∈ U.erase one, sg l * g ≤ sg l * u) ∧ (U.erase one).length + 1 = U.length := by
  refine ⟨?_, ?_, fun g hg u hu => ?_, ?_⟩
  · rw [List.append_assoc]
    exact ((List.perm_cons_erase h1).symm.append_left G).trans hp
  · unfold tm
    rw [List.map_append, List.pairwise_append]
    refine ⟨hs, List.pairwise_singleton _ _, fun a ha b hb => ?_⟩
    obtain ⟨g, hg, rfl⟩ := List.mem_map.mp ha
    rw [List.map_singleton, List.mem_singleton] at hb
    rw [hb]
    exact hgu g hg one h1
  · have hu' := List.mem_of_mem_erase hu
    rcases List.mem_append.mp hg with hg | hg
    · exact hgu g hg u hu'
    · rw [List.mem_singleton.mp hg]
      exact h2 u hu'
  · rw [List.length_erase_of_mem h1]
    have := List.length_pos_of_mem h1
    omega
theorem let_fin {l : Bool} {T G U : List Int} {n : Nat} (hp : (G ++ U).Perm T) (hs : (tm l G).Pairwise (· ≤ ·)) (hgu : ∀ g ∈ G, ∀ u ∈ U, sg l * g ≤ sg l * u) (h1 : U.length ≤ n) (h2 : n ≤ U.length ∨ G = []) :
    tm l G = (asc (tm l T)).take (T.length - n) ∧ (tm l U).Perm ((asc (tm l T)).drop (T.length - n)) := by
  have hl := hp.length_eq
  rw [List.length_append] at hl
  have hG : (tm l G).length = T.length - n := by
    rw [tm_len]
    rcases h2 with h2 | h2
    · omega
    · subst h2
      simp only [List.length_nil] at hl ⊢
      omega
  have e : tm l G ++ asc (tm l U) = asc (tm l T) := by
    refine eq_asc (((asc_perm (tm l U)).append_left _).trans ?_) ?_
    · have := hp.map (sg l * ·)
      rw [List.map_append] at this
      exact this
    · rw [List.pairwise_append]
      refine ⟨hs, asc_srt _, fun a ha b hb => ?_⟩
      obtain ⟨g, hg, rfl⟩ := List.mem_map.mp ha
      obtain ⟨u, hu, rfl⟩ := List.mem_map.mp ((asc_perm _).mem_iff.mp hb)
      exact hgu g hg u hu
  rw [← e, List.take_left' hG, List.drop_left' hG]
  exact ⟨rfl, (asc_perm _).symm⟩
end Sh
namespace Ld
open PySem PySem.Spec PyProof.Rows L2 Lx
section
variable {K : PySem.W.Frag} {Γ : List Cell} {Θ : List Tmp}
theorem r2_catR {x y : Tmp} {ds es : List Dat} {Q : List Cell → Tmp → Prop} (hx : rd Γ x (.list ds)) (hy : rd Γ y (.list es)) (hz : ds.length + es.length ≤ sizeLine) (q : Q Γ (.fr (ds ++ es))) : R2V K rCat Γ Θ x y Q := fun L S0 σ τ S vx vy Qv E k => by
  obtain ⟨b, zs, eb, qb, pb⟩ := rdB_l E hy
  obtain ⟨a, xs, ea, qa, pa⟩ := rdB_l E.pop hx
  exact ⟨a, b, xs, zs, ea, eb, qa, qb, by rw [pa.len, pb.len]; exact hz, fun p hp => k Γ _ _ _ (E.pop.pop.newLst hp (pa.app pb)) q⟩
end
end Ld
namespace Sh
open PySem PySem.Spec PyProof.Rows L2 Lx Ld
theorem lp_cong : ∀ (L : List (Int × Nat)) {S S' : List Int}, S.Perm S' → lp L S = lp L S'
  | [], S, S', h => asc_of_perm h
  | (a, m) :: r, S, S', h => by
    show (asc (S ++ [a])).take _ ++ lp r _ = (asc (S' ++ [a])).take _ ++ lp r _
    rw [asc_of_perm (h.append_right [a]), h.length_eq]
theorem zip_iLN (x : List Int) (y : List Nat) : zipD (iL x) (iL (y.map Int.ofNat)) = (x.zip y).map fun p => PyData.tuple [.int p.1, .int p.2] := by
  rw [zip_iL, List.zip_map_right, List.map_map]
  rfl
theorem lp_len (L : List (Int × Nat)) (S : List Int) : (lp L S).length = S.length + L.length := by rw [(lp_perm L S).length_eq, List.length_append, List.length_map]
theorem tm_app (l : Bool) (a b : List Int) : tm l (a ++ b) = tm l a ++ tm l b := List.map_append
/-- one moment more -/
theorem let_one {l : Bool} {L : List (Int × Nat)} {i m : Nat} {n : Int} {U C G U' : List Int} (hL : L[i]? = some (sg l * n, m)) (h : lp L [] = tm l C ++ lp (L.drop i) (tm l U)) (hG : tm l G = (asc (tm l (U ++ [n]))).take ((U ++ [n]).length - m)) (hU : (tm l U').Perm ((asc (tm l (U ++ [n]))).drop ((U ++ [n]).length - m))) :
    lp L [] = tm l (C ++ G) ++ lp (L.drop (i + 1)) (tm l U') := by
  obtain ⟨hi, e⟩ := List.getElem?_eq_some_iff.mp hL
  rw [List.drop_eq_getElem_cons hi, e] at h
  rw [h, tm_app, List.append_assoc]
  congr 1
  show (asc (tm l U ++ [sg l * n])).take ((tm l U).length + 1 - m) ++ lp _ ((asc (tm l U ++ [sg l * n])).drop ((tm l U).length + 1 - m)) = _
  have e1 : tm l (U ++ [n]) = tm l U ++ [sg l * n] := tm_app l U [n]
  have e2 : (U ++ [n]).length = (tm l U).length + 1 := by rw [tm_len, List.length_append]; rfl
  rw [e1, e2] at hG hU
  rw [hG, lp_cong _ hU]
end Sh
namespace Sh
open PySem PySem.Spec PyProof.Rows L2 Lx Ld
theorem iL_inj {a b : List Int} (h : iL a = iL b) : a = b := by
  induction a generalizing b with
  | nil => cases b with
    | nil => rfl
    | cons y b => cases h
  | cons x a ih => cases b with
    | nil => cases h
    | cons y b =>
      have h1 : PyData.int x = PyData.int y := (List.cons.inj h).1
      have h2 : iL a = iL b := (List.cons.inj h).2
      cases h1
      rw [ih h2]
theorem iL_app (a b : List Int) : iL a ++ iL b = iL (a ++ b) := List.map_append.symm
theorem iL_one (a : List Int) (n : Int) : iL a ++ [PyData.int n] = iL (a ++ [n]) := iL_app a [n]
end Sh
namespace Sh
/-- a stretch past a shelf, a row past a shelf -/
def pastL (l : Bool) (n : Nat) (s : List Int) : List Int := tm l (lp ((tm l s).map fun a => (a, n)) [])
def joinO (ll : List (List Int)) : List (Option Int) := ll.flatMap fun s => s.map some ++ [none]
def pastR (l : Bool) (n : Nat) (r : List (Option Int)) : List (Option Int) := (joinO ((lots r).map (pastL l n))).dropLast
end Sh
namespace Sh
open PySem PySem.Spec PyProof.Rows L2 Lx Ld
theorem rep_iL (n k : Nat) : (List.replicate k [PyData.int (n : Int)]).flatten = iL ((List.replicate k n).map Int.ofNat) := by
  induction k with
  | zero => rfl
  | succ k ih =>
    rw [List.replicate_succ, List.flatten_cons, ih]
    rfl
theorem zip_rep (xs : List Int) (n : Nat) : xs.zip (List.replicate xs.length n) = xs.map fun a => (a, n) := by
  induction xs with
  | nil => rfl
  | cons x xs ih =>
    rw [List.length_cons, List.replicate_succ, List.zip_cons_cons, ih]
    rfl
theorem pastL_perm (l : Bool) (n : Nat) (s : List Int) : (pastL l n s).Perm s := by
  have e : ((tm l s).map fun a => (a, n)).map (·.1) = tm l s := by
    rw [List.map_map]
    exact List.map_id _
  have h := lp_perm ((tm l s).map fun a => (a, n)) []
  rw [List.nil_append, e] at h
  have h2 := h.map (sg l * ·)
  have h3 : ((tm l s).map (sg l * ·)) = s := tm_tm l s
  rw [h3] at h2
  exact h2
theorem pastL_len (l : Bool) (n : Nat) (s : List Int) : (pastL l n s).length = s.length := (pastL_perm l n s).length_eq
theorem joinO_len (l : Bool) (n : Nat) : ∀ ll : List (List Int), (joinO (ll.map (pastL l n))).length = ll.flatten.length + ll.length
  | [] => rfl
  | s :: ll => by
    have ih := joinO_len l n ll
    unfold joinO at ih ⊢
    rw [List.map_cons, List.flatMap_cons, List.length_append, ih, List.flatten_cons, List.length_append, List.length_append, List.length_map, pastL_len]
    simp only [List.length_singleton, List.length_cons, List.length_nil]
    omega
theorem joinO_snoc (ll : List (List Int)) (s : List Int) : joinO (ll ++ [s]) = joinO ll ++ s.map some ++ [none] := by
  unfold joinO
  rw [List.flatMap_append, List.flatMap_cons, List.flatMap_nil, List.append_nil, List.append_assoc]
theorem oL_app (a b : List (Option Int)) : oL a ++ oL b = oL (a ++ b) := List.map_append.symm
theorem tL_at {ll : List (List Int)} {i : Nat} {d : Dat} (h : (tL ll)[i]? = some d) : ∃ s, ll[i]? = some s ∧ d = .tuple (iL s) := by
  rw [tL, List.getElem?_map] at h
  obtain ⟨o, h1, h2⟩ := Option.map_eq_some_iff.mp h
  exact ⟨o, h1, h2.symm⟩
theorem oL_dropLast (r : List (Option Int)) : (oL r).dropLast = oL r.dropLast := by
  rw [List.dropLast_eq_take, List.dropLast_eq_take, List.length_map]
  exact List.map_take.symm
end Sh
namespace Sh
theorem low_eq {N : List Int} (h : N.Nodup) (n : Nat) : rowF (dsc N) ((dsc N).map fun x => max 0 ((gc N x : Int) - n)) = lp (N.map fun a => (a, n)) [] ∧ CntOk ((dsc N).map fun x => max 0 ((gc N x : Int) - n)) N.length := by
  have e0 : (N.map fun a => (a, n)).map (·.1) = N := by
    rw [List.map_map]
    exact List.map_id _
  have hp : (lp (N.map fun a => (a, n)) []).Perm N := by
    have := lp_perm (N.map fun a => (a, n)) []
    rw [List.nil_append, e0] at this
    exact this
  obtain ⟨h1, h2⟩ := rowF_gc (dsc_perm N).length_eq (dsc_pw h) (hp.trans (dsc_perm N).symm)
  have e : ((dsc N).map fun x => max 0 ((gc N x : Int) - n)) = (dsc N).map fun x => (gc (lp (N.map fun a => (a, n)) []) x : Int) := by
    refine List.map_congr_left fun x hx => ?_
    have hxN := (dsc_perm N).mem_iff.mp hx
    have h0 : cntG [] x = 0 := rfl
    rw [gc_lp _ [] x (by simp) (by rw [e0]; exact hxN), h0, cx_same x n N 0 hxN (Nat.zero_le _)]
    omega
  rw [e]
  exact ⟨h1, h2⟩
end Sh
namespace Sh
open PySem PySem.Spec PyProof.Rows L2 Lx Ld
theorem iL_at {ns : List Int} {i : Nat} {d : Dat} (h : (iL ns)[i]? = some d) : ∃ x, ns[i]? = some x ∧ d = .int x := by
  rw [List.getElem?_map] at h
  obtain ⟨o, h1, h2⟩ := Option.map_eq_some_iff.mp h
  exact ⟨o, h1, h2.symm⟩
end Sh
namespace Ld
open PySem PySem.Spec PyProof.Rows L2 Lx
/-- a, b = x, y where a name is a cell: the pair is made and taken apart -/
theorem ss_parT {K : PySem.W.Frag} {Γ : List Cell} {i j : Nat} {ta tb : TE} {R : DE} (h : ∀ ss, VE K Γ (srcT ss) ta fun Γ1 x => VE K Γ1 (x :: srcT ss) tb fun Γ2 y => (∀ k, x ≠ .br k) ∧ ∃ Γ3 Γ4, St1 Γ2 i x = some Γ3 ∧ St1 Γ3 j y = some Γ4 ∧ R.nx Γ4) :
    VSs K Γ (tAsg (tTupF (tCons ta (tCons tb tNil))) (gTup K 2 (gCons (gName i) (gCons (gName j) gNil)))) R := fun ss L S0 σ τ S D E kn kr kb kc =>
  h ss L S0 σ τ S _ E fun Γ1 S1 u x E1 h1 => h1 L S0 σ _ S1 _ E1 fun Γ2 S2 v y E2 ⟨nx, Γ3, Γ4, e3, e4, q⟩ => by
    refine ⟨Nat.le_of_lt (show 2 < sizeLine by decide +kernel), fun p o hd hp => ?_⟩
    have E3 := E2.grow (gr_new (o := .frz o (.tup [u, v])) hp E2.sub) (sub_new hp E2.sub)
    refine ⟨p, [u, v], rfl, sqt_f upd_same, rfl, u, [v], rfl, v, [], rfl, rfl, ?_⟩
    have ny : y ≠ .br i := fun z => by subst z; cases e4
    exact kn Γ4 _ ⟨S2.b, upd S2.h p (.frz o (.tup [u, v]))⟩ (((E3.swap).st1 (fun t ht => by
      rcases List.mem_cons.mp ht with rfl | ht
      · exact ny
      · exact nb_src t ht) e3).st1 nb_src e4) q
end Ld
namespace Ld
open PySem PySem.Spec PyProof.Rows L2 Lx
end Ld
namespace Sh
open PySem PySem.Spec PyProof.Rows L2 Lx Ld
theorem sg_or (l : Bool) : sg l = 1 ∨ sg l = -1 := by cases l <;> simp [sg]
theorem lots_nodup {r : List (Option Int)} {s : List Int} (h : (nums r).Nodup) (hs : s ∈ lots r) : s.Nodup := by
  rw [← lots_flat] at h
  exact h.sublist (List.sublist_flatten_of_mem hs)
end Sh
namespace Sh
open PySem PySem.Spec PyProof.Rows L2 Lx Ld
theorem map_tm (l : Bool) (xs : List Int) : xs.map (fun a => PyData.int (sg l * a)) = iL (tm l xs) := by
  rw [tm, iL, List.map_map]
  rfl
end Sh
set_option Elab.async false
set_option linter.all false
set_option maxRecDepth 100000
namespace Sh
open PySem PySem.Spec PyProof.Rows L2 Lx Ld
/-! ### stretches, marks, the opposite row -/
theorem joinO_lots (r : List (Option Int)) : joinO (lots r) = r ++ [none] := by
  have h : ∀ (n : Nat) (r : List (Option Int)), r.length = n → joinO (lots r) = r ++ [none] := by
    intro n
    induction n with
    | zero =>
      intro r h
      rw [List.length_eq_zero_iff.mp h]
      rfl
    | succ n ih =>
      intro r h
      obtain ⟨r', o, rfl, hl⟩ : ∃ r' o, r = r' ++ [o] ∧ r'.length = n := ⟨r.dropLast, r.getLast (List.ne_nil_of_length_pos (by omega)), (List.dropLast_concat_getLast _).symm, by rw [List.length_dropLast]; omega⟩
      have i1 := ih r' hl
      rw [lots_snoc]
      have hne := lots_ne r'
      obtain ⟨as, a, e⟩ : ∃ as a, lots r' = as ++ [a] := ⟨(lots r').dropLast, (lots r').getLast (List.ne_nil_of_length_pos hne), (List.dropLast_concat_getLast _).symm⟩
      cases o with
      | none =>
        show joinO (lots r' ++ [[]]) = _
        rw [joinO_snoc, i1, List.map_nil, List.append_nil]
      | some i =>
        show joinO ((lots r').set _ _) = _
        rw [e, joinO_snoc] at i1
        have e2 := List.append_cancel_right i1
        rw [e]
        have e1 : (as ++ [a]).length - 1 = as.length := by simp
        rw [e1, List.set_append_right _ _ (Nat.le_refl _), List.getD_eq_getElem?_getD, List.getElem?_append_right (Nat.le_refl _)]
        simp only [Nat.sub_self, List.set_cons_zero, List.getElem?_cons_zero, Option.getD_some]
        rw [joinO_snoc, List.map_append, ← List.append_assoc, e2]
        rfl
  exact h _ r rfl
theorem tm_t (s : List Int) : tm true s = s := by
  unfold tm
  refine (List.map_congr_left fun x _ => ?_).trans (List.map_id s)
  show 1 * x = x
  omega
theorem pastL_t (l : Bool) (n : Nat) (s : List Int) : pastL true n (tm l s) = tm l (pastL l n s) := by
  unfold pastL
  rw [tm_t, tm_t, tm_tm]
theorem nums_join : ∀ ll : List (List Int), nums (joinO ll) = ll.flatten
  | [] => rfl
  | s :: ll => by
    have ih := nums_join ll
    unfold joinO at ih ⊢
    rw [List.flatMap_cons, nums_app, nums_app, ih, nums_some, List.flatten_cons]
    show s ++ [] ++ _ = _
    rw [List.append_nil]
theorem nums_drop (ll : List (List Int)) : nums ((joinO ll).dropLast) = ll.flatten := by
  by_cases h : ll = []
  · subst h
    rfl
  · obtain ⟨as, a, rfl⟩ : ∃ as a, ll = as ++ [a] := ⟨ll.dropLast, ll.getLast h, (List.dropLast_concat_getLast _).symm⟩
    rw [joinO_snoc, List.dropLast_concat, nums_app, nums_join, nums_some]
    simp
theorem lots_drop (ll : List (List Int)) (h : 0 < ll.length) : lots ((joinO ll).dropLast) = ll := by
  have h1 : ∀ (s : List Int) (acc : List (List Int)) (a : List Int), (s.map some).foldl lotStep (acc ++ [a]) = acc ++ [a ++ s] := by
    intro s
    induction s with
    | nil => intro acc a; rw [List.append_nil]; rfl
    | cons x s ih =>
      intro acc a
      show (s.map some).foldl lotStep ((acc ++ [a]).set _ _) = _
      have e1 : (acc ++ [a]).length - 1 = acc.length := by simp
      rw [e1, List.set_append_right _ _ (Nat.le_refl _), List.getD_eq_getElem?_getD, List.getElem?_append_right (Nat.le_refl _)]
      simp only [Nat.sub_self, List.set_cons_zero, List.getElem?_cons_zero, Option.getD_some]
      rw [ih, List.append_assoc]
      rfl
  have h2 : ∀ (ll : List (List Int)) (acc : List (List Int)), (joinO ll).foldl lotStep (acc ++ [[]]) = acc ++ ll ++ [[]] := by
    intro ll
    induction ll with
    | nil => intro acc; rw [List.append_nil]; rfl
    | cons s ll ih =>
      intro acc
      have e : joinO (s :: ll) = s.map some ++ [none] ++ joinO ll := by unfold joinO; rw [List.flatMap_cons]
      rw [e, List.foldl_append, List.foldl_append, h1, List.nil_append]
      show (joinO ll).foldl lotStep ((acc ++ [s]) ++ [[]]) = _
      rw [ih]
      simp
  obtain ⟨as, a, rfl⟩ : ∃ as a, ll = as ++ [a] := ⟨ll.dropLast, ll.getLast (List.ne_nil_of_length_pos h), (List.dropLast_concat_getLast _).symm⟩
  rw [joinO_snoc, List.dropLast_concat]
  show (joinO as ++ a.map some).foldl lotStep ([] ++ [[]]) = _
  rw [List.foldl_append, h2, h1, List.nil_append, List.nil_append]
theorem gc_past {s : List Int} {x : Int} (n : Nat) (h : x ∈ s) : gc (pastL true n s) x = gc s x - n := by
  have e0 : (s.map fun a => (a, n)).map (·.1) = s := by
    rw [List.map_map]
    exact List.map_id _
  have h0 : cntG [] x = 0 := rfl
  unfold pastL
  rw [tm_t, tm_t, gc_lp _ [] x (by simp) (by rw [e0]; exact h), h0, cx_same x n s 0 h (Nat.zero_le _)]
  omega
end Sh
namespace Sh
open PySem PySem.Spec PyProof.Rows L2 Lx Ld
theorem ve_ifS {K : PySem.W.Frag} {Γ : List Cell} {Θ : List Tmp} {te : TE} {Q : List Cell → Tmp → Prop} (h : VE K Γ Θ te fun Γ1 x => ∃ l, x = .dt (.str (wd l)) ∧ Q Γ1 (.dt (.int (sg l)))) :
    VE K Γ Θ (tIf (tTest (tOp (rEqD K) te (tC (V.str "light")))) (tC (V.int 1)) (tUn (rU fun i => V.int (-i)) (tC (V.int 1)))) Q :=
  ve_ifE (vt_test (ve_op (ve_mono h fun Γ1 x ⟨l, ex, q⟩ => by
    subst ex
    refine ve_str (r2_eqW (asb ⟨fun e => ?_, fun e => ?_⟩))
    · subst e
      exact ve_int q
    · subst e
      exact ve_un rfl (ve_int ⟨1, rfl, q⟩))))
theorem enum_oL (x : List (Option Int)) : enumD (oL x) = x.zipIdx.map fun p => PyData.tuple [.int p.2, oD p.1] := by
  unfold enumD
  rw [List.zipIdx_map, List.map_map]
  rfl
end Sh
namespace Sh
open PySem PySem.Spec PyProof.Rows L2 Lx Ld
theorem idx_nd {N : List Int} (h : N.Nodup) {i : Nat} {x : Int} (hx : N[i]? = some x) : N.idxOf x = i := by
  obtain ⟨hi, e⟩ := List.getElem?_eq_some_iff.mp hx
  subst e
  exact h.idxOf_getElem i hi
end Sh
set_option Elab.async false
set_option linter.all false
set_option maxRecDepth 100000
set_option maxHeartbeats 2000000
namespace Ld
open PySem PySem.Spec PyProof.Rows L2 Lx
/-- a tuple at a, a list at b, as they stand at each turn; the items in new pairs -/
def ItzT2 (K : PySem.W.Frag) (a b : Addr) : It := ⟨fun i H => ∃ (xs ys : List V) (x y : V), SqT K H a xs ∧ SqT K H b ys ∧ xs[i]? = some x ∧ ys[i]? = some y, fun i H v H' => ∃ T x y, v = .ref T ∧ H T = none ∧ H' = upd H T (.tup [x, y]) ∧ (∀ xs, SqT K H a xs → xs[i]? = some x) ∧ ∀ ys, SqT K H b ys → ys[i]? = some y, fun i H => ∃ xs ys : List V, SqT K H a xs ∧ SqT K H b ys ∧ (xs.length ≤ i ∨ ys.length ≤ i)⟩
def iZipT2 (K : PySem.W.Frag) (ta : TA) : TI := fun σ H R => ta σ H fun vs H1 => ∃ a b xs ys, vs = [.ref a, .ref b] ∧ SqT K H1 a xs ∧ SqT K H1 b ys ∧ R (ItzT2 K a b) H1
section
variable {K : PySem.W.Frag} {Γ : List Cell} {Θ : List Tmp}
theorem vi_zipT2 {ta tb : TE} {Q : List Cell → Bool → List Dat → Prop} (h : VD K Γ Θ ta fun Γ1 d => VD K Γ1 (.dt d :: Θ) tb fun Γ2 e => ∃ ds es, d = .tuple ds ∧ e = .tuple es ∧ Q Γ2 true (zipD ds es)) : VI K Γ Θ (iZipT2 K (tCons ta (tCons tb tNil))) Q := fun L S0 σ τ S R E k =>
  h L S0 σ τ S _ E fun Γ1 S1 u d E1 h1 => h1 L S0 σ _ S1 _ E1 fun Γ2 S2 v e E2 ⟨ds, es, ed, ee, q⟩ => by
  subst ed ee
  obtain ⟨b, ob, zs, eb, _, hb, pb⟩ := dp_tup E2.dt
  obtain ⟨a, oa, xs, ea, _, hx, p⟩ := dp_tup E2.pop.dt
  subst ea eb
  refine ⟨a, b, xs, zs, rfl, sqt_f (E2.sub _ _ hx), sqt_f (E2.sub _ _ hb), k Γ2 [.tuple es, .tuple ds] [.ref b, .ref a] S2 _ true (zipD ds es) E2 rfl ⟨fun S i sub hs hi => ?_, fun S sub hs => ?_, fun S i x H' sub hs hi y => ?_⟩ q⟩
  · obtain ⟨ws, hw', pw⟩ := src_t (K := K) sub (dqa_two hs).1
    obtain ⟨ys, hy', py⟩ := src_t (K := K) sub (dqa_two hs).2
    rw [zipD_len] at hi
    have i1 : i < ds.length := by omega
    have i2 : i < es.length := by omega
    obtain ⟨z, hz, _⟩ := py.get (List.getElem?_eq_getElem i1)
    obtain ⟨z', hz', _⟩ := pw.get (List.getElem?_eq_getElem i2)
    exact ⟨ys, ws, z, z', hy', hw', hz, hz'⟩
  · obtain ⟨ws, hw', pw⟩ := src_t (K := K) sub (dqa_two hs).1
    obtain ⟨ys, hy', py⟩ := src_t (K := K) sub (dqa_two hs).2
    refine ⟨ys, ws, hy', hw', ?_⟩
    rw [zipD_len, py.len, pw.len]
    omega
  · obtain ⟨ws, hw', pw⟩ := src_t (K := K) sub (dqa_two hs).1
    obtain ⟨ys, hy', py⟩ := src_t (K := K) sub (dqa_two hs).2
    obtain ⟨T, z, z', rfl, hT, rfl, y1, y2⟩ := y
    obtain ⟨d, hd, gd⟩ := py.getV (y1 ys hy')
    obtain ⟨e, he, ge⟩ := pw.getV (y2 ws hw')
    obtain ⟨S', e1, g1, s1, q1⟩ := gr_pair sub hT gd ge
    exact ⟨S', _, e1, g1, s1, zipD_at hd he, q1⟩
end
end Ld
set_option Elab.async false
set_option linter.all false
set_option maxRecDepth 100000
set_option maxHeartbeats 4000000
/-! tuple * int; dicts of ints -/
namespace Lx
open PySem PySem.Spec PyProof.Rows L2
end Lx
namespace Lx
open PySem PySem.Spec PyProof.Rows L2
end Lx
namespace Ld
open PySem PySem.Spec PyProof.Rows L2 Lx
section
variable {K : PySem.W.Frag} {Γ : List Cell} {Θ : List Tmp}
/-! ### dicts of ints -/
abbrev dI (l : List (Int × Int)) : HO := .dK (l.map fun p => (Sum.inl p.1, V.int p.2))
def lk (l : List (Int × Int)) (n : Int) : Option Int := (l.find? fun p => decide (p.1 = n)).map (·.2)
theorem lk_val (l : List (Int × Int)) (n : Int) : valV (l.map fun p => ((Sum.inl p.1 : Key), V.int p.2)) (Sum.inl n) = (lk l n).map V.int := by
  induction l with
  | nil => rfl
  | cons p l ih =>
    by_cases h : p.1 = n
    · rw [List.map_cons, valV_pos (by rw [h])]
      simp [lk, List.find?_cons, h]
    · rw [List.map_cons, valV_neg (fun e => h (Sum.inl.inj e)), ih]
      simp [lk, List.find?_cons, h]
theorem ve_dnew {Q : List Cell → Tmp → Prop} (q : Q Γ (.ob (dI []))) : VE K Γ Θ tDNewK Q := fun L S0 σ τ S Qv E k p hp => k Γ _ _ _ (E.newOb hp) q
theorem ve_ob {i : Nat} {p : HO} {Q : List Cell → Tmp → Prop} (h : Γ[i]? = some (.ob p)) (q : Q Γ (.br i)) : VE K Γ Θ (tVar i) Q := fun L S0 σ τ S Qv E k => by
  obtain ⟨w, h1, h2⟩ := id E.ok
  obtain ⟨a, e, o, n⟩ := h1 i _ h
  exact ⟨_, e, k Γ S _ _ (E.pushBr e) q⟩
theorem ve_dget {i : Nat} {te : TE} {Q : List Cell → Tmp → Prop} (h0 : ∃ p, Γ[i]? = some (.ob p)) (h : VE K Γ (.br i :: Θ) te fun Γ1 y => ∃ (l : List (Int × Int)) (n m : Int), Γ1[i]? = some (.ob (dI l)) ∧ y = .dt (.int n) ∧ lk l n = some m ∧ Q Γ1 (.dt (.int m))) : VE K Γ Θ (tDGet (tVar i) te) Q := by
  obtain ⟨p, h0⟩ := h0
  refine fun L S0 σ τ S Qv E k => ve_ob (Q := fun Γ1 c => Γ1 = Γ ∧ c = .br i) h0 ⟨rfl, rfl⟩ L S0 σ τ S _ E fun Γ1 S1 v c E1 ⟨e1, e2⟩ => ?_
  subst e1 e2
  refine h L S0 σ _ S1 _ E1 fun Γ2 S2 vy y E2 ⟨l, n, m, hi, ey, hl, q⟩ => ?_
  subst ey
  obtain ⟨a, ea, ha⟩ := E2.pop.ob_at hi
  refine ⟨a, .int m, ea, ?_, k Γ2 S2 _ _ (E2.pop.pop.push (.int m)) q⟩
  have hg := DGet.k (k := Sum.inl n) ha
  rw [lk_val, hl] at hg
  rw [dp_int E2.dt]
  exact hg
theorem ss_dput {i : Nat} {ty tv : TE} {R : DE} (h : ∀ ss, VE K Γ (srcT ss) tv fun Γ1 v => ∃ m : Int, v = .dt (.int m) ∧ (∃ p, Γ1[i]? = some (.ob p)) ∧ VE K Γ1 (.br i :: .dt (.int m) :: srcT ss) ty fun Γ2 y => ∃ (l : List (Int × Int)) (n : Int), Γ2[i]? = some (.ob (dI l)) ∧ y = .dt (.int n) ∧ l.length < sizeLine ∧ lk l n = none ∧ R.nx (Γ2.set i (.ob (dI (l ++ [(n, m)]))))) :
    VSs K Γ (sDPut (tVar i) ty tv) R := fun ss L S0 σ τ S D E kn kr kb kc =>
  h ss L S0 σ τ S _ E fun Γ1 S1 v x E1 ⟨m, ex, ⟨p, h0⟩, h1⟩ => by
    subst ex
    refine ve_ob (Q := fun Γ2 c => Γ2 = Γ1 ∧ c = .br i) h0 ⟨rfl, rfl⟩ L S0 σ _ S1 _ E1 fun Γ2 S2 vd c E2 ⟨e1, e2⟩ => ?_
    subst e1 e2
    refine h1 L S0 σ _ S2 _ E2 fun Γ3 S3 vy y E3 ⟨l, n, hi, ey, hl, hk, q⟩ => ?_
    subst ey
    obtain ⟨a, ea, ha⟩ := E3.pop.ob_at hi
    obtain ⟨a', e', ha', put⟩ := E3.pop.pop.pop.mutOb hi
    have ev : v = .int m := dp_int E3.pop.pop.dt
    have ey : vy = .int n := dp_int E3.dt
    have eaa : a' = a := by
      obtain ⟨w, h1, z, h2⟩ := E3.pop.ok
      have z' : σ[i]? = some (some vd) := z
      rw [z', ea] at e'
      cases e'
      rfl
    subst eaa
    refine ⟨a', _, ea, ?_, kn _ _ ⟨S3.b, upd S3.h a' (dI (l ++ [(n, m)]))⟩ (put _) q⟩
    have hp := DPut.k (k := Sum.inl n) (v := .int m) ha (by rw [List.length_map]; exact hl)
    rw [putK_new _ (by rw [lk_val, hk]; rfl)] at hp
    rw [ev, ey]
    show DPut S3.h a' (kV (Sum.inl n)) (.int m) (upd S3.h a' (dI (l ++ [(n, m)])))
    unfold dI
    rw [List.map_append]
    exact hp
end
end Ld
namespace Ld
open PySem PySem.W
end Ld
set_option Elab.async false
set_option linter.all false
set_option maxRecDepth 100000
namespace Sh
/-! ### places that change: the count in its closed form -/
end Sh
namespace Sh
open PySem PySem.Spec PyProof.Rows L2 Lx Ld
end Sh
namespace Sh
open PySem PySem.Spec PyProof.Rows L2 Lx Ld
theorem cut_from (ds : List Dat) (n : Nat) : Ld.cutD ds (some (n : Int)) none = ds.drop n := by
  unfold Ld.cutD
  rw [HT.sIx_none, HT.sIx_nat]
  have e : ds.drop (min n ds.length) = ds.drop n := by
    by_cases h : n ≤ ds.length
    · rw [Nat.min_eq_left h]
    · rw [Nat.min_eq_right (by omega), List.drop_length, List.drop_of_length_le (by omega)]
  rw [e, List.take_of_length_le (by rw [List.length_drop]; omega)]
end Sh
set_option Elab.async false
set_option linter.all false
set_option maxRecDepth 100000
/-! the truth of lists, a name that a comprehension uses again, words -/
namespace Ld
open PySem PySem.Spec PyProof.Rows L2 Lx Sh
def tTru (K : PySem.W.Frag) (ta : TE) : TT := fun σ H Q => ta σ H fun x H' => ∃ k, TruV K x H' k ∧ Q k H'
section
variable {K : PySem.W.Frag} {Γ : List Cell} {Θ : List Tmp}
theorem isEmpty_len {α β : Type} {a : List α} {b : List β} (h : a.length = b.length) : a.isEmpty = b.isEmpty := by
  cases a <;> cases b <;> simp at h <;> rfl
theorem vt_truL {te : TE} {Q : List Cell → Bool → Prop} (h : VE K Γ Θ te fun Γ1 x => ∃ ds, rd Γ1 x (.list ds) ∧ Q Γ1 (!ds.isEmpty)) : VT K Γ Θ (tTru K te) Q := fun L S0 σ τ S Qv E k => h L S0 σ τ S _ E fun Γ1 S1 v x E1 ⟨ds, hx, q⟩ => by
  obtain ⟨a, us, ev, ha, pa⟩ := rdB_l E1 hx
  subst ev
  refine ⟨!us.isEmpty, .inl ⟨us, .of ha, rfl⟩, ?_⟩
  rw [isEmpty_len pa.len]
  exact k Γ1 S1 _ E1.pop q
theorem wd_eq (a b : Bool) : decide (wd a = wd b) = decide (a = b) := by cases a <;> cases b <;> decide +kernel
theorem r2_eqWW {a b : Bool} {Q : List Cell → Tmp → Prop} (q : Q Γ (.dt (.bool (decide (a = b))))) : R2V K (rEqD K) Γ Θ (.dt (.str (wd a))) (.dt (.str (wd b))) Q := r2_eqD rd_dt rd_dt (wd_s a) (wd_s b) (by rw [eqv_ss, wd_eq]; exact q)
end
end Ld
namespace Ld
open PySem PySem.Spec PyProof.Rows L2 Lx
end Ld
namespace Ld
open PySem PySem.Spec PyProof.Rows L2 Lx
theorem vg_three {K : PySem.W.Frag} {Γ : List Cell} {pr : Bool} {i j l : Nat} {x y z : Dat} {Q : List Cell → Prop} (q : Q (((Γ.set i (.dt x)).set j (.dt y)).set l (.dt z))) : VG K pr Γ (gTup K 3 (gCons (gName i) (gCons (gName j) (gCons (gName l) gNil)))) (.tuple [x, y, z]) Q := fun L S0 Θ σ τ S v R nb E hd k => by
  obtain ⟨a, xs, e, h, p⟩ : ∃ a xs, v = .ref a ∧ SqT K S.h a xs ∧ DqAll S.b xs [x, y, z] := by
    cases pr with
    | false =>
      obtain ⟨a, o, xs, e, _, h, p⟩ := dp_tup (show Dq S.b v (.tuple [x, y, z]) from hd)
      exact ⟨a, xs, e, sqt_f (E.sub _ _ h), p⟩
    | true =>
      obtain ⟨a, xs, ds, e, e2, h, p⟩ := hd
      cases e2
      exact ⟨a, xs, e, .of (E.sub _ _ h), p⟩
  cases p with
  | cons p1 p =>
    cases p with
    | cons p2 p =>
      cases p with
      | cons p3 p =>
        cases p
        exact ⟨a, _, e, h, rfl, _, _, rfl, _, _, rfl, _, _, rfl, rfl, k _ _ (((E.setDt (nb i) p1).setDt (nb j) p2).setDt (nb l) p3) q⟩
end Ld
namespace Ld
open PySem PySem.Spec PyProof.Rows L2 Lx
/-- a test at which the walk stops -/
def tStop (t : TT) : TT := t
theorem pt_stop {X : Cx} {a : Expr} {t : TT} (h : PT X a t) : PT X a (tStop t) := h
theorem vt_stop {K : PySem.W.Frag} {Γ : List Cell} {Θ : List Tmp} {t : TT} {Q : List Cell → Bool → Prop} (h : VT K Γ Θ t Q) : VT K Γ Θ (tStop t) Q := h
/-- .. whose outcome is known -/
theorem vt_cut {K : PySem.W.Frag} {Γ : List Cell} {Θ : List Tmp} {t : TT} {Q : List Cell → Bool → Prop} (b : Bool) (h : VT K Γ Θ t fun Γ1 c => c = b ∧ Γ1 = Γ) (q : Q Γ b) : VT K Γ Θ (tStop t) Q := vt_mono h fun Γ1 c ⟨e1, e2⟩ => by rw [e1, e2]; exact q
end Ld
set_option Elab.async false
set_option linter.all false
set_option maxRecDepth 100000
namespace Sh
open PySem PySem.Spec PyProof.Rows L2 Lx Ld
/-! ### several shelves -/
theorem gc_ext {A B : List Int} (h : A.Perm B) (hn : B.Nodup) (he : ∀ x ∈ B, gc A x = gc B x) : A = B := by
  have h1 := (rowF_gc rfl (dsc_pw hn) (h.trans (dsc_perm B).symm)).1
  have h2 := (rowF_gc rfl (dsc_pw hn) (dsc_perm B).symm).1
  have e : (dsc B).map (fun x => (gc A x : Int)) = (dsc B).map fun x => (gc B x : Int) := List.map_congr_left fun x hx => by rw [he x ((dsc_perm B).mem_iff.mp hx)]
  rw [e] at h1
  exact h1.symm.trans h2
theorem pastT_none {s : List Int} (hn : s.Nodup) : pastL true 0 s = s :=
  gc_ext (pastL_perm true 0 s) hn fun x hx => by rw [gc_past 0 hx]; rfl
theorem pastL_via (l : Bool) (n : Nat) (s : List Int) : pastL l n s = tm l (pastL true n (tm l s)) := by rw [pastL_t, tm_tm]
theorem pastL_none (l : Bool) {s : List Int} (hn : s.Nodup) : pastL l 0 s = s := by rw [pastL_via, pastT_none (tm_nodup l hn), tm_tm]
theorem lots_pastR (l : Bool) (n : Nat) (R : List (Option Int)) : lots (pastR l n R) = (lots R).map (pastL l n) := lots_drop _ (by rw [List.length_map]; exact lots_ne R)
theorem nums_pastR (l : Bool) (n : Nat) (R : List (Option Int)) : (nums (pastR l n R)).Perm (nums R) := by
  have h : ∀ ll : List (List Int), ((ll.map (pastL l n)).flatten).Perm ll.flatten := by
    intro ll
    induction ll with
    | nil => exact .refl _
    | cons s ll ih =>
      rw [List.map_cons, List.flatten_cons, List.flatten_cons]
      exact (pastL_perm l n s).append ih
  rw [show nums (pastR l n R) = ((lots R).map (pastL l n)).flatten from nums_drop _, ← lots_flat R]
  exact h _
end Sh
namespace Sh
end Sh
set_option Elab.async false
set_option linter.all false
set_option maxRecDepth 100000
namespace Sh
open PySem PySem.Spec PyProof.Rows L2 Lx Ld
/-! ### how far each number is moved -/
theorem idx_app_l {A B : List Int} {x : Int} (h : x ∈ A) : (A ++ B).idxOf x = A.idxOf x := by rw [List.idxOf_append, if_pos h]
theorem idx_app_r {A B : List Int} {x : Int} (h : x ∉ A) : (A ++ B).idxOf x = A.length + B.idxOf x := by rw [List.idxOf_append, if_neg h]; omega
theorem idx_srt : ∀ {T : List Int}, T.Pairwise (· ≤ ·) → ∀ {y x : Int}, y ∈ T → x ∈ T → y < x → T.idxOf y < T.idxOf x
  | a :: T, h, y, x, hy, hx, lt => by
    rw [List.pairwise_cons] at h
    rw [List.idxOf_cons, List.idxOf_cons]
    by_cases hay : a = y
    · subst hay
      have e : (a == x) = false := by simp; omega
      rw [e]
      simp
    · have hyT := (List.mem_cons.mp hy).resolve_left (fun z => hay z.symm)
      by_cases hax : a = x
      · have := h.1 y hyT; omega
      · have hxT := (List.mem_cons.mp hx).resolve_left (fun z => hax z.symm)
        have ih := idx_srt h.2 hyT hxT lt
        have e1 : (a == y) = false := by simpa using hay
        have e2 : (a == x) = false := by simpa using hax
        rw [e1, e2]
        simpa using ih
/-- a lesser one that stands on the shelf, or comes earlier, comes out ahead -/
theorem ord_step {y x : Int} (lt : y < x) {T : List Int} {r : List (Int × Nat)} (n : Nat) (hs : T.Pairwise (· ≤ ·)) (hyT : y ∈ T) (hxT : x ∈ T ++ r.map (·.1)) (ih : ∀ S : List Int, y ∈ S → x ∈ S ++ r.map (·.1) → (lp r S).idxOf y < (lp r S).idxOf x) :
    (T.take n ++ lp r (T.drop n)).idxOf y < (T.take n ++ lp r (T.drop n)).idxOf x := by
  by_cases h1 : y ∈ T.take n
  · have i1 : (T.take n).idxOf y < (T.take n).length := List.idxOf_lt_length_iff.mpr h1
    rw [idx_app_l h1]
    by_cases h2 : x ∈ T.take n
    · rw [idx_app_l h2]
      exact idx_srt (hs.sublist (List.take_sublist _ _)) h1 h2 lt
    · rw [idx_app_r h2]
      omega
  · have hyd : y ∈ T.drop n := by
      rw [← List.take_append_drop n T] at hyT
      exact (List.mem_append.mp hyT).resolve_left h1
    have h2 : x ∉ T.take n := fun z => by
      rw [← List.take_append_drop n T, List.pairwise_append] at hs
      have := hs.2.2 x z y hyd
      omega
    rw [idx_app_r h1, idx_app_r h2]
    have hxd : x ∈ T.drop n ++ r.map (·.1) := by
      rw [← List.take_append_drop n T, List.append_assoc] at hxT
      exact (List.mem_append.mp hxT).resolve_left h2
    have := ih _ hyd hxd
    omega
theorem mem_step {S : List Int} {a x : Int} {m : Nat} {r : List (Int × Nat)} (hx : x ∈ S ++ ((a, m) :: r).map (·.1)) : x ∈ asc (S ++ [a]) ++ r.map (·.1) := by
  rw [List.map_cons] at hx
  rw [List.mem_append, (asc_perm _).mem_iff]
  rcases List.mem_append.mp hx with h | h
  · exact .inl (List.mem_append_left _ h)
  · rcases List.mem_cons.mp h with h | h
    · exact .inl (by rw [h]; simp)
    · exact .inr h
theorem lp_ord {y x : Int} (lt : y < x) : ∀ (L : List (Int × Nat)) (S : List Int), y ∈ S → x ∈ S ++ L.map (·.1) → (lp L S).idxOf y < (lp L S).idxOf x
  | [], S, hy, hx => by
    rw [List.map_nil, List.append_nil] at hx
    exact idx_srt (asc_srt S) ((asc_perm S).mem_iff.mpr hy) ((asc_perm S).mem_iff.mpr hx) lt
  | (a, m) :: r, S, hy, hx => ord_step lt _ (asc_srt _) ((asc_perm _).mem_iff.mpr (by simp [hy])) (mem_step hx) (lp_ord lt r)
theorem lp_ord2 {y x : Int} (lt : y < x) : ∀ (L : List (Int × Nat)) (S : List Int), y ∉ S → x ∉ S → y ∈ L.map (·.1) → x ∈ L.map (·.1) → (L.map (·.1)).idxOf y < (L.map (·.1)).idxOf x → (lp L S).idxOf y < (lp L S).idxOf x
  | (a, m) :: r, S, hy, hx, hyL, hxL, h => by
    rw [List.map_cons] at h hyL hxL
    rw [List.idxOf_cons, List.idxOf_cons] at h
    by_cases hay : a = y
    · exact ord_step lt _ (asc_srt _) ((asc_perm _).mem_iff.mpr (by simp [hay])) (mem_step (by rw [List.map_cons]; exact List.mem_append_right _ hxL)) (lp_ord lt r)
    · have e1 : (a == y) = false := by simpa using hay
      have hax : ¬ a = x := fun e => by
        have e2 : (a == x) = true := by simpa using e
        rw [e2] at h
        simp at h
      have e2 : (a == x) = false := by simpa using hax
      rw [e1, e2] at h
      have hyT : y ∉ asc (S ++ [a]) := fun z => by
        have := (asc_perm _).mem_iff.mp z
        simp only [List.mem_append, List.mem_singleton] at this
        rcases this with q | q
        · exact hy q
        · exact hay q.symm
      have hxT : x ∉ asc (S ++ [a]) := fun z => by
        have := (asc_perm _).mem_iff.mp z
        simp only [List.mem_append, List.mem_singleton] at this
        rcases this with q | q
        · exact hx q
        · exact hax q.symm
      show ((asc (S ++ [a])).take _ ++ lp r _).idxOf y < ((asc (S ++ [a])).take _ ++ lp r _).idxOf x
      rw [idx_app_r (fun z => hyT (List.mem_of_mem_take z)), idx_app_r (fun z => hxT (List.mem_of_mem_take z))]
      have := lp_ord2 lt r ((asc (S ++ [a])).drop (S.length + 1 - m)) (fun z => hyT (List.mem_of_mem_drop z)) (fun z => hxT (List.mem_of_mem_drop z)) ((List.mem_cons.mp hyL).resolve_left fun z => hay z.symm) ((List.mem_cons.mp hxL).resolve_left fun z => hax z.symm) (by simpa using h)
      omega
theorem past_ord {y x : Int} {N : List Int} {n : Nat} (lt : y < x) (hy : y ∈ N) (hx : x ∈ N) (h : N.idxOf y < N.idxOf x) : (pastL true n N).idxOf y < (pastL true n N).idxOf x := by
  unfold pastL
  rw [tm_t, tm_t]
  have e0 : (N.map fun a => (a, n)).map (·.1) = N := by
    rw [List.map_map]
    exact List.map_id _
  exact lp_ord2 lt _ [] (by simp) (by simp) (by rw [e0]; exact hy) (by rw [e0]; exact hx) (by rw [e0]; exact h)
def cntL (l : List Int) (a : Int) : Nat := (l.filter fun o => decide (o < a)).length
theorem cnt_both : ∀ {l : List Int} {x : Int}, x ∉ l → cntG l x + cntL l x = l.length
  | [], _, _ => rfl
  | a :: l, x, h => by
    have ih := cnt_both fun z => h (List.mem_cons_of_mem a z)
    have ha : ¬ a = x := fun e => h (by simp [e])
    unfold cntG cntL at ih ⊢
    by_cases h1 : a > x
    · rw [List.filter_cons, List.filter_cons, if_pos (by simpa using h1), if_neg (by simp; omega)]
      simp only [List.length_cons]
      omega
    · rw [List.filter_cons, List.filter_cons, if_neg (by simpa using h1), if_pos (by simp; omega)]
      simp only [List.length_cons]
      omega
theorem split_at {l : List Int} {x : Int} (hx : x ∈ l) : ∃ A B, l = A ++ x :: B ∧ x ∉ A ∧ l.idxOf x = A.length ∧ (l.takeWhile fun y => y != x) = A ∧ l.drop (l.idxOf x + 1) = B := by
  obtain ⟨A, B, e, hA⟩ := List.eq_append_cons_of_mem hx
  refine ⟨A, B, e, hA, ?_, ?_, ?_⟩
  · rw [e, idx_app_r hA, List.idxOf_cons_self]; omega
  · rw [e, tw_out _ hA]
    simp
  · rw [e, idx_app_r hA, List.idxOf_cons_self]
    simp
/-- how many lesser ones that stand behind come out ahead -/
def gone (n : Nat) (N : List Int) (x : Int) : Nat := ((N.drop (N.idxOf x + 1)).filter fun z => decide (z < x) && decide ((pastL true n N).idxOf z < (pastL true n N).idxOf x)).length
theorem moved_one {N : List Int} {n : Nat} {x : Int} (hN : N.Nodup) (hx : x ∈ N) : ((pastL true n N).idxOf x : Int) - (N.idxOf x : Int) = (gone n N x : Int) - min (gc N x : Int) n := by
  have hp := pastL_perm true n N
  have hxP := hp.mem_iff.mpr hx
  have hg := gc_past n hx
  have ord : ∀ z ∈ N, z < x → N.idxOf z < N.idxOf x → (pastL true n N).idxOf z < (pastL true n N).idxOf x := fun z hz lt h => past_ord lt hz hx h
  unfold gone
  obtain ⟨A, B, eN, hA, iN, tN, dN⟩ := split_at hx
  have hPn : (pastL true n N).Nodup := hp.nodup_iff.mpr hN
  generalize pastL true n N = P at *
  obtain ⟨C, D, eP, hC, iP, tP, _⟩ := split_at hxP
  rw [dN]
  have gN : gc N x = cntG A x := by unfold gc; rw [tN]
  have gP : gc P x = cntG C x := by unfold gc; rw [tP]
  have bN := cnt_both hA
  have bP := cnt_both hC
  -- the lesser ones ahead in P, counted over N
  have key : cntL C x = (N.filter fun z => decide (z < x) && decide (P.idxOf z < P.idxOf x)).length := by
    rw [← (hp.filter _).length_eq]
    have hn1 : (C ++ x :: D).Nodup := eP ▸ hPn
    have f1 : C.filter (fun z => decide (z < x) && decide (P.idxOf z < P.idxOf x)) = C.filter fun z => decide (z < x) := List.filter_congr fun z hz => by
      have : P.idxOf z < C.length := by
        rw [eP, idx_app_l hz]
        exact List.idxOf_lt_length_iff.mpr hz
      rw [iP]
      simp [this]
    have f2 : (x :: D).filter (fun z => decide (z < x) && decide (P.idxOf z < P.idxOf x)) = [] := List.filter_eq_nil_iff.mpr fun z hz => by
      rw [List.nodup_append] at hn1
      have hzC : z ∉ C := fun w => hn1.2.2 z w z hz rfl
      have : ¬ P.idxOf z < C.length := by
        rw [eP, idx_app_r hzC]
        omega
      rw [iP]
      simp [this]
    have e2 : P.filter (fun z => decide (z < x) && decide (P.idxOf z < P.idxOf x)) = C.filter fun z => decide (z < x) := by
      have e3 : ∀ p : Int → Bool, P.filter p = C.filter p ++ (x :: D).filter p := fun p => by rw [eP, List.filter_append]
      rw [e3, f1, f2, List.append_nil]
    rw [e2]
    rfl
  have key2 : (N.filter fun z => decide (z < x) && decide (P.idxOf z < P.idxOf x)).length = cntL A x + (B.filter fun z => decide (z < x) && decide (P.idxOf z < P.idxOf x)).length := by
    have e3 : ∀ p : Int → Bool, N.filter p = A.filter p ++ (x :: B).filter p := fun p => by rw [eN, List.filter_append]
    have f1 : A.filter (fun z => decide (z < x) && decide (P.idxOf z < P.idxOf x)) = A.filter fun z => decide (z < x) := List.filter_congr fun z hz => by
      by_cases lt : z < x
      · have := ord z (by rw [eN]; exact List.mem_append_left _ hz) lt (by
          rw [iN, eN, idx_app_l hz]
          exact List.idxOf_lt_length_iff.mpr hz)
        simp [lt, this]
      · simp [lt]
    have f2 : (x :: B).filter (fun z => decide (z < x) && decide (P.idxOf z < P.idxOf x)) = B.filter fun z => decide (z < x) && decide (P.idxOf z < P.idxOf x) := by
      rw [List.filter_cons, if_neg (by simp)]
    rw [e3, f1, f2, List.length_append]
    rfl
  omega
end Sh
namespace Sh
open PySem PySem.Spec PyProof.Rows L2 Lx Ld
/-! with stretches and marks -/
def mvS (l : Bool) (n : Nat) (s : List Int) : List Int := s.map fun x => ((pastL l n s).idxOf x : Int) - (s.idxOf x : Int)
theorem idx_map {f : Int → Int} (hf : ∀ a b, f a = f b → a = b) (x : Int) : ∀ l : List Int, (l.map f).idxOf (f x) = l.idxOf x
  | [] => rfl
  | a :: l => by
    rw [List.map_cons, List.idxOf_cons, List.idxOf_cons, idx_map hf x l]
    by_cases h : a = x
    · subst h; simp
    · have e1 : (a == x) = false := by simpa using h
      have e2 : (f a == f x) = false := by simpa using fun z => h (hf _ _ z)
      rw [e1, e2]
theorem idx_tm (l : Bool) (x : Int) (s : List Int) : (tm l s).idxOf (sg l * x) = s.idxOf x := idx_map (f := (sg l * ·)) (fun a b => tm_inj l) x s
theorem mvS_is {l : Bool} {n : Nat} {s : List Int} (hn : s.Nodup) : mvS l n s = (tm l s).map fun x => (gone n (tm l s) x : Int) - min (gc (tm l s) x : Int) n := by
  unfold mvS
  rw [show (tm l s).map (fun x => (gone n (tm l s) x : Int) - min (gc (tm l s) x : Int) n) = s.map fun x => (gone n (tm l s) (sg l * x) : Int) - min (gc (tm l s) (sg l * x) : Int) n by rw [tm, List.map_map]; rfl]
  refine List.map_congr_left fun x hx => ?_
  have h := moved_one (n := n) (tm_nodup l hn) (List.mem_map_of_mem (f := (sg l * ·)) hx)
  rw [← h, idx_tm, ← idx_tm l x (pastL l n s), ← pastL_t]
theorem mvS_low {l : Bool} {n : Nat} {s : List Int} (hn : s.Nodup) : ∀ m ∈ mvS l n s, -(n : Int) ≤ m := fun m hm => by
  rw [mvS_is hn] at hm
  obtain ⟨x, _, rfl⟩ := List.mem_map.mp hm
  omega
theorem mvS_zero {l : Bool} {s : List Int} (hn : s.Nodup) : ∀ m ∈ mvS l 0 s, m = 0 := fun m hm => by
  obtain ⟨x, _, rfl⟩ := List.mem_map.mp hm
  rw [pastL_none l hn]
  omega
theorem idx_sum : ∀ {s : List Int}, s.Nodup → (s.map fun x => (s.idxOf x : Int)) = (List.range s.length).map fun k : Nat => (k : Int) := fun {s} h => by
  refine List.ext_getElem? fun i => ?_
  by_cases hi : i < s.length
  · rw [List.getElem?_map, List.getElem?_map, List.getElem?_range hi, List.getElem?_eq_getElem hi]
    simp only [Option.map_some]
    rw [h.idxOf_getElem i hi]
  · rw [List.getElem?_map, List.getElem?_map, List.getElem?_eq_none (by omega), List.getElem?_eq_none (by simp; omega)]
    rfl
theorem sum_perm {a b : List Int} (h : a.Perm b) : a.sum = b.sum := by
  induction h with
  | nil => rfl
  | cons x _ ih => rw [List.sum_cons, List.sum_cons, ih]
  | swap x y l => simp only [List.sum_cons]; omega
  | trans _ _ i1 i2 => exact i1.trans i2
theorem sum_sub (f g : Int → Int) : ∀ l : List Int, (l.map fun x => f x - g x).sum = (l.map f).sum - (l.map g).sum
  | [] => rfl
  | a :: l => by rw [List.map_cons, List.sum_cons, sum_sub f g l, List.map_cons, List.map_cons, List.sum_cons, List.sum_cons]; omega
theorem mvS_sum {l : Bool} {n : Nat} {s : List Int} (hn : s.Nodup) : (mvS l n s).sum = 0 := by
  have hp := pastL_perm l n s
  unfold mvS
  rw [sum_sub (fun x => ((pastL l n s).idxOf x : Int)) (fun x => (s.idxOf x : Int)), idx_sum hn]
  have h1 := sum_perm (hp.map fun x => ((pastL l n s).idxOf x : Int))
  rw [idx_sum (hp.nodup_iff.mpr hn), hp.length_eq] at h1
  rw [h1]
  omega
theorem flat_sum : ∀ {ll : List (List Int)}, (∀ s ∈ ll, s.sum = 0) → ll.flatten.sum = 0
  | [], _ => rfl
  | s :: ll, h => by rw [List.flatten_cons, List.sum_append, h s (by simp), flat_sum fun t ht => h t (List.mem_cons_of_mem _ ht)]; rfl
/-- a number's place in a row -/
def ixO (r : List (Option Int)) (x : Int) : Nat := r.idxOf (some x)
theorem ixO_some (x : Int) : ∀ s : List Int, (s.map some).idxOf (some x) = s.idxOf x
  | [] => rfl
  | a :: s => by
    rw [List.map_cons, List.idxOf_cons, List.idxOf_cons, ixO_some x s]
    by_cases h : a = x
    · subst h; simp
    · have e1 : (a == x) = false := by simpa using h
      have e2 : (some a == some x) = false := by simpa using h
      rw [e1, e2]
theorem ixO_in {A B : List (Option Int)} {x : Int} (h : some x ∈ A) : ixO (A ++ B) x = ixO A x := by unfold ixO; rw [List.idxOf_append, if_pos h]
theorem ixO_out {A B : List (Option Int)} {x : Int} (h : some x ∉ A) : ixO (A ++ B) x = A.length + ixO B x := by unfold ixO; rw [List.idxOf_append, if_neg h]; omega
theorem mem_some {s : List Int} {x : Int} : some x ∈ s.map some ↔ x ∈ s := by simp
theorem moved_join (l : Bool) (n : Nat) : ∀ ll : List (List Int), ll.flatten.Nodup → (ll.flatten.map fun x => (ixO (joinO (ll.map (pastL l n))) x : Int) - (ixO (joinO ll) x : Int)) = ll.flatMap (mvS l n)
  | [], _ => rfl
  | s :: ll, h => by
    rw [List.flatten_cons, List.nodup_append] at h
    rw [List.flatten_cons, List.map_append, List.flatMap_cons]
    have j1 : ∀ (t : List Int) (l2 : List (List Int)), joinO (t :: l2) = t.map some ++ ([none] ++ joinO l2) := fun t l2 => by unfold joinO; rw [List.flatMap_cons, List.append_assoc]
    rw [List.map_cons, j1, j1]
    have hp := pastL_perm l n s
    congr 1
    · unfold mvS
      refine List.map_congr_left fun x hx => ?_
      rw [ixO_in (mem_some.mpr (hp.mem_iff.mpr hx)), ixO_in (mem_some.mpr hx)]
      unfold ixO
      rw [ixO_some, ixO_some]
    · rw [← moved_join l n ll h.2.1]
      refine List.map_congr_left fun x hx => ?_
      have hs : x ∉ s := fun z => h.2.2 x z x hx rfl
      rw [ixO_out (fun z => hs (hp.mem_iff.mp (mem_some.mp z))), ixO_out (fun z => hs (mem_some.mp z)), ixO_out (by simp), ixO_out (by simp), List.length_map, List.length_map, hp.length_eq]
      omega
theorem mem_nums {r : List (Option Int)} {x : Int} : x ∈ nums r ↔ some x ∈ r := by
  unfold nums
  rw [List.mem_filterMap]
  constructor
  · rintro ⟨a, h, e⟩
    have e2 : a = some x := e
    rw [← e2]; exact h
  · exact fun h => ⟨_, h, rfl⟩
theorem moved_row {l : Bool} {n : Nat} {r : List (Option Int)} (h : (nums r).Nodup) : ((nums r).map fun x => (ixO (pastR l n r) x : Int) - (ixO r x : Int)) = (lots r).flatMap (mvS l n) := by
  have e := moved_join l n (lots r) (by rw [lots_flat]; exact h)
  rw [lots_flat] at e
  rw [← e]
  refine List.map_congr_left fun x hx => ?_
  have h1 : ixO (joinO (lots r)) x = ixO r x := by rw [joinO_lots, ixO_in (mem_nums.mp hx)]
  have h2 : ixO (joinO ((lots r).map (pastL l n))) x = ixO (pastR l n r) x := by
    rw [← lots_pastR, joinO_lots, ixO_in (mem_nums.mp ((nums_pastR l n r).mem_iff.mpr hx))]
  rw [h1, h2]
theorem moved_prog (f : Int → Int) : ∀ (r : List (Option Int)) (k : Nat), (nums r).Nodup → (((r.zipIdx k).filter fun p => !isNo (oD p.1)).map fun p => PyData.int (f (p.1.getD 0) - (p.2 : Int))) = iL ((nums r).map fun x => f x - ((k : Int) + (ixO r x : Int)))
  | [], _, _ => rfl
  | none :: r, k, h => by
    have ih := moved_prog f r (k + 1) h
    rw [List.zipIdx_cons, List.filter_cons, if_neg (by simp [oD, isNo]), ih]
    show iL ((nums r).map _) = iL ((nums r).map _)
    congr 1
    refine List.map_congr_left fun x _ => ?_
    have : ixO (none :: r) x = ixO r x + 1 := by unfold ixO; rw [List.idxOf_cons]; rfl
    rw [this]
    omega
  | some a :: r, k, h => by
    have hn : nums (some a :: r) = a :: nums r := rfl
    rw [hn, List.nodup_cons] at h
    have ih := moved_prog f r (k + 1) h.2
    rw [List.zipIdx_cons, List.filter_cons, if_pos (by simp [oD, isNo]), List.map_cons, ih, hn, List.map_cons]
    have h0 : ixO (some a :: r) a = 0 := by unfold ixO; rw [List.idxOf_cons_self]
    show PyData.int _ :: iL _ = PyData.int _ :: iL _
    congr 1
    · rw [h0]
      show PyData.int (f a - (k : Int)) = _
      congr 1
    · congr 1
      refine List.map_congr_left fun x hx => ?_
      have hax : ¬ a = x := fun e => h.1 (e ▸ hx)
      have : ixO (some a :: r) x = ixO r x + 1 := by
        unfold ixO
        have e2 : (some a == some x) = false := by simpa using hax
        rw [List.idxOf_cons, e2]
        rfl
      rw [this]
      omega
end Sh
namespace Ld
open PySem PySem.Spec PyProof.Rows L2 Lx
def tTIdxO (ta te : TE) : TE := tTIdx ta te
theorem pe_tidxO {X : Cx} {o e : Expr} {to te : TE} {apos cpos : Pos} (ho : PE X o to) (ha : PE X e te)
    (hbase : attributeBase o "index" X.env (eval o X.env) = eval o X.env := by rfl) (hfew : ((backTo cpos (starEach [e] X.env)).all (fun x => !x.1) && (backToKw cpos (keywordEach [] X.env)).all (fun x => x.1.isSome)
      && decide ([e].length + ([] : List Keyword).length + (if ([] : List Keyword).isEmpty then 0 else 1) < 30)) = true := by rfl)
    (hline : (apos.endLine == cpos.line) = true := by rfl) (hs : starEach [e] X.env = (false, eval e X.env) :: starEach [] X.env := by rfl) (hplain : (backTo cpos (starEach [] X.env)).any (·.1) = false := by rfl) :
    PE X (.Call (.Attribute o "index" apos) [e] [] cpos) (tTIdxO to te) := pe_tidx ho ha hbase hfew hline hs hplain
end Ld
namespace Sh
open PySem PySem.Spec PyProof.Rows L2 Lx Ld
theorem oL_fl (r : List (Option Int)) : (oL r).all flD = true := by
  rw [List.all_eq_true]
  intro d hd
  obtain ⟨o, _, rfl⟩ := List.mem_map.mp hd
  cases o <;> simp [oD, flD]
theorem ixO_at {r : List (Option Int)} {x : Int} (h : some x ∈ r) : (oL r)[ixO r x]? = some (.int x) := by
  have hi := List.idxOf_lt_length_iff.mpr h
  unfold ixO
  rw [List.getElem?_map, List.getElem?_eq_getElem hi]
  simp [oD]
theorem eqF_o {o : Option Int} {x : Int} : eqF (oD o) (.int x) = decide (o = some x) := by
  cases o with
  | none => simp [oD, eqF]
  | some a =>
    show eqF (.int a) (.int x) = _
    rw [eqF_ii]
    by_cases h : a = x <;> simp [h]
theorem ixO_no {r : List (Option Int)} {x : Int} {m : Nat} {z : Dat} (hm : m < ixO r x) (hz : (oL r)[m]? = some z) : eqF z (.int x) = false := by
  rw [List.getElem?_map] at hz
  obtain ⟨k, hk, rfl⟩ := Option.map_eq_some_iff.mp hz
  rw [eqF_o]
  refine decide_eq_false fun e => ?_
  subst e
  obtain ⟨hl, e2⟩ := List.getElem?_eq_some_iff.mp hk
  have := List.not_of_lt_findIdx (xs := r) (p := (· == some x)) (i := m) hm
  simp [e2] at this
theorem ve_tidxO {K : PySem.W.Frag} {Γ : List Cell} {Θ : List Tmp} {ta te : TE} {Q : List Cell → Tmp → Prop}
    (h : VE K Γ Θ ta fun Γ1 x => ∃ r, x = .dt (.tuple (oL r)) ∧ VE K Γ1 (x :: Θ) te fun Γ2 y => ∃ n, y = .dt (.int n) ∧ some n ∈ r ∧ Q Γ2 (.dt (.int (ixO r n)))) :
    VE K Γ Θ (tTIdxO ta te) Q := ve_tidx (ve_mono h fun Γ1 x ⟨r, hx, h2⟩ => ⟨oL r, hx, ve_mono h2 fun Γ2 y ⟨n, g2, g3, g4⟩ => by
  subst g2
  exact ⟨.int n, ixO r n, .int n, rd_dt, rfl, oL_fl r, ixO_at g3, by rw [eqF_ii]; simp, fun m z hm hz => ixO_no hm hz, g4⟩⟩)
theorem lp_past (n : Nat) (N : List Int) : lp (N.map fun a => (a, n)) [] = pastL true n N := by unfold pastL; rw [tm_t, tm_t]
end Sh
namespace Sh
open PySem PySem.Spec PyProof.Rows L2 Lx Ld
theorem flat_nodup {r : List (Option Int)} (h : (nums r).Nodup) : ∀ s ∈ lots r, s.Nodup := fun s hs => lots_nodup h hs
theorem mvS_len (l : Bool) (n : Nat) (s : List Int) : (mvS l n s).length = s.length := List.length_map _
theorem mv_len (l : Bool) (n : Nat) : ∀ ll : List (List Int), (ll.flatMap (mvS l n)).length = ll.flatten.length
  | [] => rfl
  | s :: ll => by rw [List.flatMap_cons, List.flatten_cons, List.length_append, List.length_append, mvS_len, mv_len l n ll]
theorem mvS_at {l : Bool} {n : Nat} {s : List Int} {j : Nat} {y : Int} (hn : s.Nodup) (h : (tm l s)[j]? = some y) : (mvS l n s)[j]? = some ((gone n (tm l s) y : Int) - min (gc (tm l s) y : Int) n) := by
  rw [mvS_is hn, List.getElem?_map, h]
  rfl
end Sh
set_option Elab.async false
set_option linter.all false
set_option maxRecDepth 100000
namespace Ld
open PySem PySem.Spec PyProof.Rows L2 Lx
section
variable {K : PySem.W.Frag} {mg : Str → Option Value}
theorem fun_of {x : Str} {st : Stmt} {f : Addr} {fd : FuncData} (F : FunD K x x (defArgs st) (defBody st) (defScope st) [] [] f fd) : Fun K x x st f fd := by
  obtain ⟨oc, od, dV, kV, doc, pm, an, cdv, ct, osl, e, lk, hcd, hd, _⟩ := F.ex
  rcases hd with ⟨_, hd⟩ | ⟨hd, _⟩
  · subst hd
    exact ⟨⟨oc, od, kV, doc, pm, an, cdv, ct, osl, e, lk, hcd⟩, F.kp⟩
  · exact absurd rfl hd
theorem Df.of {x : Str} {st : Stmt} {ps : List Str} {f : Addr} {fd : FuncData} (F : FunD K x x (defArgs st) (defBody st) (defScope st) [] [] f fd) (g : mg x = some (.ref f))
    (h : ∀ (kV doc pm : Value) (an : Option Addr) (cdv ct : Value) (us : List Value), us.length = ps.length → bindArgs (PySem.W.fnOf x x (defArgs st) (defBody st) (defScope st) .none kV doc pm an cdv ct) ⟨us, []⟩ = pure (ps.zip us)) : Df K mg x st ps f fd :=
  ⟨fun_of F, g, (fun_of F).binds h⟩
theorem law_sp {H : Hp} {a : Addr} {ns : List Int} (hl : ns.length ≤ 63) (hS : SqL K H a (ns.map V.int)) : spF K (fun ns : List Int => [.sc ns]) (fun ns => ns.length ≤ 63) (fun _ => .bool true) [.ref a] H (fun v _ => v = .bl true) fun _ _ _ => False :=
  ⟨H, ns, Same.refl _, .cons ⟨a, rfl, hS⟩ .nil, hl, fun v S' d _ _ hd e => by
    subst e
    exact dp_bool hd⟩
end
end Ld
set_option Elab.async false
set_option linter.all false
set_option maxRecDepth 100000
set_option autoImplicit false
set_option maxHeartbeats 8000000
namespace Sh
open PySem PySem.Spec PyProof.Rows L2 Lx Ld
local macro_rules | `(tactic| walk_at "n") => `(tactic| first
  | exact nb_nil
  | exact nb_srcT
  | exact nb_app nb_srcT nb_nil
  | (refine nb_dt ?_; walk_at "n")
  | (refine nb_fr ?_; walk_at "n")
  | (refine nb_sc ?_; walk_at "n")
  | (refine nb_arg ?_; walk_at "n")
  | (refine nb_br (by decide) ?_; walk_at "n")
  | (refine nb_app nb_srcT ?_; walk_at "n"))
local macro_rules | `(tactic| fail "walk VE0") => `(tactic| first
  | ((with_reducible apply ve_var); exact rfl)
  | ((with_reducible apply ve_own); exact rfl; exact rfl)
  | ((with_reducible apply ve_scr); exact rfl)
  | ((with_reducible apply ve_ob); exact rfl)
  | (with_reducible refine ve_int ?_)
  | (with_reducible refine ve_bl ?_)
  | (with_reducible refine ve_non ?_)
  | (with_reducible refine ve_str ?_))
local macro_rules | `(tactic| fail "walk VE1") => `(tactic| first
  | (with_reducible refine ve_op ?_)
  | (with_reducible refine ve_isi ?_)
  | (with_reducible refine ve_c1 ?_)
  | (with_reducible refine ve_c2 ?_)
  | (with_reducible refine ve_callLF ?_)
  | (with_reducible refine ve_callL ?_)
  | (with_reducible refine ve_callNL ?_)
  | (with_reducible refine ve_callV ⟨_, isl_ow rfl⟩ ?_))
local macro_rules | `(tactic| fail "walk VE2") => `(tactic| first
  | (with_reducible refine ve_callOrF ?_)
  | (with_reducible refine ve_callF ?_)
  | (with_reducible refine ve_callFd ?_)
  | (with_reducible refine ve_callG ?_)
  | (with_reducible refine ve_callW ?_)
  | (with_reducible refine ve_tup ?_)
  | (with_reducible refine ve_tidxI ?_)
  | (with_reducible refine ve_popAt ⟨_, isl_ow rfl⟩ ?_))
local macro_rules | `(tactic| fail "walk VE3") => `(tactic| first
  | (with_reducible refine ve_pop0 ⟨_, isl_ow rfl⟩ ?_)
  | (with_reducible refine ve_append ⟨_, isl_ow rfl⟩ (vx_of ?_))
  | (with_reducible refine ve_append ⟨_, isl_ln rfl⟩ (vx_of ?_))
  | (with_reducible refine ve_insert ⟨_, isl_ow rfl⟩ (vx_of ?_))
  | (with_reducible refine ve_extend ⟨_, isl_ow rfl⟩ (vx_of ?_))
  | (with_reducible refine ve_indexI ?_)
  | (with_reducible refine ve_lcount ?_)
  | (with_reducible refine ve_remove ⟨_, isl_ln rfl⟩ ?_))
local macro_rules | `(tactic| fail "walk VE4") => `(tactic| first
  | (with_reducible refine ve_remove ⟨_, isl_ow rfl⟩ ?_)
  | (with_reducible refine ve_ifS ?_)
  | (with_reducible refine ve_ifE ?_)
  | (with_reducible refine ve_lst ?_)
  | (with_reducible refine ve_chain ?_)
  | ((with_reducible apply ve_fldSh); assumption; exact rfl)
  | (with_reducible refine ve_split ?_)
  | (with_reducible refine ve_rmp ?_))
local macro_rules | `(tactic| fail "walk VE5") => `(tactic| first
  | (with_reducible refine ve_join ?_)
  | (with_reducible refine ve_dnew ?_)
  | (with_reducible refine ve_dictZip ?_)
  | (with_reducible refine ve_dget ⟨_, rfl⟩ ?_)
  | (with_reducible refine ve_notV ?_)
  | (with_reducible refine ve_notTp ?_)
  | (with_reducible refine ve_andV ?_)
  | (with_reducible refine ve_orV ?_))
local macro_rules | `(tactic| fail "walk VE6") => `(tactic| first
  | (with_reducible refine ve_maxD ?_)
  | (with_reducible refine ve_un rfl ?_)
  | (with_reducible refine ve_lenSet ?_)
  | (with_reducible refine ve_revL ?_)
  | (with_reducible refine ve_slL ?_)
  | (with_reducible refine ve_slT ?_)
  | (with_reducible refine ve_slS ?_)
  | (with_reducible refine ve_lstRg1 ?_))
local macro_rules | `(tactic| fail "walk VE7") => `(tactic| first
  | (with_reducible refine ve_lstRg2 ?_)
  | (with_reducible refine ve_tidxO ?_))
local macro_rules | `(tactic| fail "walk VE") => `(tactic| first | fail "walk VE0" | fail "walk VE1" | fail "walk VE2" | fail "walk VE3" | fail "walk VE4" | fail "walk VE5" | fail "walk VE6" | fail "walk VE7")
local macro_rules | `(tactic| fail "walk VSs0") => `(tactic| first
  | (with_reducible refine ss_seq ?_)
  | (with_reducible refine ss_set fun ss => ?_)
  | (with_reducible refine ss_parT fun ss => ?_)
  | (with_reducible refine ss_setL fun ss => vx_of ?_)
  | (with_reducible refine ss_swap fun ss => ?_)
  | (with_reducible refine ss_asg4 (by decide) fun ss => ?_)
  | (with_reducible refine ss_asgG fun ss => ?_)
  | (with_reducible refine ss_if fun ss => ?_))
local macro_rules | `(tactic| fail "walk VSs1") => `(tactic| first
  | (with_reducible refine ss_ret fun ss => vd_of ?_)
  | (with_reducible refine ss_retN ?_)
  | (with_reducible refine ss_drop fun ss => ?_)
  | (with_reducible refine ss_par fun ss => ?_)
  | (with_reducible refine ss_par3 fun ss => ?_)
  | (with_reducible refine ss_next ?_)
  | (with_reducible refine ss_cont ?_)
  | (with_reducible refine ss_dput fun ss => ?_))
local macro_rules | `(tactic| fail "walk VSs2") => `(tactic| first
  | (with_reducible refine ss_augI ⟨_, rfl⟩ fun ss => ?_)
  | (with_reducible refine ss_augI0 ⟨_, rfl⟩ fun ss => ?_))
local macro_rules | `(tactic| fail "walk VSs") => `(tactic| first | fail "walk VSs0" | fail "walk VSs1" | fail "walk VSs2")
local macro_rules | `(tactic| fail "walk VAX") => `(tactic| first
  | (with_reducible refine vax_cons (vx_of ?_))
  | (with_reducible refine vax_star ?_)
  | (with_reducible refine vax_nil ?_))
local macro_rules | `(tactic| fail "walk VX") => `(tactic| first
  | (with_reducible refine vx_of ?_))
local macro_rules | `(tactic| fail "walk VT") => `(tactic| first
  | (with_reducible refine vt_B ?_)
  | (with_reducible refine vt_test ?_)
  | (with_reducible refine vt_and ?_)
  | (with_reducible refine vt_or ?_)
  | (with_reducible refine vt_not ?_)
  | (with_reducible refine vt_yes ?_)
  | (with_reducible refine vt_truL ?_)
  | (with_reducible refine vt_truTp ?_))
local macro_rules | `(tactic| fail "walk VD") => `(tactic| first
  | (with_reducible refine vd_of ?_))
local macro_rules | `(tactic| fail "walk R2V0") => `(tactic| first
  | (with_reducible refine r2_inS ?_)
  | (with_reducible refine r2_notInS ?_)
  | (with_reducible refine r2_ii ?_)
  | (with_reducible refine r2_ib ?_)
  | (with_reducible refine r2_eqI ?_)
  | (with_reducible refine r2_neI ?_)
  | (with_reducible refine r2_ic (by first | (show (_ : Int) < _; omega) | (unfold L2.CMul; omega) | (unfold L2.CDiv; omega) | (unfold L2.CPow; omega)) ?_)
  | (with_reducible refine r2_isB ?_))
local macro_rules | `(tactic| fail "walk R2V1") => `(tactic| first
  | (with_reducible refine r2_notB ?_)
  | (with_reducible refine r2_isN rd_dt ?_)
  | (with_reducible refine r2_notN rd_dt ?_)
  | (with_reducible refine r2_eqW ?_)
  | (with_reducible refine r2_eqWW ?_)
  | (with_reducible refine r2_eqB ?_)
  | (with_reducible refine r2_neB ?_))
local macro_rules | `(tactic| fail "walk R2V") => `(tactic| first | fail "walk R2V0" | fail "walk R2V1")
local macro_rules | `(tactic| fail "walk C1V0") => `(tactic| first
  | (with_reducible refine c1_strS ?_)
  | (with_reducible refine c1_strI (by omega) ?_)
  | (with_reducible refine c1_len (sq_l rd_dt) ?_)
  | (with_reducible refine c1_len (sq_l rd_fr) ?_)
  | (with_reducible refine c1_len sq_t ?_)
  | (with_reducible refine c1_len (sq_l (rd_ow rfl)) ?_)
  | (with_reducible refine c1_len (sq_l (rd_ln rfl)) ?_)
  | (with_reducible refine c1_tupL (rd_ow rfl) ?_))
local macro_rules | `(tactic| fail "walk C1V1") => `(tactic| first
  | (with_reducible refine c1_listL (rd_ow rfl) ?_)
  | (with_reducible refine c1_lenS ?_)
  | (with_reducible refine c1_intB ?_)
  | (with_reducible refine c1_intI ?_)
  | (with_reducible refine c1_tupT ?_)
  | (with_reducible refine c1_tupL rd_dt ?_)
  | (with_reducible refine c1_tupL rd_fr ?_)
  | (with_reducible refine c1_listT ?_))
local macro_rules | `(tactic| fail "walk C1V2") => `(tactic| first
  | (with_reducible refine c1_listL rd_dt ?_)
  | (with_reducible refine c1_listL rd_fr ?_))
local macro_rules | `(tactic| fail "walk C1V") => `(tactic| first | fail "walk C1V0" | fail "walk C1V1" | fail "walk C1V2")
local macro_rules | `(tactic| fail "walk VI0") => `(tactic| first
  | (with_reducible refine vi_str ?_)
  | (with_reducible refine vi_list ?_)
  | (with_reducible refine vi_tup ?_)
  | (with_reducible refine vi_rng1 ?_)
  | (with_reducible refine vi_rng2 ?_)
  | (with_reducible refine vi_enum ?_)
  | (with_reducible refine vi_enumT ?_)
  | (with_reducible refine vi_zip ?_))
local macro_rules | `(tactic| fail "walk VI1") => `(tactic| first
  | (with_reducible refine vi_zipM ?_)
  | (with_reducible refine vi_zipT2 ?_)
  | (with_reducible refine vi_zipLT ?_))
local macro_rules | `(tactic| fail "walk VI") => `(tactic| first | fail "walk VI0" | fail "walk VI1")
local macro_rules | `(tactic| fail "walk VG") => `(tactic| first
  | (with_reducible refine vg_name ?_)
  | (with_reducible refine vg_pair ?_)
  | (with_reducible refine vg_three ?_)
  | (with_reducible refine vg_nest ?_))
local macro_rules | `(tactic| fail "walk AsB") => `(tactic| first
  | (with_reducible refine asb ?_))
local macro_rules | `(tactic| fail "walk C2V") => `(tactic| first
  | (with_reducible refine c2_max ?_)
  | (with_reducible refine c2_min ?_))
local macro_rules | `(tactic| fail "walk VO") => `(tactic| first
  | (with_reducible refine vo_none ?_)
  | (with_reducible refine vo_some ?_))
local macro_rules | `(tactic| fail "walk Fz") => `(tactic| first
  | (with_reducible refine fz_dt ?_)
  | (with_reducible refine fz_fr ?_)
  | ((with_reducible apply fz_br); exact rfl))
local macro_rules | `(tactic| fail "walk Az") => `(tactic| first
  | (with_reducible refine az_dt ?_)
  | (with_reducible refine az_fr ?_)
  | (with_reducible refine az_sc ?_)
  | ((with_reducible apply az_br); exact rfl))
local macro_rules | `(tactic| fail "walk Sto") => `(tactic| first
  | (with_reducible refine sto_dt ?_)
  | (with_reducible refine sto_ob ?_)
  | (with_reducible refine sto_fr ?_)
  | ((with_reducible apply sto_br); exact rfl))
local macro_rules | `(tactic| fail "walk VSt") => `(tactic| first
  | (with_reducible refine st_seqT ?_)
  | (with_reducible refine st_ret fun ss => ?_)
  | (with_reducible refine st_if fun ss => ?_)
  | (with_reducible refine st_of ?_))
local macro_rules | `(tactic| fail "walk gen0") => `(tactic| first
  | (with_reducible refine fl_fr ?_)
  | ((with_reducible apply fl_br); exact rfl)
  | (refine ⟨⟨_, rd_dt⟩, ?_⟩)
  | (refine ⟨⟨_, rd_ow rfl⟩, ?_⟩)
  | (refine ⟨_, _, rfl, kb_ss, ?_⟩)
  | (refine ⟨_, _, rfl, kb_bb, ?_⟩)
  | (with_reducible refine b2 (fun hb => ?_) (fun hb => ?_))
  | (refine ⟨_, _, rfl, kb_tt, ?_⟩))
local macro_rules | `(tactic| fail "walk gen1") => `(tactic| first
  | (refine ⟨_, _, rfl, kb_ii, ?_⟩)
  | (refine ⟨_, _, rfl, kb_ib, ?_⟩)
  | (refine ⟨_, _, rfl, kb_ll, ?_⟩)
  | (refine ⟨_, (rfl : dts _ = some _), gl_le (by simp), ?_⟩)
  | (refine ⟨_, (rfl : Tmp.dt (.int _) = Tmp.dt (.int _)), ?_⟩)
  | (refine ⟨_, (rfl : Tmp.dt (.tuple _) = Tmp.dt (.tuple _)), ?_⟩)
  | (refine ⟨_, (rfl : PyData.list _ = PyData.list _), ?_⟩)
  | (refine ⟨_, (rfl : PyData.tuple _ = PyData.tuple _), ?_⟩))
local macro_rules | `(tactic| fail "walk gen2") => `(tactic| first
  | (refine ⟨_, rd_fr, ?_⟩)
  | (refine ⟨_, rd_dt, ?_⟩)
  | (refine ⟨_, rd_ow rfl, ?_⟩)
  | (refine ⟨⟨_, rfl⟩, ?_⟩)
  | (refine ⟨⟨_, isl_ow rfl⟩, ?_⟩)
  | (refine ⟨⟨_, isl_ln rfl⟩, ?_⟩)
  | (refine ⟨(by intro k z; cases z), _, _, rfl, rfl, ?_⟩)
  | (dsimp only [DE.wn]))
local macro_rules | `(tactic| fail "walk gen3") => `(tactic| first
  | (exact absurd (by assumption) Bool.false_ne_true)
  | (exact absurd (by assumption) Bool.false_ne_true.symm))
local macro_rules | `(tactic| fail "walk gen") => `(tactic| first | fail "walk gen0" | fail "walk gen1" | fail "walk gen2" | fail "walk gen3")
local macro_rules | `(tactic| fail "walk small") => `(tactic| first | (guard_target =~ VI ..; fail "walk VI") | (guard_target =~ VG ..; fail "walk VG") | (guard_target =~ AsB ..; fail "walk AsB") | (guard_target =~ C2V ..; fail "walk C2V") | (guard_target =~ VO ..; fail "walk VO") | (guard_target =~ Fz ..; fail "walk Fz") | (guard_target =~ Az ..; fail "walk Az") | (guard_target =~ Sto ..; fail "walk Sto") | (guard_target =~ VSt ..; fail "walk VSt"))
local macro_rules | `(tactic| fail "walk") => `(tactic| first | (guard_target =~ VE ..; fail "walk VE") | (guard_target =~ VSs ..; fail "walk VSs") | (guard_target =~ VAX ..; fail "walk VAX") | (guard_target =~ VX ..; fail "walk VX") | (guard_target =~ VT ..; fail "walk VT") | (guard_target =~ VD ..; fail "walk VD") | (guard_target =~ R2V ..; fail "walk R2V") | (guard_target =~ C1V ..; fail "walk C1V") | fail "walk small" | fail "walk gen" | fail "no step")
local macro_rules | `(tactic| walk_at "v") => `(tactic| fail "walk")
local macro_rules | `(tactic| walk_at "s") => `(tactic| (try dsimp only [DE.wn, putC, Cell.put, List.getElem?_cons_zero, List.getElem?_cons_succ, cxOf, cells0, List.map, Arg.cell, Arg.tmp, List.length, List.replicate, List.append, List.cons_append, List.nil_append, List.set, Nat.reduceAdd, Nat.reduceSub, List.reduceReplicate, clr, List.set_cons_zero, List.set_cons_succ]))
local macro_rules | `(tactic| walk_at "w") => `(tactic| (repeat' fail "walk"))
section
variable {P : Program} {w : World} {K : PySem.W.Frag} {mg : Str → Option Value} {base : Heap}
theorem ok_is_whole {f : Addr} {fd : FuncData} (D : Df K mg "is_whole" s_is_whole ["thing"] f fd) (m_bool : mg "bool" = none) (m_int : mg "int" = none) (m_isinstance : mg "isinstance" = none) : Cal P w K mg base 1 "is_whole" ["thing"] (spF K (fun d : Int => [.dt (.int d)]) (fun _ => True) fun _ => .bool true) f fd := by
  refine D.cal (ok_G D.F sc_is_whole (fun _ => rfl) (by decide) fun cdv A outer s H E hr => ⟨_, (pss_one (ps_ret (pe_and (pe_callB call_isi (by rfl) m_isinstance (by decide +kernel) (pa_cons (pv 0) (pa_cons (pe_bltn (v := .ty "int") (by rfl) m_int (by decide +kernel) rfl) pa_nil))) (pe_one (pe_not (pe_callB call_isi (by rfl) m_isinstance (by decide +kernel) (pa_cons (pv 0) (pa_cons (pe_bltn (v := .ty "bool") (by rfl) m_bool (by decide +kernel) rfl) pa_nil)))))))), fun x hp => ?_⟩)
  walk_at "s"
  walk_at "w"
  rfl
theorem ok_is_whole_within {f : Addr} {fd : FuncData} (D : Df K mg "is_whole_within" s_is_whole_within ["thing", "least", "most"] f fd) {f_is_whole : Addr} {d_is_whole : FuncData} (C_is_whole : Cal P w K mg base 1 "is_whole" ["thing"] (spF K (fun d : Int => [.dt (.int d)]) (fun _ => True) fun _ => .bool true) f_is_whole d_is_whole) : Cal P w K mg base 2 "is_whole_within" ["thing", "least", "most"] (spF K (fun p : Int × Int × Int => [.dt (.int p.1), .dt (.int p.2.1), .dt (.int p.2.2)]) (fun _ => True) fun p => .bool (decide (p.2.1 ≤ p.1) && decide (p.1 ≤ p.2.2))) f fd := by
  refine D.cal (ok_G D.F sc_is_whole_within (fun _ => rfl) (by decide) fun cdv A outer s H E hr => ⟨_, (pss_one (ps_ret (pe_and (pe_call C_is_whole.G (hr.mono (by decide)) (by rfl) C_is_whole.g C_is_whole.kp C_is_whole.b .nil pass0 (pa_cons (pv 0) pa_nil)) (pe_one (pe_chain op_le op_le (pv 1) (pv 0) (pv 2)))))), fun x hp => ?_⟩)
  walk_at "s"
  walk_at "w"
  refine ⟨_, rfl, trivial, ?_⟩
  walk_at "w"
  · rename_i h
    rw [h]
    rfl
  · rename_i h
    rw [h]
    rfl
theorem ok__numbers_of {f : Addr} {fd : FuncData} (D : Df K mg "_numbers_of" s__numbers_of ["things"] f fd) : Cal P w K mg base 1 "_numbers_of" ["things"] (spF K (fun r : List (Option Int) => [.dt (.tuple (oL r))]) (fun r => r.length ≤ 100) fun r => .list (iL (nums r))) f fd := by
  refine D.cal (ok_G D.F sc__numbers_of (fun _ => rfl) (by decide) fun cdv A outer s H E hr => ⟨_, (pss_one (ps_ret (pe_lc (own := [("thing", 1)]) rfl sc__numbers_of.nd (pi_tup (pv 0)) (blkOk_by (own := [("thing", 1)]) (N := ["things", "thing"]) (sc := (defScope s__numbers_of)) (by decide +kernel)) (fun _ _ _ _ _ => (pg_name (i := 1) sc__numbers_of.nd rfl (by first | exact Or.inl rfl | exact Or.inr rfl))) (fun _ _ _ _ _ => (pts_one (pt_cmpR oi_notN (pv 1) pe_non (nomark _)))) (fun _ _ _ _ _ => (pv 1))))), fun x hp => ?_⟩)
  walk_at "s"
  walk_at "w"
  apply ve_lcT (vs := [1]) oD x _ _ (by walk_at "n")
  walk_at "w"
  refine ⟨rfl, by simp, gl_lt (by omega), fun a ha => ⟨_, tg_name (by decide), fun acc srcs => ?_⟩, ?_⟩
  · walk_at "s"
    walk_at "w"
    refine ⟨rfl, fun _ => ?_, fun _ => rfl⟩
    walk_at "w"
    exact ⟨rfl, rfl⟩
  · walk_at "w"
    show PyData.list _ = _
    rw [nums_eq]
theorem ok_is_row {f : Addr} {fd : FuncData} (D : Df K mg "is_row" s_is_row ["thing"] f fd) {f__numbers_of : Addr} {d__numbers_of : FuncData} (C__numbers_of : Cal P w K mg base 1 "_numbers_of" ["things"] (spF K (fun r : List (Option Int) => [.dt (.tuple (oL r))]) (fun r => r.length ≤ 100) fun r => .list (iL (nums r))) f__numbers_of d__numbers_of) {f_is_whole : Addr} {d_is_whole : FuncData} (C_is_whole : Cal P w K mg base 1 "is_whole" ["thing"] (spF K (fun d : Int => [.dt (.int d)]) (fun _ => True) fun _ => .bool true) f_is_whole d_is_whole) (m_all : mg "all" = none) (m_isinstance : mg "isinstance" = none) (m_len : mg "len" = none) (m_set : mg "set" = none) (m_tuple : mg "tuple" = none) (c_MOST_THINGS : GlobI K mg "MOST_THINGS" 24) : Cal P w K mg base 2 "is_row" ["thing"] (spF K (fun r : List (Option Int) => [.dt (.tuple (oL r))]) RowOk fun _ => .bool true) f fd := by
  refine D.cal (ok_G D.F sc_is_row (fun _ => rfl) (by decide) fun cdv A outer s H E hr => ⟨_, (pss_cons (ps_if (PW.pt (pw_or (pt_not (pt_val (pe_callB call_isi (by rfl) m_isinstance (by decide +kernel) (pa_cons (pv 0) (pa_cons (pe_bltn (v := .ty "tuple") (by rfl) m_tuple (by decide +kernel) rfl) pa_nil))))) (pw_or1 (pt_cmpR op_gt (pe_callB cl_len (by rfl) m_len PySem.boot_len (pa_cons (pv 0) pa_nil)) (pe_glob (v := .int (24)) (by rfl) c_MOST_THINGS.u.choose_spec ⟨_, rfl⟩) (nomark _))))) (pss_one (ps_ret pe_bl)) pss_nil)
      (pss_cons (ps_set (i := 1) sc_is_row.nd rfl (Or.inl rfl) (pe_call C__numbers_of.G (hr.mono (by decide)) (by rfl) C__numbers_of.g C__numbers_of.kp C__numbers_of.b .nil pass0 (pa_cons (pv 0) pa_nil)))
      (pss_cons (ps_if (pt_not (pt_val (pe_callB (cr_all rfl) (by rfl) m_all (by decide +kernel) (pa_cons (pe_lc (own := [("number", 2)]) rfl sc_is_row.nd (pi_list (pv 1)) (blkOk_by (own := [("number", 2)]) (N := ["thing", "numbers", "number"]) (sc := (defScope s_is_row)) (by decide +kernel)) (fun _ _ _ _ _ => (pg_name (i := 2) sc_is_row.nd rfl (by first | exact Or.inl rfl | exact Or.inr rfl))) (fun _ _ _ _ _ => pts_nil) (fun _ _ _ _ _ => (pe_call C_is_whole.G (hr.mono (by decide)) (by rfl) C_is_whole.g C_is_whole.kp C_is_whole.b .nil pass0 (pa_cons (pv 2) pa_nil)))) pa_nil)))) (pss_one (ps_ret pe_bl)) pss_nil)
      (pss_one (ps_ret (pe_cmpR (op_eqD hr.units) (RZ.pe_lenSetI (by rfl) m_len (by rfl) m_set (pv 1)) (pe_callB cl_len (by rfl) m_len PySem.boot_len (pa_cons (pv 1) pa_nil)) (nomark _))))))), fun x hp => ?_⟩)
  have l1 := nums_len x
  have l2 := hp.1
  walk_at "s"
  walk_at "w"
  · exact absurd (by assumption) (by simp; omega)
  refine ⟨_, rfl, by omega, ?_⟩
  walk_at "w"
  apply ve_lcT (vs := [2]) PyData.int (nums x) _ _ (by walk_at "n")
  walk_at "w"
  refine ⟨rfl, by simp, gl_lt (by omega), fun a ha => ⟨_, tg_name (by decide), fun acc srcs => ?_⟩, ?_⟩
  · walk_at "s"
    walk_at "w"
    refine ⟨rfl, fun _ => ?_, fun _ => rfl⟩
    walk_at "w"
    refine ⟨_, rfl, trivial, ?_⟩
    walk_at "w"
    exact ⟨rfl, rfl⟩
  walk_at "w"
  refine c1_allF ((nums x).map fun _ => true) (by rw [fil_true, List.map_map] <;> rfl) ?_
  rw [show ((nums x).map fun _ => true).all id = true by simp]
  walk_at "w"
  refine ⟨hp.2, by omega, ?_⟩
  walk_at "w"
  show PyData.bool _ = _
  rw [List.length_map]
  simp [PyData.eqv]
theorem ok_check_row {f : Addr} {fd : FuncData} (D : Df K mg "check_row" s_check_row ["row"] f fd) {f_is_row : Addr} {d_is_row : FuncData} (C_is_row : Cal P w K mg base 2 "is_row" ["thing"] (spF K (fun r : List (Option Int) => [.dt (.tuple (oL r))]) RowOk fun _ => .bool true) f_is_row d_is_row) : Cal P w K mg base 3 "check_row" ["row"] (spF K (fun r : List (Option Int) => [.dt (.tuple (oL r))]) RowOk fun _ => .none) f fd := by
  refine D.cal (ok_G D.F sc_check_row (fun _ => rfl) (by decide) fun cdv A outer s H E hr => ⟨_, (pss_one (ps_if (pt_not (pt_val (pe_call C_is_row.G (hr.mono (by decide)) (by rfl) C_is_row.g C_is_row.kp C_is_row.b .nil pass0 (pa_cons (pv 0) pa_nil)))) (pss_one ps_never) pss_nil)), fun x hp => ?_⟩)
  walk_at "s"
  walk_at "w"
  refine ⟨_, rfl, hp, ?_⟩
  walk_at "w"
theorem ok_stretches {f : Addr} {fd : FuncData} (D : Df K mg "stretches" s_stretches ["row"] f fd) {f_check_row : Addr} {d_check_row : FuncData} (C_check_row : Cal P w K mg base 3 "check_row" ["row"] (spF K (fun r : List (Option Int) => [.dt (.tuple (oL r))]) RowOk fun _ => .none) f_check_row d_check_row) : Cal P w K mg base 4 "stretches" ["row"] (spF K (fun r : List (Option Int) => [.dt (.tuple (oL r))]) RowOk fun r => .list (tL (lots r))) f fd := by
  refine D.cal (ok_G D.F sc_stretches (fun _ => rfl) (by decide) fun cdv A outer s H E hr => ⟨_, (pss_cons (ps_expr (pe_call C_check_row.G (hr.mono (by decide)) (by rfl) C_check_row.g C_check_row.kp C_check_row.b .nil pass0 (pa_cons (pv 0) pa_nil)))
      (pss_cons (ps_set (i := 1) sc_stretches.nd rfl (Or.inl rfl) (pe_lst (pa_cons (pe_tupF pa_nil) pa_nil)))
      (pss_cons (ps_for PassesOwn.never rfl (pi_tup (pv 0)) (pg_name (i := 2) sc_stretches.nd rfl (by first | exact Or.inl rfl | exact Or.inr rfl)) (pss_one (ps_if (pt_cmpR oi_isN (pv 2) pe_non (nomark _)) (pss_one (ps_expr (pe_bm PySem.F.plainAttrs_list PySem.F.slot_list_append PySem.F.type_list_append mt_append (pv 1) (pa_cons (pe_tupF pa_nil) pa_nil)))) (pss_one (ps_asg (pe_op op_catF (pe_ix ix_list (pv 1) (pe_un un_neg pe_int) (fun _ _ => rfl)) (pe_tupF (pa_cons (pv 2) pa_nil))) (pg_sub (pv 1) (pe_un un_neg pe_int) set_list))))))
      (pss_one (ps_ret (pv 1)))))), fun x hp => ?_⟩)
  walk_at "s"
  walk_at "w"
  refine ⟨_, rfl, hp, ?_⟩
  walk_at "w"
  refine ss_for (fun i Γ => ∃ c, Γ = [.dt (.tuple (oL x)), .ow (tL (lots (x.take i))), c]) fun ss => ?_
  walk_at "w"
  refine ⟨fun i d Γ2 hd ⟨c, ec⟩ => ?_, fun Γ2 ⟨c, ec⟩ => ?_⟩
  · subst ec
    obtain ⟨o, ho, rfl⟩ := oL_at hd
    rw [take_snoc ho, lots_snoc]
    have h0 := lots_ne (x.take i)
    have h1 := lots_len (x.take i)
    have h2 : (x.take i).length ≤ x.length := by simp [List.length_take]; omega
    have h3 := hp.1
    cases o with
    | none =>
      walk_at "w"
      refine ⟨_, _, rfl, isl_ow rfl, gl_lt (by simp [tL]; omega), ?_⟩
      walk_at "s"
      refine ⟨.dt .none, ?_⟩
      show _ = [_, Cell.ow (tL (_ ++ [[]])), _]
      simp only [tL, List.map_append, List.map_cons, List.map_nil]
      rfl
    | some n =>
      walk_at "w"
      refine r2_ixL (ds := tL (lots (x.take i))) (d := .tuple (iL ((lots (x.take i)).getD ((lots (x.take i)).length - 1) []))) ⟨[], .inr (.inl ⟨1, rfl, .inl rfl⟩)⟩ (tL_last h0) ?_
      walk_at "w"
      refine r2_catT (es := iL [n]) (gl_le ?_) ?_
      · have h4 := lots_mem (r := x.take i) (l := (lots (x.take i)).getD ((lots (x.take i)).length - 1) []) (by
          rw [List.getD_eq_getElem?_getD, List.getElem?_eq_getElem (by omega)]
          exact List.getElem_mem _)
        have h5 := nums_len (x.take i)
        rw [List.length_map]
        simp only [List.length_map, List.length_singleton]
        omega
      walk_at "w"
      refine ⟨_, _, _, _, rfl, rfl, isl_ow rfl, ixN_last (by simpa [tL] using h0), .dt (.int n), ?_⟩
      walk_at "s"
      show _ = [_, Cell.ow (tL (List.set _ _ _)), _]
      simp only [tL, List.map_set, List.map_append, List.length_map]
      rfl
  · subst ec
    walk_at "w"
    show PyData.list _ = _
    rw [List.length_map, List.take_length]
theorem ok__is_word {f : Addr} {fd : FuncData} (D : Df K mg "_is_word" s__is_word ["thing"] f fd) (m_isinstance : mg "isinstance" = none) (m_str : mg "str" = none) (c_HEAVY : GlobS K mg "HEAVY" "heavy") (c_LIGHT : GlobS K mg "LIGHT" "light") : Cal P w K mg base 1 "_is_word" ["thing"] (spF K (fun l : Bool => [.dt (.str (wd l))]) (fun _ => True) fun _ => .bool true) f fd := by
  refine D.cal (ok_G D.F sc__is_word (fun _ => rfl) (by decide) fun cdv A outer s H E hr => ⟨_, (pss_one (ps_ret (pe_and (pe_callB call_isi (by rfl) m_isinstance (by decide +kernel) (pa_cons (pv 0) (pa_cons (pe_bltn (v := .ty "str") (by rfl) m_str (by decide +kernel) rfl) pa_nil))) (pe_one (pe_cmpR op_in_seq (pv 0) (pe_tupF (pa_cons (pe_glob (v := .str "light") (by rfl) c_LIGHT.u.choose_spec ⟨_, rfl⟩) (pa_cons (pe_glob (v := .str "heavy") (by rfl) c_HEAVY.u.choose_spec ⟨_, rfl⟩) pa_nil))) (by rfl)))))), fun x hp => ?_⟩)
  walk_at "s"
  walk_at "w"
  refine r2_in rd_dt sq_t rfl rfl ?_
  walk_at "w"
  show PyData.bool _ = _
  congr 1
  cases x <;> decide +kernel
theorem ok__is_places {f : Addr} {fd : FuncData} (D : Df K mg "_is_places" s__is_places ["thing"] f fd) {f_is_whole_within : Addr} {d_is_whole_within : FuncData} (C_is_whole_within : Cal P w K mg base 2 "is_whole_within" ["thing", "least", "most"] (spF K (fun p : Int × Int × Int => [.dt (.int p.1), .dt (.int p.2.1), .dt (.int p.2.2)]) (fun _ => True) fun p => .bool (decide (p.2.1 ≤ p.1) && decide (p.1 ≤ p.2.2))) f_is_whole_within d_is_whole_within) (c_MOST_PLACES : GlobI K mg "MOST_PLACES" 9) : Cal P w K mg base 3 "_is_places" ["thing"] (spF K (fun n : Nat => [.dt (.int n)]) (fun n => n ≤ 9) fun _ => .bool true) f fd := by
  refine D.cal (ok_G D.F sc__is_places (fun _ => rfl) (by decide) fun cdv A outer s H E hr => ⟨_, (pss_one (ps_ret (pe_call C_is_whole_within.G (hr.mono (by decide)) (by rfl) C_is_whole_within.g C_is_whole_within.kp C_is_whole_within.b .nil pass0 (pa_cons (pv 0) (pa_cons pe_int (pa_cons (pe_glob (v := .int (9)) (by rfl) c_MOST_PLACES.u.choose_spec ⟨_, rfl⟩) pa_nil)))))), fun x hp => ?_⟩)
  walk_at "s"
  walk_at "w"
  refine ⟨(_, _, _), rfl, trivial, ?_⟩
  walk_at "w"
  show PyData.bool _ = _
  have h1 : (0 : Int) ≤ (x : Int) := by omega
  have h2 : (x : Int) ≤ 9 := by omega
  simp [h2]
theorem ok_is_shelf {f : Addr} {fd : FuncData} (D : Df K mg "is_shelf" s_is_shelf ["thing"] f fd) {f__is_places : Addr} {d__is_places : FuncData} (C__is_places : Cal P w K mg base 3 "_is_places" ["thing"] (spF K (fun n : Nat => [.dt (.int n)]) (fun n => n ≤ 9) fun _ => .bool true) f__is_places d__is_places) {f__is_word : Addr} {d__is_word : FuncData} (C__is_word : Cal P w K mg base 1 "_is_word" ["thing"] (spF K (fun l : Bool => [.dt (.str (wd l))]) (fun _ => True) fun _ => .bool true) f__is_word d__is_word) (m_isinstance : mg "isinstance" = none) (m_len : mg "len" = none) (m_tuple : mg "tuple" = none) : Cal P w K mg base 4 "is_shelf" ["thing"] (spF K (fun p : Bool × Nat => [.dt (.tuple [.str (wd p.1), .int p.2])]) (fun p => p.2 ≤ 9) fun _ => .bool true) f fd := by
  refine D.cal (ok_G D.F sc_is_shelf (fun _ => rfl) (by decide) fun cdv A outer s H E hr => ⟨_, (pss_cons (ps_if (PW.pt (pw_or (pt_not (pt_val (pe_callB call_isi (by rfl) m_isinstance (by decide +kernel) (pa_cons (pv 0) (pa_cons (pe_bltn (v := .ty "tuple") (by rfl) m_tuple (by decide +kernel) rfl) pa_nil))))) (pw_or1 (pt_cmpR (op_neD hr.units) (pe_callB cl_len (by rfl) m_len PySem.boot_len (pa_cons (pv 0) pa_nil)) pe_int (nomark _))))) (pss_one (ps_ret pe_bl)) pss_nil)
      (pss_one (ps_ret (pe_and (pe_call C__is_word.G (hr.mono (by decide)) (by rfl) C__is_word.g C__is_word.kp C__is_word.b .nil pass0 (pa_cons (pe_ix ix_tup (pv 0) pe_int (fun _ _ => rfl)) pa_nil)) (pe_one (pe_call C__is_places.G (hr.mono (by decide)) (by rfl) C__is_places.g C__is_places.kp C__is_places.b .nil pass0 (pa_cons (pe_ix ix_tup (pv 0) pe_int (fun _ _ => rfl)) pa_nil))))))), fun x hp => ?_⟩)
  walk_at "s"
  walk_at "w"
  refine r2_ixT (d := .str (wd x.1)) rfl ?_
  walk_at "w"
  refine ⟨x.1, rfl, trivial, ?_⟩
  walk_at "w"
  refine r2_ixT (d := .int x.2) rfl ?_
  walk_at "w"
  refine ⟨x.2, rfl, hp, ?_⟩
  walk_at "w"
theorem ok__check_shelf {f : Addr} {fd : FuncData} (D : Df K mg "_check_shelf" s__check_shelf ["shelf"] f fd) {f_is_shelf : Addr} {d_is_shelf : FuncData} (C_is_shelf : Cal P w K mg base 4 "is_shelf" ["thing"] (spF K (fun p : Bool × Nat => [.dt (.tuple [.str (wd p.1), .int p.2])]) (fun p => p.2 ≤ 9) fun _ => .bool true) f_is_shelf d_is_shelf) : Cal P w K mg base 5 "_check_shelf" ["shelf"] (spF K (fun p : Bool × Nat => [.dt (.tuple [.str (wd p.1), .int p.2])]) (fun p => p.2 ≤ 9) fun _ => .none) f fd := by
  refine D.cal (ok_G D.F sc__check_shelf (fun _ => rfl) (by decide) fun cdv A outer s H E hr => ⟨_, (pss_one (ps_if (pt_not (pt_val (pe_call C_is_shelf.G (hr.mono (by decide)) (by rfl) C_is_shelf.g C_is_shelf.kp C_is_shelf.b .nil pass0 (pa_cons (pv 0) pa_nil)))) (pss_one ps_never) pss_nil)), fun x hp => ?_⟩)
  walk_at "s"
  walk_at "w"
  refine ⟨x, rfl, hp, ?_⟩
  walk_at "w"
theorem ok_let_on {f : Addr} {fd : FuncData} (D : Df K mg "let_on" s_let_on ["standing", "word", "most"] f fd) (m_len : mg "len" = none) (m_max : mg "max" = none) (m_min : mg "min" = none) (c_LIGHT : GlobS K mg "LIGHT" "light") : Cal P w K mg base 1 "let_on" ["standing", "word", "most"] (spV K (fun p : Bool × Nat => [.dt (.str (wd p.1)), .dt (.int p.2)]) (fun p zs => ∃ T : List Int, zs = iL T ∧ T.length ≤ 100) fun p zs zs1 d => ∃ T G U : List Int, zs = iL T ∧ zs1 = iL U ∧ d = .list (iL G) ∧ tm p.1 G = (asc (tm p.1 T)).take (T.length - p.2) ∧ (tm p.1 U).Perm ((asc (tm p.1 T)).drop (T.length - p.2))) f fd := by
  refine D.cal (ok_V D.F sc_let_on (fun _ => rfl) (by decide) fun cdv A outer s H E hr => ⟨_, (pss_cons (ps_set (i := 3) sc_let_on.nd rfl (Or.inl rfl) (pe_lst pa_nil))
      (pss_cons (ps_while PassesOwn.never (pt_cmpR op_gt (pe_callB cl_len (by rfl) m_len PySem.boot_len (pa_cons (pv 0) pa_nil)) (pv 2) (nomark _)) (pss_cons (ps_set (i := 4) sc_let_on.nd rfl (Or.inl rfl) (pe_ifExp (pt_cmpR (op_eqD hr.units) (pv 1) (pe_glob (v := .str "light") (by rfl) c_LIGHT.u.choose_spec ⟨_, rfl⟩) (nomark _)) (pe_callB (cr_min rfl) (by rfl) m_min (by decide +kernel) (pa_cons (pv 0) pa_nil)) (pe_callB (cr_max rfl) (by rfl) m_max (by decide +kernel) (pa_cons (pv 0) pa_nil))))
      (pss_cons (ps_expr (pe_bm PySem.F.plainAttrs_list PySem.F.slot_list_remove PySem.F.type_list_remove mt_remove (pv 0) (pa_cons (pv 4) pa_nil)))
      (pss_one (ps_expr (pe_bm PySem.F.plainAttrs_list PySem.F.slot_list_append PySem.F.type_list_append mt_append (pv 3) (pa_cons (pv 4) pa_nil)))))))
      (pss_one (ps_ret (pv 3))))), fun x zs hp => ?_⟩)
  obtain ⟨l, n⟩ := x
  obtain ⟨T, rfl, hT⟩ := hp
  dsimp only
  walk_at "s"
  walk_at "w"
  walk_at "s"
  refine ss_while (fun m Γ => ∃ (G U : List Int) (c : Cell), Γ = [.ln (iL U), .dt (.str (wd l)), .dt (.int n), .ow (iL G), c] ∧ (G ++ U).Perm T ∧ (tm l G).Pairwise (· ≤ ·) ∧ (∀ g ∈ G, ∀ u ∈ U, sg l * g ≤ sg l * u) ∧ (n ≤ U.length ∨ G = []) ∧ m = U.length) T.length ⟨[], T, _, rfl, .refl _, .nil, by simp, .inr rfl, rfl⟩ fun m Γ1 ⟨G, U, c, eΓ, h1, h2, h3, h4, h5⟩ ss => ?_
  subst eΓ
  have hl := h1.length_eq
  rw [List.length_append] at hl
  walk_at "w"
  · have hlt := of_decide_eq_true ‹decide ((n : Int) < ((iL U).length : Int)) = true›
    rw [List.length_map] at hlt
    refine c1_min (rd_ln rfl) (by omega) fun one o1 o2 => ?_
    have o3 : ∀ y ∈ U, sg l * one ≤ sg l * y := fun y hy => by
      have := o2 y hy
      rw [‹l = true›]
      show 1 * one ≤ 1 * y
      omega
    walk_at "w"
    walk_at "s"
    walk_at "w"
    refine ⟨U, one, rfl, isl_ln rfl, o1, ?_⟩
    walk_at "s"
    walk_at "w"
    refine ⟨_, _, rfl, isl_ow rfl, gl_lt (by rw [List.length_map]; omega), ?_⟩
    walk_at "s"
    obtain ⟨s1, s2, s3, s4⟩ := let_step h1 h2 h3 o1 o3
    refine ⟨U.length - 1, by omega, G ++ [one], U.erase one, .dt (.int one), ?_, s1, s2, s3, .inl (by omega), by omega⟩
    simp only [iL, List.map_append, List.map_cons, List.map_nil]
  · have hlt := of_decide_eq_true ‹decide ((n : Int) < ((iL U).length : Int)) = true›
    rw [List.length_map] at hlt
    refine c1_max (rd_ln rfl) (by omega) fun one o1 o2 => ?_
    have o3 : ∀ y ∈ U, sg l * one ≤ sg l * y := fun y hy => by
      have := o2 y hy
      rw [‹l = false›]
      show -1 * one ≤ -1 * y
      omega
    walk_at "w"
    walk_at "s"
    walk_at "w"
    refine ⟨U, one, rfl, isl_ln rfl, o1, ?_⟩
    walk_at "s"
    walk_at "w"
    refine ⟨_, _, rfl, isl_ow rfl, gl_lt (by rw [List.length_map]; omega), ?_⟩
    walk_at "s"
    obtain ⟨s1, s2, s3, s4⟩ := let_step h1 h2 h3 o1 o3
    refine ⟨U.length - 1, by omega, G ++ [one], U.erase one, .dt (.int one), ?_, s1, s2, s3, .inl (by omega), by omega⟩
    simp only [iL, List.map_append, List.map_cons, List.map_nil]
  have hge := of_decide_eq_false ‹decide ((n : Int) < ((iL U).length : Int)) = false›
  rw [List.length_map] at hge
  obtain ⟨f1, f2⟩ := let_fin h1 h2 h3 (by omega) h4
  exact ⟨_, rfl, T, G, U, rfl, rfl, rfl, f1, f2⟩
theorem ok__let_past {f : Addr} {fd : FuncData} (D : Df K mg "_let_past" s__let_past ["numbers", "word", "places"] f fd) {f_let_on : Addr} {d_let_on : FuncData} (C_let_on : Cal P w K mg base 1 "let_on" ["standing", "word", "most"] (spV K (fun p : Bool × Nat => [.dt (.str (wd p.1)), .dt (.int p.2)]) (fun p zs => ∃ T : List Int, zs = iL T ∧ T.length ≤ 100) fun p zs zs1 d => ∃ T G U : List Int, zs = iL T ∧ zs1 = iL U ∧ d = .list (iL G) ∧ tm p.1 G = (asc (tm p.1 T)).take (T.length - p.2) ∧ (tm p.1 U).Perm ((asc (tm p.1 T)).drop (T.length - p.2))) f_let_on d_let_on) (m_zip : mg "zip" = none) : Cal P w K mg base 2 "_let_past" ["numbers", "word", "places"] (spF K (fun p : Bool × List Int × List Nat => [.dt (.tuple (iL p.2.1)), .dt (.str (wd p.1)), .dt (.list (iL (p.2.2.map Int.ofNat)))]) (fun p => p.2.1.length ≤ 50 ∧ p.2.2.length = p.2.1.length) fun p => .list (iL (tm p.1 (lp ((tm p.1 p.2.1).zip p.2.2) [])))) f fd := by
  refine D.cal (ok_G D.F sc__let_past (fun _ => rfl) (by decide) fun cdv A outer s H E hr => ⟨_, (pss_cons (ps_set (i := 3) sc__let_past.nd rfl (Or.inl rfl) (pe_lst pa_nil))
      (pss_cons (ps_set (i := 4) sc__let_past.nd rfl (Or.inl rfl) (pe_lst pa_nil))
      (pss_cons (ps_for PassesOwn.never rfl (pi_zipTL (by rfl) m_zip (pa_cons (pv 0) (pa_cons (pv 2) pa_nil))) (pg_tup (n := 2) rfl (pgs_cons (pg_name (i := 5) sc__let_past.nd rfl (by first | exact Or.inl rfl | exact Or.inr rfl)) (pgs_cons (pg_name (i := 6) sc__let_past.nd rfl (by first | exact Or.inl rfl | exact Or.inr rfl)) pgs_nil))) (pss_cons (ps_expr (pe_bm PySem.F.plainAttrs_list PySem.F.slot_list_append PySem.F.type_list_append mt_append (pv 3) (pa_cons (pv 5) pa_nil)))
      (pss_one (ps_expr (pe_bm PySem.F.plainAttrs_list PySem.F.slot_list_extend PySem.F.type_list_extend mt_extend (pv 4) (pa_cons (pe_call C_let_on.G (hr.mono (by decide)) (by rfl) C_let_on.g C_let_on.kp C_let_on.b .nil pass0 (pa_cons (pv 3) (pa_cons (pv 1) (pa_cons (pv 6) pa_nil)))) pa_nil))))))
      (pss_one (ps_ret (pe_op op_cat (pv 4) (pe_call C_let_on.G (hr.mono (by decide)) (by rfl) C_let_on.g C_let_on.kp C_let_on.b .nil pass0 (pa_cons (pv 3) (pa_cons (pv 1) (pa_cons pe_int pa_nil)))))))))), fun x hp => ?_⟩)
  obtain ⟨l, ns, rs⟩ := x
  obtain ⟨hl, hr2⟩ := hp
  dsimp only at hl hr2 ⊢
  generalize hL : (tm l ns).zip rs = L
  have hLl : L.length = ns.length := by rw [← hL, List.length_zip, tm_len]; omega
  walk_at "s"
  walk_at "w"
  walk_at "s"
  refine ss_for (fun i Γ => ∃ (U C : List Int) (a b : Cell), Γ = [.dt (.tuple (iL ns)), .dt (.str (wd l)), .dt (.list (iL (rs.map Int.ofNat))), .ow (iL U), .ow (iL C), a, b] ∧ lp L [] = tm l C ++ lp (L.drop i) (tm l U) ∧ C.length ≤ ns.length ∧ U.length ≤ i) fun ss => ?_
  walk_at "w"
  refine ⟨_, _, rfl, rfl, ⟨[], [], _, _, rfl, rfl, by simp, by simp⟩, fun i d Γ2 hd ⟨U, C, a, b, ec, h1, h2, h3⟩ => ?_, fun Γ2 ⟨U, C, a, b, ec, h1, h2, h3⟩ => ?_⟩
  · subst ec
    rw [zip_iLN, List.getElem?_map] at hd
    obtain ⟨q, hq, rfl⟩ := Option.map_eq_some_iff.mp hd
    rw [List.zip_eq_zipWith, List.getElem?_zipWith_eq_some] at hq
    obtain ⟨n, m, g1, g2, rfl⟩ := hq
    have hi := (List.getElem?_eq_some_iff.mp g1).1
    have hLi : L[i]? = some (sg l * n, m) := by
      rw [← hL, List.zip_eq_zipWith, List.getElem?_zipWith_eq_some]
      exact ⟨_, _, by rw [tm, List.getElem?_map, g1]; rfl, g2, rfl⟩
    walk_at "w"
    walk_at "s"
    walk_at "w"
    refine ⟨_, _, rfl, isl_ow rfl, gl_lt (by rw [List.length_map]; omega), ?_⟩
    rw [iL_one]
    walk_at "s"
    walk_at "w"
    refine ⟨(l, m), _, isl_ow rfl, rfl, ⟨U ++ [n], rfl, by simp; omega⟩, fun zs1 d ⟨T, G, U', k1, k2, k3, k4, k5⟩ => ?_⟩
    have e1 := iL_inj k1
    subst e1 k2 k3
    dsimp only at k4 k5
    have h4 := let_one hLi h1 k4 k5
    have h5 := congrArg List.length h4
    rw [lp_len, List.length_append, tm_len] at h5
    have h6 := k5.length_eq
    rw [tm_len, List.length_drop, asc_len, tm_len] at h6
    simp only [List.length_append, List.length_singleton, List.length_nil] at h5 h6
    walk_at "s"
    walk_at "w"
    refine ⟨_, _, rfl, isl_ow rfl, gl_le (by simp only [List.length_map]; omega), ?_⟩
    rw [iL_app]
    walk_at "s"
    exact ⟨U', C ++ G, _, _, rfl, h4, by rw [List.length_append]; omega, by omega⟩
  · subst ec
    have hz : (zipD (iL ns) (iL (rs.map Int.ofNat))).length = L.length := by
      rw [zipD_len]
      simp only [List.length_map]
      omega
    rw [hz] at h1 h3
    rw [List.drop_length] at h1
    walk_at "w"
    refine ⟨(l, 0), _, isl_ow rfl, rfl, ⟨U, rfl, by omega⟩, fun zs1 d ⟨T, G, U', k1, k2, k3, k4, k5⟩ => ?_⟩
    have e1 := iL_inj k1
    subst e1 k2 k3
    dsimp only at k4 k5
    have k6 : tm l G = asc (tm l U) := by
      rw [k4, List.take_of_length_le (by rw [asc_len, tm_len]; omega)]
    have k7 : lp L [] = tm l (C ++ G) := by
      rw [h1, tm_app, k6]
      rfl
    have h5 := congrArg List.length k7
    rw [lp_len, tm_len, List.length_append] at h5
    simp only [List.length_nil] at h5
    walk_at "s"
    refine r2_catR (rd_ow rfl) rd_dt (gl_le (by simp only [List.length_map]; omega)) ?_
    rw [iL_app]
    walk_at "w"
    show PyData.list _ = _
    rw [k7, tm_tm]
theorem ok_past {f : Addr} {fd : FuncData} (D : Df K mg "past" s_past ["row", "shelf"] f fd) {f__check_shelf : Addr} {d__check_shelf : FuncData} (C__check_shelf : Cal P w K mg base 5 "_check_shelf" ["shelf"] (spF K (fun p : Bool × Nat => [.dt (.tuple [.str (wd p.1), .int p.2])]) (fun p => p.2 ≤ 9) fun _ => .none) f__check_shelf d__check_shelf) {f__let_past : Addr} {d__let_past : FuncData} (C__let_past : Cal P w K mg base 2 "_let_past" ["numbers", "word", "places"] (spF K (fun p : Bool × List Int × List Nat => [.dt (.tuple (iL p.2.1)), .dt (.str (wd p.1)), .dt (.list (iL (p.2.2.map Int.ofNat)))]) (fun p => p.2.1.length ≤ 50 ∧ p.2.2.length = p.2.1.length) fun p => .list (iL (tm p.1 (lp ((tm p.1 p.2.1).zip p.2.2) [])))) f__let_past d__let_past) {f_check_row : Addr} {d_check_row : FuncData} (C_check_row : Cal P w K mg base 3 "check_row" ["row"] (spF K (fun r : List (Option Int) => [.dt (.tuple (oL r))]) RowOk fun _ => .none) f_check_row d_check_row) {f_stretches : Addr} {d_stretches : FuncData} (C_stretches : Cal P w K mg base 4 "stretches" ["row"] (spF K (fun r : List (Option Int) => [.dt (.tuple (oL r))]) RowOk fun r => .list (tL (lots r))) f_stretches d_stretches) (m_len : mg "len" = none) (m_tuple : mg "tuple" = none) : Cal P w K mg base 6 "past" ["row", "shelf"] (spF K (fun p : List (Option Int) × Bool × Nat => [.dt (.tuple (oL p.1)), .dt (.tuple [.str (wd p.2.1), .int p.2.2])]) (fun p => RowOk p.1 ∧ p.2.2 ≤ 9) fun p => .tuple (oL (pastR p.2.1 p.2.2 p.1))) f fd := by
  refine D.cal (ok_G D.F sc_past (fun _ => rfl) (by decide) fun cdv A outer s H E hr => ⟨_, (pss_cons (ps_expr (pe_call C_check_row.G (hr.mono (by decide)) (by rfl) C_check_row.g C_check_row.kp C_check_row.b .nil pass0 (pa_cons (pv 0) pa_nil)))
      (pss_cons (ps_expr (pe_call C__check_shelf.G (hr.mono (by decide)) (by rfl) C__check_shelf.g C__check_shelf.kp C__check_shelf.b .nil pass0 (pa_cons (pv 1) pa_nil)))
      (pss_cons (ps_asg (pv 1) (pg_tup (n := 2) rfl (pgs_cons (pg_name (i := 2) sc_past.nd rfl (by first | exact Or.inl rfl | exact Or.inr rfl)) (pgs_cons (pg_name (i := 3) sc_past.nd rfl (by first | exact Or.inl rfl | exact Or.inr rfl)) pgs_nil))))
      (pss_cons (ps_set (i := 4) sc_past.nd rfl (Or.inl rfl) (pe_lst pa_nil))
      (pss_cons (ps_for PassesOwn.never rfl (pi_list (pe_call C_stretches.G (hr.mono (by decide)) (by rfl) C_stretches.g C_stretches.kp C_stretches.b .nil pass0 (pa_cons (pv 0) pa_nil))) (pg_name (i := 5) sc_past.nd rfl (by first | exact Or.inl rfl | exact Or.inr rfl)) (pss_cons (ps_expr (pe_bm PySem.F.plainAttrs_list PySem.F.slot_list_extend PySem.F.type_list_extend mt_extend (pv 4) (pa_cons (pe_call C__let_past.G (hr.mono (by decide)) (by rfl) C__let_past.g C__let_past.kp C__let_past.b .nil pass0 (pa_cons (pv 5) (pa_cons (pv 2) (pa_cons (pe_op op_rep (pe_lst (pa_cons (pv 3) pa_nil)) (pe_callB cl_len (by rfl) m_len PySem.boot_len (pa_cons (pv 5) pa_nil))) pa_nil)))) pa_nil)))
      (pss_one (ps_expr (pe_bm PySem.F.plainAttrs_list PySem.F.slot_list_append PySem.F.type_list_append mt_append (pv 4) (pa_cons pe_non pa_nil))))))
      (pss_one (ps_ret (pe_callTy cl_tupleF (by rfl) m_tuple (by decide +kernel) (pa_cons (pe_slice sl_list (pv 4) po_none (po_some (pe_un un_neg pe_int))) pa_nil))))))))), fun x hp => ?_⟩)
  have l1 := nums_len x.1
  have l2 := hp.1.1
  have l3 := lots_len x.1
  obtain ⟨r, l, n⟩ := x
  dsimp only at hp l1 l2 l3
  walk_at "s"
  walk_at "w"
  refine ⟨r, rfl, hp.1, ?_⟩
  walk_at "w"
  refine ⟨(l, n), rfl, hp.2, ?_⟩
  walk_at "w"
  walk_at "s"
  refine ss_for (fun i Γ => ∃ c, Γ = [.dt (.tuple (oL r)), .dt (.tuple [.str (wd l), .int n]), .dt (.str (wd l)), .dt (.int n), .ow (oL (joinO (((lots r).take i).map (pastL l n)))), c]) fun ss => ?_
  walk_at "w"
  refine ⟨r, rfl, hp.1, ?_⟩
  walk_at "w"
  refine ⟨fun i d Γ2 hd ⟨c, ec⟩ => ?_, fun Γ2 ⟨c, ec⟩ => ?_⟩
  · subst ec
    obtain ⟨s0, hs, rfl⟩ := tL_at hd
    have h1 := lots_mem (List.mem_of_getElem? hs)
    have hj := joinO_len l n ((lots r).take i)
    have hj1 := flat_take_le (lots r) i
    rw [lots_flat] at hj1
    have hj2 : ((lots r).take i).length ≤ (lots r).length := by rw [List.length_take]; omega
    rw [take_snoc hs, List.map_append, List.map_singleton, joinO_snoc]
    walk_at "w"
    walk_at "s"
    walk_at "w"
    refine r2_rep (.inr rfl) (by omega) (by rw [List.length_map]; omega) (gl_le (by simp only [List.length_map, List.length_singleton]; omega)) ?_
    rw [Int.toNat_natCast, List.length_map, rep_iL]
    walk_at "w"
    refine ⟨(l, s0, List.replicate s0.length n), rfl, ⟨(by omega : s0.length ≤ 50), by simp⟩, ?_⟩
    dsimp only
    rw [show s0.length = (tm l s0).length from (tm_len l s0).symm, zip_rep]
    walk_at "w"
    have hpl := pastL_len l n s0
    rw [show tm l (lp ((tm l s0).map fun a => (a, n)) []) = pastL l n s0 from rfl]
    refine ⟨_, _, rfl, isl_ow rfl, gl_le (by simp only [List.length_map]; omega), ?_⟩
    rw [← oL_some (pastL l n s0), oL_app]
    walk_at "s"
    walk_at "w"
    refine ⟨_, _, rfl, isl_ow rfl, gl_lt (by simp only [List.length_map, List.length_append]; omega), ?_⟩
    walk_at "s"
    exact ⟨_, congrArg (fun z => [_, _, _, _, Cell.ow z, _]) (oL_app _ [none])⟩
  · subst ec
    walk_at "w"
    show PyData.tuple _ = _
    rw [cut_last, oL_dropLast, tL, List.length_map, List.take_length]
    rfl
theorem ok_moved {f : Addr} {fd : FuncData} (D : Df K mg "moved" s_moved ["row", "shelf"] f fd) {f_past : Addr} {d_past : FuncData} (C_past : Cal P w K mg base 6 "past" ["row", "shelf"] (spF K (fun p : List (Option Int) × Bool × Nat => [.dt (.tuple (oL p.1)), .dt (.tuple [.str (wd p.2.1), .int p.2.2])]) (fun p => RowOk p.1 ∧ p.2.2 ≤ 9) fun p => .tuple (oL (pastR p.2.1 p.2.2 p.1))) f_past d_past) (m_enumerate : mg "enumerate" = none) : Cal P w K mg base 7 "moved" ["row", "shelf"] (spF K (fun p : List (Option Int) × Bool × Nat => [.dt (.tuple (oL p.1)), .dt (.tuple [.str (wd p.2.1), .int p.2.2])]) (fun p => RowOk p.1 ∧ p.2.2 ≤ 9) fun p => .list (iL ((lots p.1).flatMap (mvS p.2.1 p.2.2)))) f fd := by
  refine D.cal (ok_G D.F sc_moved (fun _ => rfl) (by decide) fun cdv A outer s H E hr => ⟨_, (pss_cons (ps_set (i := 2) sc_moved.nd rfl (Or.inr rfl) (pe_call C_past.G (hr.mono (by decide)) (by rfl) C_past.g C_past.kp C_past.b .nil pass0 (pa_cons (pv 0) (pa_cons (pv 1) pa_nil))))
      (pss_one (ps_ret (pe_lc (own := [("place", 3), ("part", 4)]) rfl sc_moved.nd (pi_enumT (by rfl) m_enumerate (pa_cons (pv 0) pa_nil)) (blkOk_by (own := [("place", 3), ("part", 4)]) (N := ["row", "shelf", "came", "place", "part"]) (sc := (defScope s_moved)) (by decide +kernel)) (fun _ _ _ _ _ => (pg_tupK (K := K) (n := 2) rfl rfl (pgs_cons (pg_name (i := 3) sc_moved.nd rfl (by first | exact Or.inl rfl | exact Or.inr rfl)) (pgs_cons (pg_name (i := 4) sc_moved.nd rfl (by first | exact Or.inl rfl | exact Or.inr rfl)) pgs_nil)))) (fun _ _ _ _ _ => (pts_one (pt_cmpR oi_notN (pv 4) pe_non (nomark _)))) (fun _ _ _ _ _ => (pe_op op_sub (pe_tidxO (pv 2) (pv 4)) (pv 3))))))), fun x hp => ?_⟩)
  obtain ⟨r, l, n⟩ := x
  obtain ⟨h1, h2⟩ := hp
  dsimp only at h1 h2 ⊢
  have hl := h1.1
  walk_at "s"
  walk_at "w"
  refine ⟨(r, l, n), rfl, ⟨h1, h2⟩, ?_⟩
  walk_at "w"
  walk_at "s"
  apply ve_lcT (vs := [3, 4]) (fun p : Option Int × Nat => PyData.tuple [.int p.2, oD p.1]) r.zipIdx (fun p => !isNo (oD p.1)) (fun p => PyData.int ((ixO (pastR l n r) (p.1.getD 0) : Int) - (p.2 : Int))) (by walk_at "n")
  walk_at "w"
  refine ⟨enum_oL r, by simp, gl_lt (by simp; omega), fun a ha => ⟨_, tg_pair (by decide) (by decide), fun acc srcs => ?_⟩, ?_⟩
  · have hm := List.mem_zipIdx_iff_getElem?.mp ha
    obtain ⟨o, k⟩ := a
    have hmr := List.mem_of_getElem? hm
    dsimp only at hm hmr ⊢
    walk_at "s"
    walk_at "w"
    refine ⟨rfl, fun hb => ?_, fun _ => rfl⟩
    cases o with
    | none => simp [oD, isNo] at hb
    | some a =>
      rw [show oD (some a) = PyData.int a from rfl]
      walk_at "w"
      refine ⟨mem_nums.mp ((nums_pastR l n r).mem_iff.mpr (mem_nums.mpr hmr)), ?_⟩
      walk_at "w"
      exact ⟨rfl, rfl⟩
  walk_at "w"
  show PyData.list _ = _
  rw [moved_prog (fun x => (ixO (pastR l n r) x : Int)) r 0 h1.2, ← moved_row h1.2]
  congr 2
  refine List.map_congr_left fun x _ => ?_
  omega
theorem ok__law_cell_at {f : Addr} {fd : FuncData} (D : Df K mg "_law_cell_at" s__law_cell_at ["_law_script", "_law_k"] f fd) (m_len : mg "len" = none) (m_min : mg "min" = none) (m_range : mg "range" = none) : Cal P w K mg base 1 "_law_cell_at" ["_law_script", "_law_k"] (spG K (fun p : List Int × Nat => [.sc p.1, .dt (.int p.2)]) (fun p => p.1.length ≤ 63) fun _ d => ∃ i, d = .int i) f fd := by
  refine D.cal (ok_G D.F sc__law_cell_at (fun _ => rfl) (by decide) fun cdv A outer s H E hr => ⟨_, (pss_cons (ps_if (pt_cmpR op_lt (pv 1) (pe_callB cl_len (by rfl) m_len PySem.boot_len (pa_cons (pv 0) pa_nil)) (nomark _)) (pss_one (ps_ret (pe_ix ix_list (pv 0) (pv 1) (fun _ _ => rfl)))) pss_nil)
      (pss_cons (ps_if (pt_cmpR (op_eqD hr.units) (pv 0) (pe_lst pa_nil) (nomark _)) (pss_one (ps_ret pe_int)) pss_nil)
      (pss_cons (ps_set (i := 2) sc__law_cell_at.nd rfl (Or.inl rfl) (pe_ix ix_list (pv 0) (pe_op op_mod (pv 1) (pe_callB cl_len (by rfl) m_len PySem.boot_len (pa_cons (pv 0) pa_nil))) (fun _ _ => rfl)))
      (pss_cons (ps_for PassesOwn.never rfl (pi_range1 (by rfl) m_range (pa_cons (pe_callB (cl_min2 rfl) (by rfl) m_min (by decide +kernel) (pa_cons (pe_op op_fdiv (pv 1) (pe_callB cl_len (by rfl) m_len PySem.boot_len (pa_cons (pv 0) pa_nil))) (pa_cons pe_int pa_nil))) pa_nil)) (pg_name (i := 3) sc__law_cell_at.nd rfl (by first | exact Or.inl rfl | exact Or.inr rfl)) (pss_one (ps_set (i := 2) sc__law_cell_at.nd rfl (Or.inl rfl) (pe_op op_fdiv (pv 2) pe_int))))
      (pss_one (ps_ret (pe_op op_add (pe_op op_add (pe_op op_mul (pe_ix ix_list (pv 0) (pe_op op_mod (pv 1) (pe_callB cl_len (by rfl) m_len PySem.boot_len (pa_cons (pv 0) pa_nil))) (fun _ _ => rfl)) pe_int) (pv 1)) (pe_op op_mul (pv 2) pe_int)))))))), fun x hp => ?_⟩)
  obtain ⟨ns, k⟩ := x
  dsimp only at hp
  walk_at "s"
  walk_at "w"
  · have h := of_decide_eq_true ‹decide ((k : Int) < (ns.length : Int)) = true›
    obtain ⟨x, hx, _⟩ := atI_in (xs := ns) (i := (k : Int)) (by omega) h
    refine r2_ixS hx ?_
    walk_at "w"
    exact ⟨_, rfl⟩
  refine r2_eqSL (ys := []) rd_fr ?_
  walk_at "w"
  · exact ⟨_, rfl⟩
  have hl : 0 < ns.length := List.length_pos_iff.mpr (of_decide_eq_false ‹decide (ns = []) = false›)
  have hm : ∃ x, atI ns ((k : Int) % (ns.length : Int)) = some x ∧ x ∈ ns := atI_in (Int.emod_nonneg _ (by omega)) (Int.emod_lt_of_pos _ (by omega))
  obtain ⟨y, hy, _⟩ := hm
  walk_at "w"
  refine r2_ixS hy ?_
  walk_at "w"
  refine ss_for (fun i Γ => ∃ a c, Γ = [.sc ns, .dt (.int k), .dt (.int a), c]) fun ss => ?_
  walk_at "w"
  have hq : 0 ≤ (k : Int) / (ns.length : Int) := Int.ediv_nonneg (by omega) (by omega)
  refine ⟨by omega, by omega, ⟨_, _, rfl⟩, fun i d Γ2 hd ⟨a, c, ec⟩ => ?_, fun Γ2 ⟨a, c, ec⟩ => ?_⟩
  · subst ec
    have hi : i < (rngD 0 (min ((k : Int) / (ns.length : Int)) 60)).length := (List.getElem?_eq_some_iff.mp hd).1
    rw [rngD_len] at hi
    rw [rngD_at hi] at hd
    cases hd
    walk_at "w"
    walk_at "s"
    exact ⟨_, _, rfl⟩
  · subst ec
    walk_at "w"
    refine r2_ixS hy ?_
    walk_at "w"
    exact ⟨_, rfl⟩
theorem ok__law_mixed {f : Addr} {fd : FuncData} (D : Df K mg "_law_mixed" s__law_mixed ["_law_script", "_law_k", "_law_bound"] f fd) {f__law_cell_at : Addr} {d__law_cell_at : FuncData} (C__law_cell_at : Cal P w K mg base 1 "_law_cell_at" ["_law_script", "_law_k"] (spG K (fun p : List Int × Nat => [.sc p.1, .dt (.int p.2)]) (fun p => p.1.length ≤ 63) fun _ d => ∃ i, d = .int i) f__law_cell_at d__law_cell_at) : Cal P w K mg base 2 "_law_mixed" ["_law_script", "_law_k", "_law_bound"] (spG K (fun p : List Int × Nat × Nat => [.sc p.1, .dt (.int p.2.1), .dt (.int p.2.2)]) (fun p => p.1.length ≤ 63 ∧ 0 < p.2.2) fun p d => ∃ i : Nat, d = .int i ∧ i < p.2.2) f fd := by
  refine D.cal (ok_G D.F sc__law_mixed (fun _ => rfl) (by decide) fun cdv A outer s H E hr => ⟨_, (pss_cons (ps_set (i := 3) sc__law_mixed.nd rfl (Or.inl rfl) (pe_op op_mod (pe_op op_add (pe_op op_add (pe_op op_mul (pe_call C__law_cell_at.G (hr.mono (by decide)) (by rfl) C__law_cell_at.g C__law_cell_at.kp C__law_cell_at.b .nil pass0 (pa_cons (pv 0) (pa_cons (pv 1) pa_nil))) pe_int) (pe_op op_mul pe_int (pv 1))) pe_int) pe_int))
      (pss_one (ps_ret (pe_op op_mod (pe_op op_mod (pe_op op_mod (pe_op op_pow (pv 3) pe_int) pe_int) pe_int) (pv 2))))), fun x hp => ?_⟩)
  obtain ⟨ns, k, b⟩ := x
  dsimp only at hp
  have hb := hp.2
  walk_at "s"
  walk_at "w"
  refine ⟨(ns, k), rfl, hp.1, fun d ⟨i, e⟩ => ?_⟩
  subst e
  walk_at "w"
  
  have h1 := Int.emod_nonneg (((i * 1103515245 + 7919 * (k : Int) + 12345) % 2147483647) ^ (5 : Int).toNat % 2147483647 % 999983) (show (b : Int) ≠ 0 by omega)
  have h2 := Int.emod_lt_of_pos (((i * 1103515245 + 7919 * (k : Int) + 12345) % 2147483647) ^ (5 : Int).toNat % 2147483647 % 999983) (show (0 : Int) < b by omega)
  obtain ⟨n, hn⟩ := Int.eq_ofNat_of_zero_le h1
  exact ⟨n, by rw [← hn], by omega⟩
theorem ok__law_draw {f : Addr} {fd : FuncData} (D : Df K mg "_law_draw" s__law_draw ["_law_script", "_law_town", "_law_bound"] f fd) {f__law_mixed : Addr} {d__law_mixed : FuncData} (C__law_mixed : Cal P w K mg base 2 "_law_mixed" ["_law_script", "_law_k", "_law_bound"] (spG K (fun p : List Int × Nat × Nat => [.sc p.1, .dt (.int p.2.1), .dt (.int p.2.2)]) (fun p => p.1.length ≤ 63 ∧ 0 < p.2.2) fun p d => ∃ i : Nat, d = .int i ∧ i < p.2.2) f__law_mixed d__law_mixed) (m_len : mg "len" = none) : Cal P w K mg base 3 "_law_draw" ["_law_script", "_law_town", "_law_bound"] (spW K (fun p : List Int × Nat => (.sc p.1, [.dt (.int p.2)])) (fun p zs => p.1.length ≤ 63 ∧ 0 < p.2 ∧ zs.length ≤ 50000) fun p zs zs1 d => zs1.length = zs.length + 1 ∧ ∃ i : Nat, d = .int i ∧ i < p.2) f fd := by
  refine D.cal (ok_W D.F sc__law_draw (fun _ => rfl) (by decide) fun cdv A outer s H E hr => ⟨_, (pss_cons (ps_expr (pe_bm PySem.F.plainAttrs_list PySem.F.slot_list_append PySem.F.type_list_append mt_append (pv 1) (pa_cons pe_int pa_nil)))
      (pss_one (ps_ret (pe_call C__law_mixed.G (hr.mono (by decide)) (by rfl) C__law_mixed.g C__law_mixed.kp C__law_mixed.b .nil pass0 (pa_cons (pv 0) (pa_cons (pe_callB cl_len (by rfl) m_len PySem.boot_len (pa_cons (pv 1) pa_nil)) (pa_cons (pv 2) pa_nil))))))), fun x zs hp => ?_⟩)
  obtain ⟨ns, b⟩ := x
  dsimp only at hp
  walk_at "s"
  walk_at "w"
  refine ⟨_, _, rfl, isl_ln rfl, gl_lt (by omega), ?_⟩
  walk_at "s"
  walk_at "w"
  refine ⟨(ns, (zs ++ [PyData.int 0]).length, b), rfl, ⟨hp.1, hp.2.1⟩, fun d h => ?_⟩
  walk_at "w"
  exact ⟨_, rfl, by simp, h⟩
theorem ok__law_pick {f : Addr} {fd : FuncData} (D : Df K mg "_law_pick" s__law_pick ["_law_script", "_law_town", "_law_some"] f fd) {f__law_draw : Addr} {d__law_draw : FuncData} (C__law_draw : Cal P w K mg base 3 "_law_draw" ["_law_script", "_law_town", "_law_bound"] (spW K (fun p : List Int × Nat => (.sc p.1, [.dt (.int p.2)])) (fun p zs => p.1.length ≤ 63 ∧ 0 < p.2 ∧ zs.length ≤ 50000) fun p zs zs1 d => zs1.length = zs.length + 1 ∧ ∃ i : Nat, d = .int i ∧ i < p.2) f__law_draw d__law_draw) (m_len : mg "len" = none) : Cal P w K mg base 4 "_law_pick" ["_law_script", "_law_town", "_law_some"] (spW K (fun p : List Int × List Dat => (.sc p.1, [.dt (.list p.2)])) (fun p zs => p.1.length ≤ 63 ∧ 0 < p.2.length ∧ p.2.length ≤ 100 ∧ zs.length ≤ 50000) fun p zs zs1 d => zs1.length = zs.length + 1 ∧ d ∈ p.2) f fd := by
  refine D.cal (ok_W D.F sc__law_pick (fun _ => rfl) (by decide) fun cdv A outer s H E hr => ⟨_, (pss_one (ps_ret (pe_ix ix_list (pv 2) (pe_call C__law_draw.G (hr.mono (by decide)) (by rfl) C__law_draw.g C__law_draw.kp C__law_draw.b .nil pass0 (pa_cons (pv 0) (pa_cons (pv 1) (pa_cons (pe_callB cl_len (by rfl) m_len PySem.boot_len (pa_cons (pv 2) pa_nil)) pa_nil)))) (fun _ _ => rfl)))), fun x zs hp => ?_⟩)
  obtain ⟨ns, xs⟩ := x
  dsimp only at hp
  walk_at "s"
  walk_at "w"
  refine ⟨(ns, xs.length), zs, isl_ln rfl, by simp, ⟨hp.1, hp.2.1, hp.2.2.2⟩, fun zs1 d ⟨h1, n, h2, h3⟩ => ?_⟩
  subst h2
  walk_at "s"
  obtain ⟨x, hx, hm⟩ := atI_in (xs := xs) (i := (n : Int)) (by omega) (by dsimp only at h3; omega)
  refine r2_ixL ⟨_, .inl ⟨rfl, rfl⟩⟩ hx ?_
  walk_at "w"
  exact ⟨_, rfl, h1, hm⟩
theorem ok__law_some_plain {f : Addr} {fd : FuncData} (D : Df K mg "_law_some_plain" s__law_some_plain ["_law_script", "_law_town", "_law_most_there"] f fd) {f__law_draw : Addr} {d__law_draw : FuncData} (C__law_draw : Cal P w K mg base 3 "_law_draw" ["_law_script", "_law_town", "_law_bound"] (spW K (fun p : List Int × Nat => (.sc p.1, [.dt (.int p.2)])) (fun p zs => p.1.length ≤ 63 ∧ 0 < p.2 ∧ zs.length ≤ 50000) fun p zs zs1 d => zs1.length = zs.length + 1 ∧ ∃ i : Nat, d = .int i ∧ i < p.2) f__law_draw d__law_draw) {f__law_pick : Addr} {d__law_pick : FuncData} (C__law_pick : Cal P w K mg base 4 "_law_pick" ["_law_script", "_law_town", "_law_some"] (spW K (fun p : List Int × List Dat => (.sc p.1, [.dt (.list p.2)])) (fun p zs => p.1.length ≤ 63 ∧ 0 < p.2.length ∧ p.2.length ≤ 100 ∧ zs.length ≤ 50000) fun p zs zs1 d => zs1.length = zs.length + 1 ∧ d ∈ p.2) f__law_pick d__law_pick) (m_len : mg "len" = none) (m_min : mg "min" = none) (m_range : mg "range" = none) (m_tuple : mg "tuple" = none) : Cal P w K mg base 5 "_law_some_plain" ["_law_script", "_law_town", "_law_most_there"] (spW K (fun p : List Int × Nat => (.sc p.1, [.dt (.int p.2)])) (fun p zs => p.1.length ≤ 63 ∧ p.2 ≤ 40 ∧ zs.length ≤ 20000) fun p zs zs1 d => zs1.length ≤ zs.length + 200 ∧ ∃ ns : List Int, d = .tuple (iL ns) ∧ ns.Nodup ∧ ns.length ≤ p.2) f fd := by
  refine D.cal (ok_W D.F sc__law_some_plain (fun _ => rfl) (by decide) fun cdv A outer s H E hr => ⟨_, (pss_cons (ps_par3 (i := 3) (j := 4) (l := 5) rfl sc__law_some_plain.nd rfl rfl rfl (by decide) (by decide) (by decide) rfl rfl rfl (pa_cons (pe_call C__law_draw.G (hr.mono (by decide)) (by rfl) C__law_draw.g C__law_draw.kp C__law_draw.b .nil pass0 (pa_cons (pv 0) (pa_cons (pv 1) (pa_cons (pe_op op_add (pv 2) pe_int) pa_nil)))) (pa_cons (pe_lst pa_nil) (pa_cons (pe_op op_sub (pe_call C__law_draw.G (hr.mono (by decide)) (by rfl) C__law_draw.g C__law_draw.kp C__law_draw.b .nil pass0 (pa_cons (pv 0) (pa_cons (pv 1) (pa_cons pe_int pa_nil)))) pe_int) pa_nil))) (by rfl))
      (pss_cons (ps_for PassesOwn.never rfl (pi_range1 (by rfl) m_range (pa_cons (pv 3) pa_nil)) (pg_name (i := 6) sc__law_some_plain.nd rfl (by first | exact Or.inl rfl | exact Or.inr rfl)) (pss_cons (ps_set (i := 5) sc__law_some_plain.nd rfl (Or.inl rfl) (pe_op op_add (pe_op op_add (pv 5) pe_int) (pe_call C__law_draw.G (hr.mono (by decide)) (by rfl) C__law_draw.g C__law_draw.kp C__law_draw.b .nil pass0 (pa_cons (pv 0) (pa_cons (pv 1) (pa_cons pe_int pa_nil))))))
      (pss_cons (ps_set (i := 7) sc__law_some_plain.nd rfl (Or.inl rfl) (pe_call C__law_pick.G (hr.mono (by decide)) (by rfl) C__law_pick.g C__law_pick.kp C__law_pick.b .nil pass0 (pa_cons (pv 0) (pa_cons (pv 1) (pa_cons (pe_lst (pa_cons pe_int (pa_cons pe_int (pa_cons pe_int pa_nil)))) pa_nil)))))
      (pss_one (ps_expr (pe_bm PySem.F.plainAttrs_list PySem.F.slot_list_insert PySem.F.type_list_insert cm_insert (pv 4) (pa_cons (pe_op op_sub (pe_callB cl_len (by rfl) m_len PySem.boot_len (pa_cons (pv 4) pa_nil)) (pe_call C__law_draw.G (hr.mono (by decide)) (by rfl) C__law_draw.g C__law_draw.kp C__law_draw.b .nil pass0 (pa_cons (pv 0) (pa_cons (pv 1) (pa_cons (pe_callB (cl_min2 rfl) (by rfl) m_min (by decide +kernel) (pa_cons (pe_op op_add (pe_callB cl_len (by rfl) m_len PySem.boot_len (pa_cons (pv 4) pa_nil)) pe_int) (pa_cons (pv 7) pa_nil))) pa_nil))))) (pa_cons (pv 5) pa_nil))))))))
      (pss_one (ps_ret (pe_callTy cl_tupleF (by rfl) m_tuple (by decide +kernel) (pa_cons (pv 4) pa_nil)))))), fun x zs hp => ?_⟩)
  obtain ⟨ns, b⟩ := x
  dsimp only at hp
  walk_at "s"
  walk_at "w"
  refine ⟨(ns, b + 1), zs, isl_ln rfl, rfl, ⟨hp.1, by omega, by omega⟩, fun zs1 d ⟨h1, m, h2, h3⟩ => ?_⟩
  subst h2
  walk_at "s"
  walk_at "w"
  refine ⟨(ns, 21), zs1, isl_ln rfl, rfl, ⟨hp.1, by omega, by omega⟩, fun zs2 d ⟨h4, n, h5, h6⟩ => ?_⟩
  subst h5
  walk_at "s"
  walk_at "w"
  refine ⟨_, _, _, rfl, rfl, rfl, ?_⟩
  walk_at "s"
  walk_at "w"
  dsimp only at h3
  refine ss_for (fun i Γ => ∃ (zs3 : List Dat) (made : List Int) (u : Int) (e f : Cell), Γ = [.sc ns, .ln zs3, .dt (.int b), .dt (.int m), .ow (iL made), .dt (.int u), e, f] ∧ made.length = i ∧ made.Nodup ∧ (∀ x ∈ made, x ≤ u) ∧ zs3.length = zs.length + 2 + 3 * i) fun ss => ?_
  walk_at "w"
  refine ⟨by omega, by omega, ⟨zs2, [], _, _, _, rfl, rfl, List.nodup_nil, by simp, by omega⟩, fun i d Γ2 hd ⟨zs3, made, u, e, f, ec, g1, g2, g3, g4⟩ => ?_, fun Γ2 ⟨zs3, made, u, e, f, ec, g1, g2, g3, g4⟩ => ?_⟩
  · subst ec
    obtain ⟨hi, rfl⟩ := rng0 hd
    walk_at "w"
    walk_at "s"
    walk_at "w"
    refine ⟨(ns, 3), zs3, isl_ln rfl, rfl, ⟨hp.1, by omega, by omega⟩, fun zs4 d ⟨k1, r, k2, k3⟩ => ?_⟩
    subst k2
    walk_at "s"
    walk_at "w"
    walk_at "s"
    walk_at "w"
    refine ⟨(ns, iL [2, 4, 24]), zs4, isl_ln rfl, rfl, ⟨hp.1, by simp, by simp, by omega⟩, fun zs5 d ⟨k4, k6⟩ => ?_⟩
    obtain ⟨far, k5, rfl⟩ := List.mem_map.mp k6
    walk_at "s"
    walk_at "w"
    walk_at "s"
    walk_at "w"
    have hf : 2 ≤ far ∧ far ≤ 24 := by
      simp only [List.mem_cons, List.not_mem_nil, or_false] at k5
      omega
    refine ⟨(ns, (min ((made.length : Int) + 1) far).toNat), zs5, isl_ln rfl, ?_, ⟨hp.1, by dsimp only; omega, by omega⟩, fun zs6 d ⟨k7, q, k8, k9⟩ => ?_⟩
    · dsimp only
      rw [Int.toNat_of_nonneg (by omega), List.length_map]
    subst k8
    walk_at "w"
    dsimp only at k9
    have hl : ((iL made).length : Int) - (q : Int) = ((made.length - q : Nat) : Int) := by rw [List.length_map]; omega
    refine ⟨_, _, _, rfl, rfl, isl_ow rfl, gl_lt (by rw [List.length_map]; omega), by omega, by omega, ?_⟩
    rw [hl, Int.toNat_natCast, iL_ins]
    refine ⟨zs6, insA made (made.length - q) (u + 1 + r), u + 1 + r, _, _, rfl, by rw [insA_len]; omega, ?_, fun y hy => ?_, by omega⟩
    · refine (insA_perm _ _ _).nodup_iff.mpr (List.nodup_cons.mpr ⟨fun z => ?_, g2⟩)
      have := g3 _ z
      omega
    · rcases List.mem_cons.mp ((insA_perm _ _ _).mem_iff.mp hy) with rfl | hy
      · exact Int.le_refl _
      · have := g3 _ hy
        omega
  · subst ec
    rw [rng0_len] at g1 g4
    walk_at "w"
    exact ⟨_, rfl, by omega, made, rfl, g2, by omega⟩
theorem ok__law_some_row {f : Addr} {fd : FuncData} (D : Df K mg "_law_some_row" s__law_some_row ["_law_script", "_law_town", "_law_most_there"] f fd) {f__law_draw : Addr} {d__law_draw : FuncData} (C__law_draw : Cal P w K mg base 3 "_law_draw" ["_law_script", "_law_town", "_law_bound"] (spW K (fun p : List Int × Nat => (.sc p.1, [.dt (.int p.2)])) (fun p zs => p.1.length ≤ 63 ∧ 0 < p.2 ∧ zs.length ≤ 50000) fun p zs zs1 d => zs1.length = zs.length + 1 ∧ ∃ i : Nat, d = .int i ∧ i < p.2) f__law_draw d__law_draw) {f__law_some_plain : Addr} {d__law_some_plain : FuncData} (C__law_some_plain : Cal P w K mg base 5 "_law_some_plain" ["_law_script", "_law_town", "_law_most_there"] (spW K (fun p : List Int × Nat => (.sc p.1, [.dt (.int p.2)])) (fun p zs => p.1.length ≤ 63 ∧ p.2 ≤ 40 ∧ zs.length ≤ 20000) fun p zs zs1 d => zs1.length ≤ zs.length + 200 ∧ ∃ ns : List Int, d = .tuple (iL ns) ∧ ns.Nodup ∧ ns.length ≤ p.2) f__law_some_plain d__law_some_plain) (m_len : mg "len" = none) (m_list : mg "list" = none) (m_range : mg "range" = none) (m_tuple : mg "tuple" = none) : Cal P w K mg base 6 "_law_some_row" ["_law_script", "_law_town", "_law_most_there"] (spW K (fun p : List Int × Nat => (.sc p.1, [.dt (.int p.2)])) (fun p zs => p.1.length ≤ 63 ∧ p.2 ≤ 40 ∧ zs.length ≤ 20000) fun p zs zs1 d => zs1.length ≤ zs.length + 300 ∧ ∃ r : List (Option Int), d = .tuple (oL r) ∧ (nums r).Nodup ∧ r.length ≤ p.2 + 3) f fd := by
  refine D.cal (ok_W D.F sc__law_some_row (fun _ => rfl) (by decide) fun cdv A outer s H E hr => ⟨_, (pss_cons (ps_set (i := 3) sc__law_some_row.nd rfl (Or.inl rfl) (pe_callTy cl_list (by rfl) m_list (by decide +kernel) (pa_cons (pe_call C__law_some_plain.G (hr.mono (by decide)) (by rfl) C__law_some_plain.g C__law_some_plain.kp C__law_some_plain.b .nil pass0 (pa_cons (pv 0) (pa_cons (pv 1) (pa_cons (pv 2) pa_nil)))) pa_nil)))
      (pss_cons (ps_for PassesOwn.never rfl (pi_range1 (by rfl) m_range (pa_cons (pe_call C__law_draw.G (hr.mono (by decide)) (by rfl) C__law_draw.g C__law_draw.kp C__law_draw.b .nil pass0 (pa_cons (pv 0) (pa_cons (pv 1) (pa_cons pe_int pa_nil)))) pa_nil)) (pg_name (i := 4) sc__law_some_row.nd rfl (by first | exact Or.inl rfl | exact Or.inr rfl)) (pss_one (ps_expr (pe_bm PySem.F.plainAttrs_list PySem.F.slot_list_insert PySem.F.type_list_insert cm_insert (pv 3) (pa_cons (pe_call C__law_draw.G (hr.mono (by decide)) (by rfl) C__law_draw.g C__law_draw.kp C__law_draw.b .nil pass0 (pa_cons (pv 0) (pa_cons (pv 1) (pa_cons (pe_op op_add (pe_callB cl_len (by rfl) m_len PySem.boot_len (pa_cons (pv 3) pa_nil)) pe_int) pa_nil)))) (pa_cons pe_non pa_nil))))))
      (pss_one (ps_ret (pe_callTy cl_tupleF (by rfl) m_tuple (by decide +kernel) (pa_cons (pv 3) pa_nil)))))), fun x zs hp => ?_⟩)
  obtain ⟨ns, b⟩ := x
  dsimp only at hp
  walk_at "s"
  walk_at "w"
  refine ⟨(ns, b), zs, isl_ln rfl, rfl, hp, fun zs1 d ⟨h1, xs, h2, h3, h4⟩ => ?_⟩
  subst h2
  walk_at "s"
  walk_at "w"
  walk_at "s"
  dsimp only at h4
  refine ss_for (fun i Γ => ∃ (zs3 : List Dat) (made : List (Option Int)) (e : Cell), Γ = [.sc ns, .ln zs3, .dt (.int b), .ow (oL made), e] ∧ made.length = xs.length + i ∧ nums made = xs ∧ zs3.length = zs1.length + 1 + i) fun ss => ?_
  walk_at "w"
  refine ⟨(ns, 4), zs1, isl_ln rfl, rfl, ⟨hp.1, by omega, by omega⟩, fun zs2 d ⟨h5, m, h6, h7⟩ => ?_⟩
  subst h6
  walk_at "s"
  walk_at "w"
  dsimp only at h7
  refine ⟨by omega, by omega, ⟨zs2, xs.map some, _, by rw [oL_some], by simp, nums_some _, by omega⟩, fun i d Γ2 hd ⟨zs3, made, e, ec, g1, g2, g3⟩ => ?_, fun Γ2 ⟨zs3, made, e, ec, g1, g2, g3⟩ => ?_⟩
  · subst ec
    obtain ⟨hi, rfl⟩ := rng0 hd
    walk_at "w"
    walk_at "s"
    walk_at "w"
    refine ⟨(ns, made.length + 1), zs3, isl_ln rfl, by simp, ⟨hp.1, by dsimp only; omega, by omega⟩, fun zs4 d ⟨k1, q, k2, k3⟩ => ?_⟩
    subst k2
    walk_at "w"
    dsimp only at k3
    refine ⟨_, _, _, rfl, rfl, isl_ow rfl, gl_lt (by rw [List.length_map]; omega), by omega, by omega, ?_⟩
    rw [Int.toNat_natCast, show PyData.none = oD none from rfl, oL_ins]
    exact ⟨zs4, insA made q none, _, rfl, by rw [insA_len]; omega, by rw [nums_ins]; exact g2, by omega⟩
  · subst ec
    rw [rng0_len] at g1 g3
    walk_at "w"
    exact ⟨_, rfl, by omega, made, rfl, by rw [g2]; exact h3, by omega⟩
theorem ok__law_some_shelf {f : Addr} {fd : FuncData} (D : Df K mg "_law_some_shelf" s__law_some_shelf ["_law_script", "_law_town"] f fd) {f__law_draw : Addr} {d__law_draw : FuncData} (C__law_draw : Cal P w K mg base 3 "_law_draw" ["_law_script", "_law_town", "_law_bound"] (spW K (fun p : List Int × Nat => (.sc p.1, [.dt (.int p.2)])) (fun p zs => p.1.length ≤ 63 ∧ 0 < p.2 ∧ zs.length ≤ 50000) fun p zs zs1 d => zs1.length = zs.length + 1 ∧ ∃ i : Nat, d = .int i ∧ i < p.2) f__law_draw d__law_draw) {f__law_pick : Addr} {d__law_pick : FuncData} (C__law_pick : Cal P w K mg base 4 "_law_pick" ["_law_script", "_law_town", "_law_some"] (spW K (fun p : List Int × List Dat => (.sc p.1, [.dt (.list p.2)])) (fun p zs => p.1.length ≤ 63 ∧ 0 < p.2.length ∧ p.2.length ≤ 100 ∧ zs.length ≤ 50000) fun p zs zs1 d => zs1.length = zs.length + 1 ∧ d ∈ p.2) f__law_pick d__law_pick) : Cal P w K mg base 5 "_law_some_shelf" ["_law_script", "_law_town"] (spW K (fun ns : List Int => (.sc ns, [])) (fun ns zs => ns.length ≤ 63 ∧ zs.length ≤ 20000) fun _ zs zs1 d => zs1.length = zs.length + 2 ∧ ∃ (l : Bool) (n : Nat), d = .tuple [.str (wd l), .int n] ∧ n < 5) f fd := by
  refine D.cal (ok_W D.F sc__law_some_shelf (fun _ => rfl) (by decide) fun cdv A outer s H E hr => ⟨_, (pss_one (ps_ret (pe_tupF (pa_cons (pe_call C__law_pick.G (hr.mono (by decide)) (by rfl) C__law_pick.g C__law_pick.kp C__law_pick.b .nil pass0 (pa_cons (pv 0) (pa_cons (pv 1) (pa_cons (pe_lst (pa_cons pe_str (pa_cons pe_str (pa_cons pe_str pa_nil)))) pa_nil)))) (pa_cons (pe_call C__law_draw.G (hr.mono (by decide)) (by rfl) C__law_draw.g C__law_draw.kp C__law_draw.b .nil pass0 (pa_cons (pv 0) (pa_cons (pv 1) (pa_cons pe_int pa_nil)))) pa_nil))))), fun x zs hp => ?_⟩)
  walk_at "s"
  walk_at "w"
  refine ⟨(x, [.str "light", .str "light", .str "heavy"]), zs, isl_ln rfl, rfl, ⟨hp.1, by simp, by simp, by omega⟩, fun zs1 d ⟨h1, h2⟩ => ?_⟩
  obtain ⟨l, rfl⟩ : ∃ l, d = .str (wd l) := by
    simp only [List.mem_cons, List.not_mem_nil, or_false] at h2
    rcases h2 with h2 | h2 | h2
    · exact ⟨true, h2⟩
    · exact ⟨true, h2⟩
    · exact ⟨false, h2⟩
  walk_at "s"
  walk_at "w"
  refine ⟨(x, 5), zs1, isl_ln rfl, rfl, ⟨hp.1, by simp, by omega⟩, fun zs2 d ⟨h3, n, h4, h5⟩ => ?_⟩
  subst h4
  walk_at "s"
  walk_at "w"
  exact ⟨_, rfl, by omega, l, n, rfl, h5⟩
theorem ok__law_numbers {f : Addr} {fd : FuncData} (D : Df K mg "_law_numbers" s__law_numbers ["_law_row"] f fd) : Cal P w K mg base 1 "_law_numbers" ["_law_row"] (spF K (fun r : List (Option Int) => [.dt (.tuple (oL r))]) (fun r => r.length ≤ 100) fun r => .list (iL (nums r))) f fd := by
  refine D.cal (ok_G D.F sc__law_numbers (fun _ => rfl) (by decide) fun cdv A outer s H E hr => ⟨_, (pss_one (ps_ret (pe_lc (own := [("_law_one", 1)]) rfl sc__law_numbers.nd (pi_tup (pv 0)) (blkOk_by (own := [("_law_one", 1)]) (N := ["_law_row", "_law_one"]) (sc := (defScope s__law_numbers)) (by decide +kernel)) (fun _ _ _ _ _ => (pg_name (i := 1) sc__law_numbers.nd rfl (by first | exact Or.inl rfl | exact Or.inr rfl))) (fun _ _ _ _ _ => (pts_one (pt_cmpR oi_notN (pv 1) pe_non (nomark _)))) (fun _ _ _ _ _ => (pv 1))))), fun x hp => ?_⟩)
  walk_at "s"
  walk_at "w"
  apply ve_lcT (vs := [1]) oD x _ _ (by walk_at "n")
  walk_at "w"
  refine ⟨rfl, by simp, gl_lt (by omega), fun a ha => ⟨_, tg_name (by decide), fun acc srcs => ?_⟩, ?_⟩
  · walk_at "s"
    walk_at "w"
    refine ⟨rfl, fun _ => ?_, fun _ => rfl⟩
    walk_at "w"
    exact ⟨rfl, rfl⟩
  · walk_at "w"
    show PyData.list _ = _
    rw [nums_eq]
theorem ok__law_greater {f : Addr} {fd : FuncData} (D : Df K mg "_law_greater" s__law_greater ["_law_numbers_here"] f fd) (m_int : mg "int" = none) (m_len : mg "len" = none) (m_range : mg "range" = none) (m_sum : mg "sum" = none) : Cal P w K mg base 1 "_law_greater" ["_law_numbers_here"] (spF K (fun r : List Int => [.dt (.list (iL r))]) (fun r => r.length ≤ 100) fun r => .list (iL (gr r))) f fd := by
  refine D.cal (ok_G D.F sc__law_greater (fun _ => rfl) (by decide) fun cdv A outer s H E hr => ⟨_, (pss_cons (ps_set (i := 1) sc__law_greater.nd rfl (Or.inl rfl) (pe_lst pa_nil))
      (pss_cons (ps_for PassesOwn.never rfl (pi_range1 (by rfl) m_range (pa_cons (pe_callB cl_len (by rfl) m_len PySem.boot_len (pa_cons (pv 0) pa_nil)) pa_nil)) (pg_name (i := 2) sc__law_greater.nd rfl (by first | exact Or.inl rfl | exact Or.inr rfl)) (pss_one (ps_expr (pe_bm PySem.F.plainAttrs_list PySem.F.slot_list_append PySem.F.type_list_append mt_append (pv 1) (pa_cons (pe_callB (cr_sum rfl) (by rfl) m_sum (by decide +kernel) (pa_cons (pe_lc (own := [("_law_one", 3)]) rfl sc__law_greater.nd (pi_list (pe_slice sl_list (pv 0) po_none (po_some (pv 2)))) (blkOk_by (own := [("_law_one", 3)]) (N := ["_law_numbers_here", "_law_made", "_law_at", "_law_one"]) (sc := (defScope s__law_greater)) (by decide +kernel)) (fun _ _ _ _ _ => (pg_name (i := 3) sc__law_greater.nd rfl (by first | exact Or.inl rfl | exact Or.inr rfl))) (fun _ _ _ _ _ => pts_nil) (fun _ _ _ _ _ => (pe_callTy cl_int (by rfl) m_int (by decide +kernel) (pa_cons (pe_cmpR op_gt (pv 3) (pe_ix (ix_listK (K := K) rfl) (pv 0) (pv 2) (fun _ _ => rfl)) (nomark _)) pa_nil)))) pa_nil)) pa_nil)))))
      (pss_one (ps_ret (pv 1))))), fun x hp => ?_⟩)
  walk_at "s"
  walk_at "w"
  walk_at "s"
  refine ss_for (fun i Γ => ∃ e, Γ = [.dt (.list (iL x)), .ow (iL (gr (x.take i))), e, .no]) fun ss => ?_
  walk_at "w"
  refine ⟨by omega, by rw [List.length_map]; omega, ⟨.no, rfl⟩, fun i d Γ2 hd ⟨e, ec⟩ => ?_, fun Γ2 ⟨e, ec⟩ => ?_⟩
  · subst ec
    obtain ⟨hi, rfl⟩ := rng0 hd
    rw [List.length_map] at hi
    walk_at "w"
    walk_at "s"
    walk_at "w"
    have e0 : x[i]? = some x[i] := List.getElem?_eq_getElem hi
    apply ve_lcT (vs := [3]) PyData.int (x.take i) _ _ (by walk_at "n")
    walk_at "w"
    refine ⟨(cut_to _ _).trans (iL_take _ _), by simp, gl_lt (by simp; omega), fun b hb => ⟨_, tg_name (by decide), fun acc srcs => ?_⟩, ?_⟩
    · walk_at "s"
      walk_at "w"
      refine ⟨rfl, fun _ => ?_, fun _ => rfl⟩
      walk_at "w"
      refine r2_ixL ⟨_, .inl ⟨rfl, rfl⟩⟩ (atI_nat (x := .int x[i]) (by rw [List.getElem?_map, e0]; rfl)) ?_
      walk_at "w"
      exact ⟨rfl, rfl⟩
    · walk_at "w"
      rw [fil_true]
      refine c1_sumF ((x.take i).map fun o => if decide (o > x[i]) = true then (1 : Int) else 0) (by rw [List.map_map]; rfl) ?_
      rw [sum_ite]
      walk_at "w"
      refine ⟨_, _, rfl, isl_ow rfl, gl_lt (by rw [List.length_map, gr_len, List.length_take]; omega), ?_⟩
      walk_at "s"
      refine ⟨_, congrArg (fun z => [_, Cell.ow z, _, _]) ?_⟩
      rw [take_snoc e0, gr_snoc]
      simp only [iL, List.map_append, List.map_cons, List.map_nil]
  · subst ec
    walk_at "w"
    show PyData.list _ = _
    rw [rng0_len, List.length_map, List.take_length]
theorem ok__law_lots {f : Addr} {fd : FuncData} (D : Df K mg "_law_lots" s__law_lots ["_law_row"] f fd) : Cal P w K mg base 1 "_law_lots" ["_law_row"] (spF K (fun r : List (Option Int) => [.dt (.tuple (oL r))]) (fun r => r.length ≤ 100) fun r => .list (lL (lots r))) f fd := by
  refine D.cal (ok_G D.F sc__law_lots (fun _ => rfl) (by decide) fun cdv A outer s H E hr => ⟨_, (pss_cons (ps_set (i := 1) sc__law_lots.nd rfl (Or.inl rfl) (pe_lst (pa_cons (pe_lst pa_nil) pa_nil)))
      (pss_cons (ps_for PassesOwn.never rfl (pi_tup (pv 0)) (pg_name (i := 2) sc__law_lots.nd rfl (by first | exact Or.inl rfl | exact Or.inr rfl)) (pss_one (ps_if (pt_cmpR oi_isN (pv 2) pe_non (nomark _)) (pss_one (ps_expr (pe_bm PySem.F.plainAttrs_list PySem.F.slot_list_append PySem.F.type_list_append mt_append (pv 1) (pa_cons (pe_lst pa_nil) pa_nil)))) (pss_one (ps_expr (pe_bm PySem.F.plainAttrs_list PySem.F.slot_list_append PySem.F.type_list_append mt_append (pe_ix ix_list (pv 1) (pe_un un_neg pe_int) (fun _ _ => rfl)) (pa_cons (pv 2) pa_nil)))))))
      (pss_one (ps_ret (pv 1))))), fun x hp => ?_⟩)
  exact lots_ss x hp
theorem ok__law_lowered {f : Addr} {fd : FuncData} (D : Df K mg "_law_lowered" s__law_lowered ["_law_numbers_here", "_law_room"] f fd) {f__law_greater : Addr} {d__law_greater : FuncData} (C__law_greater : Cal P w K mg base 1 "_law_greater" ["_law_numbers_here"] (spF K (fun r : List Int => [.dt (.list (iL r))]) (fun r => r.length ≤ 100) fun r => .list (iL (gr r))) f__law_greater d__law_greater) (m_max : mg "max" = none) (m_sorted : mg "sorted" = none) : Cal P w K mg base 2 "_law_lowered" ["_law_numbers_here", "_law_room"] (spF K (fun p : List Int × Nat => [.dt (.list (iL p.1)), .dt (.int p.2)]) (fun p => p.1.length ≤ 50 ∧ p.1.Nodup) fun p => .list (iL (lp (p.1.map fun a => (a, p.2)) []))) f fd := by
  refine D.cal (ok_G D.F sc__law_lowered (fun _ => rfl) (by decide) fun cdv A outer s H E hr => ⟨_, (pss_cons (ps_par (i := 2) (j := 3) rfl sc__law_lowered.nd rfl rfl (by decide) rfl rfl (pa_cons (pe_call C__law_greater.G (hr.mono (by decide)) (by rfl) C__law_greater.g C__law_greater.kp C__law_greater.b .nil pass0 (pa_cons (pv 0) pa_nil)) (pa_cons (pe_lst pa_nil) pa_nil)) (by rfl))
      (pss_cons (ps_for PassesOwn.never rfl (pi_list (pe_revL (pe_callB L2.cr_sortedI (by rfl) m_sorted (by decide +kernel) (pa_cons (pv 0) pa_nil)))) (pg_name (i := 4) sc__law_lowered.nd rfl (by first | exact Or.inl rfl | exact Or.inr rfl)) (pss_one (ps_expr (pe_bm PySem.F.plainAttrs_list PySem.F.slot_list_insert PySem.F.type_list_insert cm_insert (pv 3) (pa_cons (pe_callB (cl_max2 rfl) (by rfl) m_max (by decide +kernel) (pa_cons pe_int (pa_cons (pe_op op_sub (pe_ix ix_list (pv 2) (pe_bm PySem.F.plainAttrs_list PySem.F.slot_list_index PySem.F.type_list_index mt_index (pv 0) (pa_cons (pv 4) pa_nil)) (fun _ _ => rfl)) (pv 1)) pa_nil))) (pa_cons (pv 4) pa_nil))))))
      (pss_one (ps_ret (pv 3))))), fun x hp => ?_⟩)
  obtain ⟨N, n⟩ := x
  dsimp only at hp ⊢
  obtain ⟨q1, q2⟩ := low_eq hp.2 n
  have hd := (dsc_perm N).length_eq
  have hm : ∀ a, a ∈ dsc N → a ∈ N := fun a ha => (dsc_perm N).mem_iff.mp ha
  generalize hT : (dsc N).map (fun x => max 0 ((gc N x : Int) - n)) = T at *
  rw [← q1]
  walk_at "s"
  walk_at "w"
  refine ⟨N, rfl, by omega, ?_⟩
  walk_at "w"
  walk_at "s"
  refine ss_for (fun i Γ => ∃ c, Γ = [.dt (.list (iL N)), .dt (.int n), .dt (.list (iL (gr N))), .ow (iL (rowF ((dsc N).take i) (T.take i))), c]) fun ss => ?_
  walk_at "w"
  refine c1_sorted rd_dt fun ns1 p1 p2 => ?_
  rw [eq_asc p1 p2]
  walk_at "w"
  rw [← List.map_reverse, asc_rev]
  refine ⟨fun i d Γ2 hd1 ⟨c, ec⟩ => ?_, fun Γ2 ⟨c, ec⟩ => ?_⟩
  · subst ec
    obtain ⟨x, hx, rfl⟩ := iL_at hd1
    have hxN := hm x (List.mem_of_getElem? hx)
    have hT2 : T[i]? = some (max 0 ((gc N x : Int) - n)) := by
      rw [← hT, List.getElem?_map, hx]
      rfl
    have hb := q2.2 i _ hT2
    have hi := (List.getElem?_eq_some_iff.mp hx).1
    rw [rowF_snoc hx hT2]
    walk_at "w"
    walk_at "s"
    walk_at "w"
    refine ⟨N, x, rfl, rfl, hxN, ?_⟩
    refine r2_ixL ⟨_, .inl ⟨rfl, rfl⟩⟩ (atI_nat (x := .int (gc N x)) (by rw [List.getElem?_map, gr_idx hxN]; rfl)) ?_
    walk_at "w"
    refine ⟨_, _, _, rfl, rfl, isl_ow rfl, gl_lt (by rw [List.length_map, rowF_len, List.length_take]; omega), hb.1, by omega, ?_⟩
    walk_at "s"
    refine ⟨_, congrArg (fun z => [_, _, _, Cell.ow z, _]) ?_⟩
    simp only [insF, iL, List.map_append, List.map_take, List.map_drop, List.map_cons, List.map_nil]
  · subst ec
    walk_at "w"
    have l5 := q2.1
    show PyData.list _ = _
    rw [List.length_map, List.take_of_length_le (by omega), List.take_of_length_le (by omega)]
theorem ok__law_far {f : Addr} {fd : FuncData} (D : Df K mg "_law_far" s__law_far ["_law_own", "_law_less", "_law_number", "_law_room"] f fd) {f__law_lowered : Addr} {d__law_lowered : FuncData} (C__law_lowered : Cal P w K mg base 2 "_law_lowered" ["_law_numbers_here", "_law_room"] (spF K (fun p : List Int × Nat => [.dt (.list (iL p.1)), .dt (.int p.2)]) (fun p => p.1.length ≤ 50 ∧ p.1.Nodup) fun p => .list (iL (lp (p.1.map fun a => (a, p.2)) []))) f__law_lowered d__law_lowered) : Cal P w K mg base 3 "_law_far" ["_law_own", "_law_less", "_law_number", "_law_room"] (spF K (fun p : List Int × Int × Int × Nat => [.dt (.list (iL p.1)), .dt (.int p.2.1), .dt (.int p.2.2.1), .dt (.int p.2.2.2)]) (fun p => p.1.length ≤ 50 ∧ p.1.Nodup ∧ p.2.1 ∈ p.1 ∧ p.2.2.1 ∈ p.1) fun p => .bool (decide ((pastL true p.2.2.2 p.1).idxOf p.2.1 < (pastL true p.2.2.2 p.1).idxOf p.2.2.1))) f fd := by
  refine D.cal (ok_G D.F sc__law_far (fun _ => rfl) (by decide) fun cdv A outer s H E hr => ⟨_, (pss_cons (ps_set (i := 4) sc__law_far.nd rfl (Or.inl rfl) (pe_call C__law_lowered.G (hr.mono (by decide)) (by rfl) C__law_lowered.g C__law_lowered.kp C__law_lowered.b .nil pass0 (pa_cons (pv 0) (pa_cons (pv 3) pa_nil))))
      (pss_one (ps_ret (pe_cmpR op_lt (pe_bm PySem.F.plainAttrs_list PySem.F.slot_list_index PySem.F.type_list_index mt_index (pv 4) (pa_cons (pv 1) pa_nil)) (pe_bm PySem.F.plainAttrs_list PySem.F.slot_list_index PySem.F.type_list_index mt_index (pv 4) (pa_cons (pv 2) pa_nil)) (nomark _))))), fun x hp => ?_⟩)
  obtain ⟨N, y, z, n⟩ := x
  obtain ⟨h1, h2, h3, h4⟩ := hp
  dsimp only at h1 h2 h3 h4 ⊢
  have hp := pastL_perm true n N
  walk_at "s"
  walk_at "w"
  refine ⟨(N, n), rfl, ⟨h1, h2⟩, ?_⟩
  dsimp only
  rw [lp_past]
  walk_at "w"
  walk_at "s"
  walk_at "w"
  refine ⟨_, y, rfl, rfl, hp.mem_iff.mpr h3, ?_⟩
  walk_at "w"
  refine ⟨_, z, rfl, rfl, hp.mem_iff.mpr h4, ?_⟩
  walk_at "w"
  show PyData.bool _ = _
  congr 1
  exact decide_eq_decide.mpr (by omega)
theorem ok_law {f : Addr} {fd : FuncData} (D : Df K mg "law" s_law ["_law_script"] f fd) {f__law_far : Addr} {d__law_far : FuncData} (C__law_far : Cal P w K mg base 3 "_law_far" ["_law_own", "_law_less", "_law_number", "_law_room"] (spF K (fun p : List Int × Int × Int × Nat => [.dt (.list (iL p.1)), .dt (.int p.2.1), .dt (.int p.2.2.1), .dt (.int p.2.2.2)]) (fun p => p.1.length ≤ 50 ∧ p.1.Nodup ∧ p.2.1 ∈ p.1 ∧ p.2.2.1 ∈ p.1) fun p => .bool (decide ((pastL true p.2.2.2 p.1).idxOf p.2.1 < (pastL true p.2.2.2 p.1).idxOf p.2.2.1))) f__law_far d__law_far) {f__law_greater : Addr} {d__law_greater : FuncData} (C__law_greater : Cal P w K mg base 1 "_law_greater" ["_law_numbers_here"] (spF K (fun r : List Int => [.dt (.list (iL r))]) (fun r => r.length ≤ 100) fun r => .list (iL (gr r))) f__law_greater d__law_greater) {f__law_lots : Addr} {d__law_lots : FuncData} (C__law_lots : Cal P w K mg base 1 "_law_lots" ["_law_row"] (spF K (fun r : List (Option Int) => [.dt (.tuple (oL r))]) (fun r => r.length ≤ 100) fun r => .list (lL (lots r))) f__law_lots d__law_lots) {f__law_numbers : Addr} {d__law_numbers : FuncData} (C__law_numbers : Cal P w K mg base 1 "_law_numbers" ["_law_row"] (spF K (fun r : List (Option Int) => [.dt (.tuple (oL r))]) (fun r => r.length ≤ 100) fun r => .list (iL (nums r))) f__law_numbers d__law_numbers) {f__law_some_row : Addr} {d__law_some_row : FuncData} (C__law_some_row : Cal P w K mg base 6 "_law_some_row" ["_law_script", "_law_town", "_law_most_there"] (spW K (fun p : List Int × Nat => (.sc p.1, [.dt (.int p.2)])) (fun p zs => p.1.length ≤ 63 ∧ p.2 ≤ 40 ∧ zs.length ≤ 20000) fun p zs zs1 d => zs1.length ≤ zs.length + 300 ∧ ∃ r : List (Option Int), d = .tuple (oL r) ∧ (nums r).Nodup ∧ r.length ≤ p.2 + 3) f__law_some_row d__law_some_row) {f__law_some_shelf : Addr} {d__law_some_shelf : FuncData} (C__law_some_shelf : Cal P w K mg base 5 "_law_some_shelf" ["_law_script", "_law_town"] (spW K (fun ns : List Int => (.sc ns, [])) (fun ns zs => ns.length ≤ 63 ∧ zs.length ≤ 20000) fun _ zs zs1 d => zs1.length = zs.length + 2 ∧ ∃ (l : Bool) (n : Nat), d = .tuple [.str (wd l), .int n] ∧ n < 5) f__law_some_shelf d__law_some_shelf) {f_moved : Addr} {d_moved : FuncData} (C_moved : Cal P w K mg base 7 "moved" ["row", "shelf"] (spF K (fun p : List (Option Int) × Bool × Nat => [.dt (.tuple (oL p.1)), .dt (.tuple [.str (wd p.2.1), .int p.2.2])]) (fun p => RowOk p.1 ∧ p.2.2 ≤ 9) fun p => .list (iL ((lots p.1).flatMap (mvS p.2.1 p.2.2)))) f_moved d_moved) {f_past : Addr} {d_past : FuncData} (C_past : Cal P w K mg base 6 "past" ["row", "shelf"] (spF K (fun p : List (Option Int) × Bool × Nat => [.dt (.tuple (oL p.1)), .dt (.tuple [.str (wd p.2.1), .int p.2.2])]) (fun p => RowOk p.1 ∧ p.2.2 ≤ 9) fun p => .tuple (oL (pastR p.2.1 p.2.2 p.1))) f_past d_past) (m_enumerate : mg "enumerate" = none) (m_len : mg "len" = none) (m_min : mg "min" = none) (m_sum : mg "sum" = none) : Cal P w K mg base 8 "law" ["_law_script"] (spF K (fun ns : List Int => [.sc ns]) (fun ns => ns.length ≤ 63) fun _ => .bool true) f fd := by
  refine D.cal (ok_G D.F sc_law (fun _ => rfl) (by decide) fun cdv A outer s H E hr => ⟨_, (pss_cons (ps_set (i := 1) sc_law.nd rfl (Or.inl rfl) (pe_lst pa_nil))
      (pss_cons (ps_asg (pe_tupF (pa_cons (pe_call C__law_some_row.G (hr.mono (by decide)) (by rfl) C__law_some_row.g C__law_some_row.kp C__law_some_row.b .nil pass0 (pa_cons (pv 0) (pa_cons (pv 1) (pa_cons pe_int pa_nil)))) (pa_cons (pe_call C__law_some_shelf.G (hr.mono (by decide)) (by rfl) C__law_some_shelf.g C__law_some_shelf.kp C__law_some_shelf.b .nil pass0 (pa_cons (pv 0) (pa_cons (pv 1) pa_nil))) pa_nil))) (pg_tup (n := 2) rfl (pgs_cons (pg_name (i := 2) sc_law.nd rfl (by first | exact Or.inl rfl | exact Or.inr rfl)) (pgs_cons (pg_name (i := 3) sc_law.nd rfl (by first | exact Or.inl rfl | exact Or.inr rfl)) pgs_nil))))
      (pss_cons (ps_asg (pe_tupF (pa_cons (pe_call C_moved.G (hr.mono (by decide)) (by rfl) C_moved.g C_moved.kp C_moved.b .nil pass0 (pa_cons (pv 2) (pa_cons (pv 3) pa_nil))) (pa_cons (pe_call C_past.G (hr.mono (by decide)) (by rfl) C_past.g C_past.kp C_past.b .nil pass0 (pa_cons (pv 2) (pa_cons (pv 3) pa_nil))) pa_nil))) (pg_tup (n := 2) rfl (pgs_cons (pg_name (i := 4) sc_law.nd rfl (by first | exact Or.inl rfl | exact Or.inr rfl)) (pgs_cons (pg_name (i := 5) sc_law.nd rfl (by first | exact Or.inl rfl | exact Or.inr rfl)) pgs_nil))))
      (pss_cons (ps_set (i := 6) sc_law.nd rfl (Or.inl rfl) (pe_call C__law_numbers.G (hr.mono (by decide)) (by rfl) C__law_numbers.g C__law_numbers.kp C__law_numbers.b .nil pass0 (pa_cons (pv 2) pa_nil)))
      (pss_cons (ps_setLc (i := 8) (own := [("_law_number", 7)]) rfl sc_law.nd rfl rfl (sw_true rfl rfl rfl (by decide +kernel)) (pi_list (pv 6)) (blkOk_by (own := [("_law_number", 7)]) (N := ["_law_script", "_law_town", "_law_row", "_law_shelf", "_law_made", "_law_later", "_law_numbers_here", "_law_number", "_law_due", "_law_turn", "_law_own", "_law_rows", "_law_steps", "_law_at", "_law_gone", "_law_step", "_law_one"]) (sc := (defScope s_law)) (by decide +kernel)) (fun _ _ _ _ _ => (pg_name (i := 7) sc_law.nd rfl (by first | exact Or.inl rfl | exact Or.inr rfl))) (fun _ _ _ _ _ => pts_nil) (fun _ _ _ _ _ => (pe_op op_sub (pe_tidxO (pv 5) (pv 7)) (pe_tidxO (pv 2) (pv 7)))))
      (pss_cons (ps_if (pt_stop (PW.pt (pw_or (pt_cmpR (op_neD hr.units) (pv 4) (pv 8) (nomark _)) (pw_or1 (pt_cmpR (op_neD hr.units) (pe_callB (cr_sum rfl) (by rfl) m_sum (by decide +kernel) (pa_cons (pv 4) pa_nil)) pe_int (nomark _)))))) (pss_one (ps_ret pe_bl)) pss_nil)
      (pss_cons (ps_if (pt_cmpR (op_neD hr.units) (pe_lc (own := [("_law_step", 15)]) rfl sc_law.nd (pi_list (pv 4)) (blkOk_by (own := [("_law_step", 15)]) (N := ["_law_script", "_law_town", "_law_row", "_law_shelf", "_law_made", "_law_later", "_law_numbers_here", "_law_number", "_law_due", "_law_turn", "_law_own", "_law_rows", "_law_steps", "_law_at", "_law_gone", "_law_step", "_law_one"]) (sc := (defScope s_law)) (by decide +kernel)) (fun _ _ _ _ _ => (pg_name (i := 15) sc_law.nd rfl (by first | exact Or.inl rfl | exact Or.inr rfl))) (fun _ _ _ _ _ => (pts_one (pt_cmpR op_lt (pv 15) (pe_op op_sub pe_int (pe_ix (ix_tupK (K := K) rfl) (pv 3) pe_int (fun _ _ => rfl))) (nomark _)))) (fun _ _ _ _ _ => (pv 15))) (pe_lst pa_nil) (nomark _)) (pss_one (ps_ret pe_bl)) pss_nil)
      (pss_cons (ps_if (pt_stop (PW.pt (pw_and (pt_cmpR (op_eqD hr.units) (pe_ix ix_tup (pv 3) pe_int (fun _ _ => rfl)) pe_int (nomark _)) (pw_and1 (pt_cmpR (op_neD hr.units) (pe_lc (own := [("_law_step", 15)]) rfl sc_law.nd (pi_list (pv 4)) (blkOk_by (own := [("_law_step", 15)]) (N := ["_law_script", "_law_town", "_law_row", "_law_shelf", "_law_made", "_law_later", "_law_numbers_here", "_law_number", "_law_due", "_law_turn", "_law_own", "_law_rows", "_law_steps", "_law_at", "_law_gone", "_law_step", "_law_one"]) (sc := (defScope s_law)) (by decide +kernel)) (fun _ _ _ _ _ => (pg_name (i := 15) sc_law.nd rfl (by first | exact Or.inl rfl | exact Or.inr rfl))) (fun _ _ _ _ _ => (pts_one (pt_cmpR (op_neDK (K := K) rfl hr.units) (pv 15) pe_int (nomark _)))) (fun _ _ _ _ _ => (pv 15))) (pe_lst pa_nil) (nomark _)))))) (pss_one (ps_ret pe_bl)) pss_nil)
      (pss_cons (ps_set (i := 9) sc_law.nd rfl (Or.inr rfl) (pe_ifExp (pt_cmpR (op_eqD hr.units) (pe_ix ix_tup (pv 3) pe_int (fun _ _ => rfl)) pe_str (nomark _)) pe_int (pe_un un_neg pe_int)))
      (pss_cons (ps_setLc (i := 11) (own := [("_law_own", 10)]) rfl sc_law.nd rfl rfl (sw_true rfl rfl rfl (by decide +kernel)) (pi_list (pe_call C__law_lots.G (hr.mono (by decide)) (by rfl) C__law_lots.g C__law_lots.kp C__law_lots.b .nil pass0 (pa_cons (pv 2) pa_nil))) (blkOk_by (own := [("_law_own", 10)]) (N := ["_law_script", "_law_town", "_law_row", "_law_shelf", "_law_made", "_law_later", "_law_numbers_here", "_law_number", "_law_due", "_law_turn", "_law_own", "_law_rows", "_law_steps", "_law_at", "_law_gone", "_law_step", "_law_one"]) (sc := (defScope s_law)) (by decide +kernel)) (fun _ _ _ _ _ => (pg_name (i := 10) sc_law.nd rfl (by first | exact Or.inl rfl | exact Or.inr rfl))) (fun _ _ _ _ _ => pts_nil) (fun _ _ _ _ _ => (pe_lc (own := [("_law_one", 16)]) rfl sc_law.nd (pi_listK (K := K) rfl (pv 10)) (blkOk_by (own := [("_law_one", 16)]) (N := ["_law_script", "_law_town", "_law_row", "_law_shelf", "_law_made", "_law_later", "_law_numbers_here", "_law_number", "_law_due", "_law_turn", "_law_own", "_law_rows", "_law_steps", "_law_at", "_law_gone", "_law_step", "_law_one"]) (sc := ⟨.function, [(".0", .local), ("_law_own", .local), ("_law_turn", .cell)], false, false, []⟩) (by decide +kernel)) (fun _ _ _ _ _ => (pg_name (i := 16) sc_law.nd rfl (by first | exact Or.inl rfl | exact Or.inr rfl))) (fun _ _ _ _ _ => pts_nil) (fun _ _ _ _ _ => (pe_op op_mul (pv 9) (pv 16))))))
      (pss_cons (ps_set (i := 12) sc_law.nd rfl (Or.inl rfl) (pe_lst pa_nil))
      (pss_cons (ps_for PassesOwn.never rfl (pi_list (pv 11)) (pg_name (i := 10) sc_law.nd rfl (by first | exact Or.inl rfl | exact Or.inr rfl)) (pss_one (ps_for PassesOwn.never rfl (pi_enum (by rfl) m_enumerate (pa_cons (pv 10) pa_nil)) (pg_tup (n := 2) rfl (pgs_cons (pg_name (i := 13) sc_law.nd rfl (by first | exact Or.inl rfl | exact Or.inr rfl)) (pgs_cons (pg_name (i := 7) sc_law.nd rfl (by first | exact Or.inl rfl | exact Or.inr rfl)) pgs_nil))) (pss_cons (ps_set (i := 14) sc_law.nd rfl (Or.inl rfl) (pe_callB cl_len (by rfl) m_len PySem.boot_len (pa_cons (pe_lc (own := [("_law_one", 16)]) rfl sc_law.nd (pi_list (pe_slice sl_list (pv 10) (po_some (pe_op op_add (pv 13) pe_int)) po_none)) (blkOk_by (own := [("_law_one", 16)]) (N := ["_law_script", "_law_town", "_law_row", "_law_shelf", "_law_made", "_law_later", "_law_numbers_here", "_law_number", "_law_due", "_law_turn", "_law_own", "_law_rows", "_law_steps", "_law_at", "_law_gone", "_law_step", "_law_one"]) (sc := (defScope s_law)) (by decide +kernel)) (fun _ _ _ _ _ => (pg_name (i := 16) sc_law.nd rfl (by first | exact Or.inl rfl | exact Or.inr rfl))) (fun _ _ _ _ _ => (pts_one (pt_stop (PW.pt (pw_and (pt_cmpR op_lt (pv 16) (pv 7) (nomark _)) (pw_and1 (pt_val (pe_call C__law_far.G (hr.mono (by decide)) (by rfl) C__law_far.g C__law_far.kp C__law_far.b .nil pass0 (pa_cons (pv 10) (pa_cons (pv 16) (pa_cons (pv 7) (pa_cons (pe_ix (ix_tupK (K := K) rfl) (pv 3) pe_int (fun _ _ => rfl)) pa_nil)))))))))))) (fun _ _ _ _ _ => (pv 16))) pa_nil)))
      (pss_one (ps_expr (pe_bm PySem.F.plainAttrs_list PySem.F.slot_list_append PySem.F.type_list_append mt_append (pv 12) (pa_cons (pe_op op_sub (pv 14) (pe_callB (cl_min2 rfl) (by rfl) m_min (by decide +kernel) (pa_cons (pe_ix ix_list (pe_call C__law_greater.G (hr.mono (by decide)) (by rfl) C__law_greater.g C__law_greater.kp C__law_greater.b .nil pass0 (pa_cons (pv 10) pa_nil)) (pv 13) (fun _ _ => rfl)) (pa_cons (pe_ix ix_tup (pv 3) pe_int (fun _ _ => rfl)) pa_nil)))) pa_nil))))))))
      (pss_one (ps_ret (pe_cmpR (op_eqD hr.units) (pv 4) (pv 12) (nomark _)))))))))))))))), fun x hp => ?_⟩)
  walk_at "s"
  walk_at "w"
  walk_at "s"
  refine ⟨(x, 14), _, isl_ow rfl, rfl, ⟨hp, by simp, by simp⟩, fun zs1 d ⟨h1, r, h2, h3, h4⟩ => ?_⟩
  subst h2
  have l1 := nums_len r
  have l3 := lots_len r
  dsimp only at h4
  simp only [List.length_nil] at h1
  have rok : RowOk r := ⟨by omega, h3⟩
  walk_at "s"
  walk_at "w"
  walk_at "s"
  refine ⟨x, _, isl_ow rfl, rfl, ⟨hp, by omega⟩, fun zs2 d ⟨h5, l, n, h6, h7⟩ => ?_⟩
  subst h6
  have hsg := sg_or l
  walk_at "s"
  walk_at "w"
  walk_at "s"
  refine ⟨(r, l, n), rfl, ⟨rok, (by omega : n ≤ 9)⟩, ?_⟩
  walk_at "w"
  refine ⟨(r, l, n), rfl, ⟨rok, (by omega : n ≤ 9)⟩, ?_⟩
  walk_at "w"
  walk_at "s"
  refine ⟨r, rfl, by omega, ?_⟩
  walk_at "w"
  walk_at "s"
  apply ve_lcT (vs := [7]) PyData.int (nums r) (fun _ => true) (fun a => PyData.int ((ixO (pastR l n r) a : Int) - (ixO r a : Int))) (by walk_at "n")
  walk_at "w"
  refine ⟨rfl, by simp, gl_lt (by omega), fun a ha => ⟨_, tg_name (by decide), fun acc srcs => ?_⟩, ?_⟩
  · have hm1 := mem_nums.mp ha
    have hm2 := mem_nums.mp ((nums_pastR l n r).mem_iff.mpr ha)
    walk_at "s"
    walk_at "w"
    refine ⟨rfl, fun _ => ?_, fun _ => rfl⟩
    walk_at "w"
    refine ⟨hm2, ?_⟩
    walk_at "w"
    refine ⟨hm1, ?_⟩
    walk_at "w"
    exact ⟨rfl, rfl⟩
  walk_at "w"
  rw [fil_true, show (nums r).map (fun a => PyData.int ((ixO (pastR l n r) a : Int) - (ixO r a : Int))) = iL ((lots r).flatMap (mvS l n)) by rw [← moved_row h3, iL, List.map_map]; rfl]
  have hnd := flat_nodup h3
  have hml := mv_len l n (lots r)
  rw [lots_flat] at hml
  have hsum : ((lots r).flatMap (mvS l n)).sum = 0 := by
    rw [List.flatMap_def]
    refine flat_sum fun s hs => ?_
    obtain ⟨t, ht, rfl⟩ := List.mem_map.mp hs
    exact mvS_sum (hnd t ht)
  have hlow : ∀ m ∈ (lots r).flatMap (mvS l n), -(n : Int) ≤ m := fun m hm => by
    obtain ⟨s, hs, hm⟩ := List.mem_flatMap.mp hm
    exact mvS_low (hnd s hs) m hm
  have hzero : n = 0 → ∀ m ∈ (lots r).flatMap (mvS l n), m = 0 := fun e m hm => by
    obtain ⟨s, hs, hm⟩ := List.mem_flatMap.mp hm
    rw [e] at hm
    exact mvS_zero (hnd s hs) m hm
  generalize hMV : (lots r).flatMap (mvS l n) = MV at *
  walk_at "s"
  walk_at "w"
  refine vt_cut false ?_ ?_
  · walk_at "w"
    refine r2_neA rd_dt (rd_ow rfl) (shp_li _) (by decide) rfl ?_
    walk_at "w"
    refine c1_sum rd_dt ?_
    rw [hsum]
    walk_at "w"
    exact ⟨rfl, rfl⟩
  walk_at "w"
  apply ve_lcT (vs := [15]) PyData.int MV (fun m => decide (m < 0 - (n : Int))) PyData.int (by walk_at "n")
  walk_at "w"
  refine ⟨rfl, by simp, gl_lt (by omega), fun m hm => ⟨_, tg_name (by decide), fun acc srcs => ?_⟩, ?_⟩
  · walk_at "s"
    walk_at "w"
    refine r2_ixT (d := .int n) rfl ?_
    walk_at "w"
    refine ⟨rfl, fun _ => ?_, fun _ => rfl⟩
    walk_at "w"
    exact ⟨rfl, rfl⟩
  walk_at "w"
  rw [show MV.filter (fun m => decide (m < 0 - (n : Int))) = [] from List.filter_eq_nil_iff.mpr fun m hm => by have := hlow m hm; simp; omega]
  refine r2_neA rd_fr rd_fr (shp_list (n := 1) fun d h => by cases h) (by decide) rfl ?_
  walk_at "w"
  refine vt_cut false ?_ ?_
  · walk_at "w"
    refine r2_ixT (d := .int n) rfl ?_
    walk_at "w"
    · have h0 := of_decide_eq_true ‹decide ((n : Int) = 0) = true›
      apply ve_lcT (vs := [15]) PyData.int MV (fun m => !decide (m = 0)) PyData.int (by walk_at "n")
      walk_at "w"
      refine ⟨rfl, by simp, gl_lt (by omega), fun m hm => ⟨_, tg_name (by decide), fun acc srcs => ?_⟩, ?_⟩
      · walk_at "s"
        walk_at "w"
        refine ⟨rfl, fun _ => ?_, fun _ => rfl⟩
        walk_at "w"
        exact ⟨rfl, rfl⟩
      walk_at "w"
      rw [show MV.filter (fun m => !decide (m = 0)) = [] from List.filter_eq_nil_iff.mpr fun m hm => by have := hzero (by omega) m hm; simp [this]]
      refine r2_neA rd_fr rd_fr (shp_list (n := 1) fun d h => by cases h) (by decide) rfl ?_
      walk_at "w"
      exact ⟨rfl, rfl⟩
    exact ⟨rfl, rfl⟩
  walk_at "w"
  refine r2_ixT (d := .str (wd l)) rfl ?_
  walk_at "w"
  refine ⟨l, rfl, ?_⟩
  walk_at "w"
  walk_at "s"
  apply ve_lcT (vs := [10]) (fun s : List Int => PyData.list (iL s)) (lots r) (fun _ => true) (fun s => PyData.list (iL (tm l s))) (by walk_at "n")
  walk_at "w"
  refine ⟨r, rfl, by omega, ?_⟩
  walk_at "w"
  refine ⟨rfl, by simp, gl_lt (by omega), fun s hs => ⟨_, tg_name (by decide), fun acc srcs => ?_⟩, ?_⟩
  · have hs1 := lots_mem hs
    walk_at "s"
    walk_at "w"
    refine ⟨rfl, fun _ => ?_, fun _ => rfl⟩
    walk_at "w"
    apply ve_lcT (vs := [16]) PyData.int s (fun _ => true) (fun a => PyData.int (sg l * a)) (by walk_at "n")
    walk_at "w"
    refine ⟨rfl, by simp, gl_lt (by omega), fun a ha => ⟨_, tg_name (by decide), fun acc srcs => ?_⟩, ?_⟩
    · walk_at "s"
      walk_at "w"
      refine ⟨rfl, fun _ => ?_, fun _ => rfl⟩
      walk_at "w"
      exact ⟨rfl, rfl⟩
    walk_at "w"
    rw [fil_true, map_tm]
    exact ⟨rfl, rfl⟩
  walk_at "w"
  rw [fil_true]
  walk_at "s"
  walk_at "w"
  walk_at "s"
  refine ss_for (fun i Γ => ∃ a b c d : Cell, Γ = [.sc x, .ow zs2, .dt (.tuple (oL r)), .dt (.tuple [.str (wd l), .int n]), .dt (.list (iL MV)), .dt (.tuple (oL (pastR l n r))), .dt (.list (iL (nums r))), a, .ow (iL MV), .dt (.int (sg l)), b, .dt (.list ((lots r).map fun s => PyData.list (iL (tm l s)))), .ow (iL (((lots r).take i).flatMap (mvS l n))), c, d, .no, .no]) fun ss => ?_
  walk_at "w"
  refine ⟨⟨_, _, _, _, rfl⟩, fun i d Γ2 hd ⟨a, b, c, e, ec⟩ => ?_, fun Γ2 ⟨a, b, c, e, ec⟩ => ?_⟩
  · subst ec
    rw [List.getElem?_map] at hd
    obtain ⟨s, hs, rfl⟩ := Option.map_eq_some_iff.mp hd
    have hsm := List.mem_of_getElem? hs
    have hs1 := lots_mem hsm
    have hsn := hnd s hsm
    have hj := mv_len l n ((lots r).take i)
    have hj1 := flat_take_le (lots r) i
    rw [lots_flat] at hj1
    have hNn := tm_nodup l hsn
    have hNl := tm_len l s
    have hmA := fun {j : Nat} {y : Int} (h : (tm l s)[j]? = some y) => mvS_at (n := n) hsn h
    rw [take_snoc hs, List.flatMap_append, List.flatMap_singleton]
    generalize ((lots r).take i).flatMap (mvS l n) = MV0 at hj ⊢
    have hml2 := mvS_len l n s
    generalize mvS l n s = MV1 at hmA hml2 ⊢
    generalize tm l s = N at *
    walk_at "w"
    refine ss_for (fun j Γ => ∃ a c d : Cell, Γ = [.sc x, .ow zs2, .dt (.tuple (oL r)), .dt (.tuple [.str (wd l), .int n]), .dt (.list (iL MV)), .dt (.tuple (oL (pastR l n r))), .dt (.list (iL (nums r))), a, .ow (iL MV), .dt (.int (sg l)), .dt (.list (iL N)), .dt (.list ((lots r).map fun s => PyData.list (iL (tm l s)))), .ow (iL (MV0 ++ MV1.take j)), c, d, .no, .no]) fun ss => ?_
    walk_at "w"
    refine ⟨⟨_, _, _, by rw [List.take_zero, List.append_nil]; rfl⟩, fun j d Γ2 hd1 ⟨a, c, d, ec⟩ => ?_, fun Γ2 ⟨a, c, d, ec⟩ => ?_⟩
    · subst ec
      rw [enum_iL, List.getElem?_map] at hd1
      obtain ⟨q, hq, rfl⟩ := Option.map_eq_some_iff.mp hd1
      rw [List.getElem?_zipIdx] at hq
      obtain ⟨y, hy, rfl⟩ := Option.map_eq_some_iff.mp hq
      have hjl := (List.getElem?_eq_some_iff.mp hy).1
      have hyN := List.mem_of_getElem? hy
      have hix := idx_nd hNn hy
      have hm1 := hmA hy
      rw [Nat.zero_add]
      walk_at "w"
      walk_at "s"
      walk_at "w"
      apply ve_lcT (vs := [16]) PyData.int (N.drop (j + 1)) (fun z => decide (z < y) && decide ((pastL true n N).idxOf z < (pastL true n N).idxOf y)) PyData.int (by walk_at "n")
      walk_at "w"
      refine ⟨(cut_from _ (j + 1)).trans List.map_drop.symm, by simp, gl_lt (by simp; omega), fun z hz => ⟨_, tg_name (by decide), fun acc srcs => ?_⟩, ?_⟩
      · have hzN := List.mem_of_mem_drop hz
        walk_at "s"
        refine vt_stop ?_
        walk_at "w"
        · refine r2_ixT (d := .int n) rfl ?_
          walk_at "w"
          refine ⟨(N, z, y, n), rfl, ⟨by dsimp only; omega, hNn, hzN, hyN⟩, ?_⟩
          have hlt := of_decide_eq_true ‹decide (z < y) = true›
          walk_at "w"
          refine ⟨by simp [*], fun _ => ?_, fun _ => rfl⟩
          walk_at "w"
          exact ⟨rfl, rfl⟩
        · exact ⟨by simp [*], (fun e => (by cases e)), (fun _ => rfl)⟩
      walk_at "w"
      walk_at "s"
      walk_at "w"
      refine ⟨N, rfl, by omega, ?_⟩
      walk_at "w"
      refine r2_ixL ⟨_, .inl ⟨rfl, rfl⟩⟩ (atI_nat (x := .int (gc N y)) (by rw [List.getElem?_map, ← hix, gr_idx hyN]; rfl)) ?_
      walk_at "w"
      refine r2_ixT (d := .int n) rfl ?_
      walk_at "w"
      refine ⟨_, _, rfl, isl_ow rfl, gl_lt (by simp; omega), ?_⟩
      walk_at "s"
      rw [take_snoc hm1, ← List.append_assoc, ← iL_one]
      unfold gone
      rw [hix]
      simp only [List.length_map]
      exact ⟨_, _, _, rfl⟩
    · subst ec
      have e1 : (enumD (iL N)).length = MV1.length := by rw [enumD_len, List.length_map]; omega
      rw [e1, List.take_length]
      exact ⟨_, _, _, _, rfl⟩
  subst ec
  rw [List.length_map, List.take_length, hMV]
  walk_at "w"
  refine r2_eqA rd_dt (rd_ow rfl) (shp_li _) (by decide) rfl ?_
  walk_at "w"
end
set_option maxHeartbeats 0 in
theorem factsL {P : Program} {w : World} {K : PySem.W.Frag} {h : Heap} {mg : Str → Option Value} {f : Addr} (X : K.In h) (G : h.Ns mainGlobals mg) (hfa : mg ("law" : Str) = some (.ref f)) (c : He.SaysD faL fnL K) :
    ∃ fd : FuncData, (∀ (s : Shared) (v : Value), BindsTo s fd ⟨[v], []⟩ [("_law_script", v)]) ∧ ∀ base : Heap, K.In base → base.Ns mainGlobals mg → FnOk P w K mg base CX0 8 f fd ["_law_script"] (spF K (fun ns : List Int => [.sc ns]) (fun ns => ns.length ≤ 63) fun _ => .bool true) := by
  obtain ⟨e_is_whole, F_is_whole⟩ := c.def_ 0 (d := d_is_whole) rfl
  have g_is_whole := He.glo_ok X G (c.fact 0 (f := .glo "is_whole") rfl)
  obtain ⟨e_is_whole_within, F_is_whole_within⟩ := c.def_ 1 (d := d_is_whole_within) rfl
  have g_is_whole_within := He.glo_ok X G (c.fact 1 (f := .glo "is_whole_within") rfl)
  obtain ⟨e__numbers_of, F__numbers_of⟩ := c.def_ 2 (d := d__numbers_of) rfl
  have g__numbers_of := He.glo_ok X G (c.fact 2 (f := .glo "_numbers_of") rfl)
  obtain ⟨e_is_row, F_is_row⟩ := c.def_ 3 (d := d_is_row) rfl
  have g_is_row := He.glo_ok X G (c.fact 3 (f := .glo "is_row") rfl)
  obtain ⟨e_check_row, F_check_row⟩ := c.def_ 4 (d := d_check_row) rfl
  have g_check_row := He.glo_ok X G (c.fact 4 (f := .glo "check_row") rfl)
  obtain ⟨e_stretches, F_stretches⟩ := c.def_ 5 (d := d_stretches) rfl
  have g_stretches := He.glo_ok X G (c.fact 5 (f := .glo "stretches") rfl)
  obtain ⟨e__is_word, F__is_word⟩ := c.def_ 6 (d := d__is_word) rfl
  have g__is_word := He.glo_ok X G (c.fact 6 (f := .glo "_is_word") rfl)
  obtain ⟨e__is_places, F__is_places⟩ := c.def_ 7 (d := d__is_places) rfl
  have g__is_places := He.glo_ok X G (c.fact 7 (f := .glo "_is_places") rfl)
  obtain ⟨e_is_shelf, F_is_shelf⟩ := c.def_ 8 (d := d_is_shelf) rfl
  have g_is_shelf := He.glo_ok X G (c.fact 8 (f := .glo "is_shelf") rfl)
  obtain ⟨e__check_shelf, F__check_shelf⟩ := c.def_ 9 (d := d__check_shelf) rfl
  have g__check_shelf := He.glo_ok X G (c.fact 9 (f := .glo "_check_shelf") rfl)
  obtain ⟨e_let_on, F_let_on⟩ := c.def_ 10 (d := d_let_on) rfl
  have g_let_on := He.glo_ok X G (c.fact 10 (f := .glo "let_on") rfl)
  obtain ⟨e__let_past, F__let_past⟩ := c.def_ 11 (d := d__let_past) rfl
  have g__let_past := He.glo_ok X G (c.fact 11 (f := .glo "_let_past") rfl)
  obtain ⟨e_past, F_past⟩ := c.def_ 12 (d := d_past) rfl
  have g_past := He.glo_ok X G (c.fact 12 (f := .glo "past") rfl)
  obtain ⟨e_moved, F_moved⟩ := c.def_ 13 (d := d_moved) rfl
  have g_moved := He.glo_ok X G (c.fact 13 (f := .glo "moved") rfl)
  obtain ⟨e__law_cell_at, F__law_cell_at⟩ := c.def_ 14 (d := d__law_cell_at) rfl
  have g__law_cell_at := He.glo_ok X G (c.fact 14 (f := .glo "_law_cell_at") rfl)
  obtain ⟨e__law_mixed, F__law_mixed⟩ := c.def_ 15 (d := d__law_mixed) rfl
  have g__law_mixed := He.glo_ok X G (c.fact 15 (f := .glo "_law_mixed") rfl)
  obtain ⟨e__law_draw, F__law_draw⟩ := c.def_ 16 (d := d__law_draw) rfl
  have g__law_draw := He.glo_ok X G (c.fact 16 (f := .glo "_law_draw") rfl)
  obtain ⟨e__law_pick, F__law_pick⟩ := c.def_ 17 (d := d__law_pick) rfl
  have g__law_pick := He.glo_ok X G (c.fact 17 (f := .glo "_law_pick") rfl)
  obtain ⟨e__law_some_plain, F__law_some_plain⟩ := c.def_ 18 (d := d__law_some_plain) rfl
  have g__law_some_plain := He.glo_ok X G (c.fact 18 (f := .glo "_law_some_plain") rfl)
  obtain ⟨e__law_some_row, F__law_some_row⟩ := c.def_ 19 (d := d__law_some_row) rfl
  have g__law_some_row := He.glo_ok X G (c.fact 19 (f := .glo "_law_some_row") rfl)
  obtain ⟨e__law_some_shelf, F__law_some_shelf⟩ := c.def_ 20 (d := d__law_some_shelf) rfl
  have g__law_some_shelf := He.glo_ok X G (c.fact 20 (f := .glo "_law_some_shelf") rfl)
  obtain ⟨e__law_numbers, F__law_numbers⟩ := c.def_ 21 (d := d__law_numbers) rfl
  have g__law_numbers := He.glo_ok X G (c.fact 21 (f := .glo "_law_numbers") rfl)
  obtain ⟨e__law_greater, F__law_greater⟩ := c.def_ 22 (d := d__law_greater) rfl
  have g__law_greater := He.glo_ok X G (c.fact 22 (f := .glo "_law_greater") rfl)
  obtain ⟨e__law_lots, F__law_lots⟩ := c.def_ 23 (d := d__law_lots) rfl
  have g__law_lots := He.glo_ok X G (c.fact 23 (f := .glo "_law_lots") rfl)
  obtain ⟨e__law_lowered, F__law_lowered⟩ := c.def_ 24 (d := d__law_lowered) rfl
  have g__law_lowered := He.glo_ok X G (c.fact 24 (f := .glo "_law_lowered") rfl)
  obtain ⟨e__law_far, F__law_far⟩ := c.def_ 25 (d := d__law_far) rfl
  have g__law_far := He.glo_ok X G (c.fact 25 (f := .glo "_law_far") rfl)
  obtain ⟨e_law, F_law⟩ := c.def_ 26 (d := d_law) rfl
  have g_law := He.glo_ok X G (c.fact 26 (f := .glo "law") rfl)
  have m_all := He.free_ok X G (c.fact 27 (f := .free "all") rfl)
  have m_bool := He.free_ok X G (c.fact 28 (f := .free "bool") rfl)
  have m_enumerate := He.free_ok X G (c.fact 29 (f := .free "enumerate") rfl)
  have m_int := He.free_ok X G (c.fact 30 (f := .free "int") rfl)
  have m_isinstance := He.free_ok X G (c.fact 31 (f := .free "isinstance") rfl)
  have m_len := He.free_ok X G (c.fact 32 (f := .free "len") rfl)
  have m_list := He.free_ok X G (c.fact 33 (f := .free "list") rfl)
  have m_max := He.free_ok X G (c.fact 34 (f := .free "max") rfl)
  have m_min := He.free_ok X G (c.fact 35 (f := .free "min") rfl)
  have m_range := He.free_ok X G (c.fact 36 (f := .free "range") rfl)
  have m_set := He.free_ok X G (c.fact 37 (f := .free "set") rfl)
  have m_sorted := He.free_ok X G (c.fact 38 (f := .free "sorted") rfl)
  have m_str := He.free_ok X G (c.fact 39 (f := .free "str") rfl)
  have m_sum := He.free_ok X G (c.fact 40 (f := .free "sum") rfl)
  have m_tuple := He.free_ok X G (c.fact 41 (f := .free "tuple") rfl)
  have m_zip := He.free_ok X G (c.fact 42 (f := .free "zip") rfl)
  have c_HEAVY : GlobS K mg "HEAVY" "heavy" := ⟨He.str_ok X G (c.fact 43 (f := .str "HEAVY" "heavy") rfl)⟩
  have c_LIGHT : GlobS K mg "LIGHT" "light" := ⟨He.str_ok X G (c.fact 44 (f := .str "LIGHT" "light") rfl)⟩
  have c_MOST_PLACES : GlobI K mg "MOST_PLACES" 9 := ⟨He.int_ok X G (c.fact 45 (f := .int "MOST_PLACES" 9) rfl)⟩
  have c_MOST_THINGS : GlobI K mg "MOST_THINGS" 24 := ⟨He.int_ok X G (c.fact 46 (f := .int "MOST_THINGS" 24) rfl)⟩
  have e := hfa.symm.trans g_law
  cases e
  have D_is_whole : Df K mg "is_whole" s_is_whole ["thing"] (He.ga K "is_whole") e_is_whole := Df.of F_is_whole g_is_whole fun _ _ _ _ _ _ us hl => match us, hl with | [_], _ => rfl
  have D_is_whole_within : Df K mg "is_whole_within" s_is_whole_within ["thing", "least", "most"] (He.ga K "is_whole_within") e_is_whole_within := Df.of F_is_whole_within g_is_whole_within fun _ _ _ _ _ _ us hl => match us, hl with | [_, _, _], _ => rfl
  have D__numbers_of : Df K mg "_numbers_of" s__numbers_of ["things"] (He.ga K "_numbers_of") e__numbers_of := Df.of F__numbers_of g__numbers_of fun _ _ _ _ _ _ us hl => match us, hl with | [_], _ => rfl
  have D_is_row : Df K mg "is_row" s_is_row ["thing"] (He.ga K "is_row") e_is_row := Df.of F_is_row g_is_row fun _ _ _ _ _ _ us hl => match us, hl with | [_], _ => rfl
  have D_check_row : Df K mg "check_row" s_check_row ["row"] (He.ga K "check_row") e_check_row := Df.of F_check_row g_check_row fun _ _ _ _ _ _ us hl => match us, hl with | [_], _ => rfl
  have D_stretches : Df K mg "stretches" s_stretches ["row"] (He.ga K "stretches") e_stretches := Df.of F_stretches g_stretches fun _ _ _ _ _ _ us hl => match us, hl with | [_], _ => rfl
  have D__is_word : Df K mg "_is_word" s__is_word ["thing"] (He.ga K "_is_word") e__is_word := Df.of F__is_word g__is_word fun _ _ _ _ _ _ us hl => match us, hl with | [_], _ => rfl
  have D__is_places : Df K mg "_is_places" s__is_places ["thing"] (He.ga K "_is_places") e__is_places := Df.of F__is_places g__is_places fun _ _ _ _ _ _ us hl => match us, hl with | [_], _ => rfl
  have D_is_shelf : Df K mg "is_shelf" s_is_shelf ["thing"] (He.ga K "is_shelf") e_is_shelf := Df.of F_is_shelf g_is_shelf fun _ _ _ _ _ _ us hl => match us, hl with | [_], _ => rfl
  have D__check_shelf : Df K mg "_check_shelf" s__check_shelf ["shelf"] (He.ga K "_check_shelf") e__check_shelf := Df.of F__check_shelf g__check_shelf fun _ _ _ _ _ _ us hl => match us, hl with | [_], _ => rfl
  have D_let_on : Df K mg "let_on" s_let_on ["standing", "word", "most"] (He.ga K "let_on") e_let_on := Df.of F_let_on g_let_on fun _ _ _ _ _ _ us hl => match us, hl with | [_, _, _], _ => rfl
  have D__let_past : Df K mg "_let_past" s__let_past ["numbers", "word", "places"] (He.ga K "_let_past") e__let_past := Df.of F__let_past g__let_past fun _ _ _ _ _ _ us hl => match us, hl with | [_, _, _], _ => rfl
  have D_past : Df K mg "past" s_past ["row", "shelf"] (He.ga K "past") e_past := Df.of F_past g_past fun _ _ _ _ _ _ us hl => match us, hl with | [_, _], _ => rfl
  have D_moved : Df K mg "moved" s_moved ["row", "shelf"] (He.ga K "moved") e_moved := Df.of F_moved g_moved fun _ _ _ _ _ _ us hl => match us, hl with | [_, _], _ => rfl
  have D__law_cell_at : Df K mg "_law_cell_at" s__law_cell_at ["_law_script", "_law_k"] (He.ga K "_law_cell_at") e__law_cell_at := Df.of F__law_cell_at g__law_cell_at fun _ _ _ _ _ _ us hl => match us, hl with | [_, _], _ => rfl
  have D__law_mixed : Df K mg "_law_mixed" s__law_mixed ["_law_script", "_law_k", "_law_bound"] (He.ga K "_law_mixed") e__law_mixed := Df.of F__law_mixed g__law_mixed fun _ _ _ _ _ _ us hl => match us, hl with | [_, _, _], _ => rfl
  have D__law_draw : Df K mg "_law_draw" s__law_draw ["_law_script", "_law_town", "_law_bound"] (He.ga K "_law_draw") e__law_draw := Df.of F__law_draw g__law_draw fun _ _ _ _ _ _ us hl => match us, hl with | [_, _, _], _ => rfl
  have D__law_pick : Df K mg "_law_pick" s__law_pick ["_law_script", "_law_town", "_law_some"] (He.ga K "_law_pick") e__law_pick := Df.of F__law_pick g__law_pick fun _ _ _ _ _ _ us hl => match us, hl with | [_, _, _], _ => rfl
  have D__law_some_plain : Df K mg "_law_some_plain" s__law_some_plain ["_law_script", "_law_town", "_law_most_there"] (He.ga K "_law_some_plain") e__law_some_plain := Df.of F__law_some_plain g__law_some_plain fun _ _ _ _ _ _ us hl => match us, hl with | [_, _, _], _ => rfl
  have D__law_some_row : Df K mg "_law_some_row" s__law_some_row ["_law_script", "_law_town", "_law_most_there"] (He.ga K "_law_some_row") e__law_some_row := Df.of F__law_some_row g__law_some_row fun _ _ _ _ _ _ us hl => match us, hl with | [_, _, _], _ => rfl
  have D__law_some_shelf : Df K mg "_law_some_shelf" s__law_some_shelf ["_law_script", "_law_town"] (He.ga K "_law_some_shelf") e__law_some_shelf := Df.of F__law_some_shelf g__law_some_shelf fun _ _ _ _ _ _ us hl => match us, hl with | [_, _], _ => rfl
  have D__law_numbers : Df K mg "_law_numbers" s__law_numbers ["_law_row"] (He.ga K "_law_numbers") e__law_numbers := Df.of F__law_numbers g__law_numbers fun _ _ _ _ _ _ us hl => match us, hl with | [_], _ => rfl
  have D__law_greater : Df K mg "_law_greater" s__law_greater ["_law_numbers_here"] (He.ga K "_law_greater") e__law_greater := Df.of F__law_greater g__law_greater fun _ _ _ _ _ _ us hl => match us, hl with | [_], _ => rfl
  have D__law_lots : Df K mg "_law_lots" s__law_lots ["_law_row"] (He.ga K "_law_lots") e__law_lots := Df.of F__law_lots g__law_lots fun _ _ _ _ _ _ us hl => match us, hl with | [_], _ => rfl
  have D__law_lowered : Df K mg "_law_lowered" s__law_lowered ["_law_numbers_here", "_law_room"] (He.ga K "_law_lowered") e__law_lowered := Df.of F__law_lowered g__law_lowered fun _ _ _ _ _ _ us hl => match us, hl with | [_, _], _ => rfl
  have D__law_far : Df K mg "_law_far" s__law_far ["_law_own", "_law_less", "_law_number", "_law_room"] (He.ga K "_law_far") e__law_far := Df.of F__law_far g__law_far fun _ _ _ _ _ _ us hl => match us, hl with | [_, _, _, _], _ => rfl
  have D_law : Df K mg "law" s_law ["_law_script"] (He.ga K "law") e_law := Df.of F_law g_law fun _ _ _ _ _ _ us hl => match us, hl with | [_], _ => rfl
  have b := FunD.bindsA (ps := ["_law_script"]) F_law fun _ _ _ _ _ _ us hl => match us, hl with | [_], _ => rfl
  refine ⟨e_law, fun s v => b s [v] rfl, fun base _ _ => ?_⟩
  have C_is_whole := ok_is_whole (P := P) (w := w) (mg := mg) (base := base) D_is_whole m_bool m_int m_isinstance
  have C_is_whole_within := ok_is_whole_within (P := P) (w := w) (mg := mg) (base := base) D_is_whole_within C_is_whole
  have C__numbers_of := ok__numbers_of (P := P) (w := w) (mg := mg) (base := base) D__numbers_of 
  have C_is_row := ok_is_row (P := P) (w := w) (mg := mg) (base := base) D_is_row C__numbers_of C_is_whole m_all m_isinstance m_len m_set m_tuple c_MOST_THINGS
  have C_check_row := ok_check_row (P := P) (w := w) (mg := mg) (base := base) D_check_row C_is_row
  have C_stretches := ok_stretches (P := P) (w := w) (mg := mg) (base := base) D_stretches C_check_row
  have C__is_word := ok__is_word (P := P) (w := w) (mg := mg) (base := base) D__is_word m_isinstance m_str c_HEAVY c_LIGHT
  have C__is_places := ok__is_places (P := P) (w := w) (mg := mg) (base := base) D__is_places C_is_whole_within c_MOST_PLACES
  have C_is_shelf := ok_is_shelf (P := P) (w := w) (mg := mg) (base := base) D_is_shelf C__is_places C__is_word m_isinstance m_len m_tuple
  have C__check_shelf := ok__check_shelf (P := P) (w := w) (mg := mg) (base := base) D__check_shelf C_is_shelf
  have C_let_on := ok_let_on (P := P) (w := w) (mg := mg) (base := base) D_let_on m_len m_max m_min c_LIGHT
  have C__let_past := ok__let_past (P := P) (w := w) (mg := mg) (base := base) D__let_past C_let_on m_zip
  have C_past := ok_past (P := P) (w := w) (mg := mg) (base := base) D_past C__check_shelf C__let_past C_check_row C_stretches m_len m_tuple
  have C_moved := ok_moved (P := P) (w := w) (mg := mg) (base := base) D_moved C_past m_enumerate
  have C__law_cell_at := ok__law_cell_at (P := P) (w := w) (mg := mg) (base := base) D__law_cell_at m_len m_min m_range
  have C__law_mixed := ok__law_mixed (P := P) (w := w) (mg := mg) (base := base) D__law_mixed C__law_cell_at
  have C__law_draw := ok__law_draw (P := P) (w := w) (mg := mg) (base := base) D__law_draw C__law_mixed m_len
  have C__law_pick := ok__law_pick (P := P) (w := w) (mg := mg) (base := base) D__law_pick C__law_draw m_len
  have C__law_some_plain := ok__law_some_plain (P := P) (w := w) (mg := mg) (base := base) D__law_some_plain C__law_draw C__law_pick m_len m_min m_range m_tuple
  have C__law_some_row := ok__law_some_row (P := P) (w := w) (mg := mg) (base := base) D__law_some_row C__law_draw C__law_some_plain m_len m_list m_range m_tuple
  have C__law_some_shelf := ok__law_some_shelf (P := P) (w := w) (mg := mg) (base := base) D__law_some_shelf C__law_draw C__law_pick
  have C__law_numbers := ok__law_numbers (P := P) (w := w) (mg := mg) (base := base) D__law_numbers 
  have C__law_greater := ok__law_greater (P := P) (w := w) (mg := mg) (base := base) D__law_greater m_int m_len m_range m_sum
  have C__law_lots := ok__law_lots (P := P) (w := w) (mg := mg) (base := base) D__law_lots 
  have C__law_lowered := ok__law_lowered (P := P) (w := w) (mg := mg) (base := base) D__law_lowered C__law_greater m_max m_sorted
  have C__law_far := ok__law_far (P := P) (w := w) (mg := mg) (base := base) D__law_far C__law_lowered
  have C_law := ok_law (P := P) (w := w) (mg := mg) (base := base) D_law C__law_far C__law_greater C__law_lots C__law_numbers C__law_some_row C__law_some_shelf C_moved C_past m_enumerate m_len m_min m_sum
  exact C_law.G
end Sh
set_option maxHeartbeats 0 in
theorem PySem.Challenge.cw_shelfrows_k04_whole_how_far_moved_holds : PySem.Challenge.rw_shelfrows_k04_whole_how_far_moved.Holds := by
  refine Sh.endL fun {w} {K} {h} {mg} {f} KX G hmg c => ?_
  obtain ⟨fd, hb, hF⟩ := Sh.factsL (P := (PySem.Challenge.rw_shelfrows_k04_whole_how_far_moved).prog) (w := w) KX G hmg c
  exact ⟨fd, _, hb, fun H a ns hl hS => Ld.law_sp hl hS, hF⟩
