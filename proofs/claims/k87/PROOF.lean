import PyProof.Rows.All
import HandS.ForMost
import HandS.Wide
import HandS.Walk
import HandS.WordsExc
import HandS.Codes
import PySem.Challenge.RW_deedpiles_k87_whole_fields_told_back
import PyProof.ReprRoads
import PyProof.CallFns
import HandS.TupLe
import HandS.Zip
import HandS.Deep
import HandS.DictComp
import HandS.TupAny
import KE.GoesMore
import KE.GoesEnum
import PyProof.EnumMake
import PyProof.Draws
import HandS.IsInst
import HandS.Conv
import HandS.More
import HandS.Style
import KE.KRevSl
import HandS.Flow
import HandS.Strs
import PyProof.ReprBulk
import KE.DataMinMax
import KE.SortData
import HandS.Ends
set_option Elab.async false
set_option linter.all false
set_option maxRecDepth 100000
set_option maxHeartbeats 4000000
namespace XB
open PySem PySem.Spec PyProof.Rows L2
/-! ### defs of the text, called by their names -/
structure Cl (P : Program) (w : World) (K : PySem.W.Frag) (mg : Str → Option Value) (base : Heap) (CX : CXT) (k : Nat) (x : Str) (sp : Sp) : Prop where
  ex : ∃ (f : Addr) (fd : FuncData) (ps : List Str), FnOk P w K mg base CX k f fd ps sp ∧ mg x = some (.ref f) ∧ PySem.W.keepIn K (.ref f) = true ∧ Binds K fd ps []
/-- a def that stands in the module under its own name -/
structure Dn (K : PySem.W.Frag) (mg : Str → Option Value) (x : Str) (st : Stmt) : Prop where
  ex : ∃ (f : Addr) (fd : FuncData), Fun K x x st f fd ∧ mg x = some (.ref f)
section
variable {P : Program} {w : World} {K : PySem.W.Frag} {mg : Str → Option Value} {base : Heap}
theorem cl0 {x : Str} {st : Stmt} {N ps : List Str} {k : Nat} {sp : Sp} (D : Dn K mg x st)
    (hb : ∀ (kV doc pm : Value) (an : Option Addr) (cdv ct : Value) (us : List Value), us.length = ps.length → bindArgs (PySem.W.fnOf x x (defArgs st) (defBody st) (defScope st) .none kV doc pm an cdv ct) ⟨us, []⟩ = pure (ps.zip us))
    (S : FnScope N ps (defScope st)) (len : ∀ vs H Q E, sp vs H Q E → vs.length = ps.length)
    (hbody : ∀ (f : Addr) (cdv : Value) (A : Around) (outer : List Env) (s : Shared) (H : Hp) (vs : List V) (Q : VK) (E : XK), Room k (A.deeper (envOfC x (defScope st) s.heap.objs.size f cdv)) → sp vs H Q E →
      ∃ t, PSs (cxOf CX0 P w K mg base N x (defScope st) f cdv A outer s H E).nox (defBody st) t ∧ t { nx := fun _ H' => Q .non H', rt := Q } (start N vs) H) : Cl P w K mg base CX0 (k + 1) x sp := by
  obtain ⟨f, fd, F, hm⟩ := D.ex
  exact ⟨f, fd, ps, F.ok S len (fun cdv A outer s H vs Q E hr h => hbody f cdv A outer s H vs Q E hr h), hm, F.kp, F.binds hb⟩
end
section
variable {X : Cx} {k j : Nat} {x : Str} {sp : Sp} {p pos : Pos} {e : Expr} {es : List Expr} {t : TA}
theorem pe_k (c : Cl X.prog X.w X.K X.mg X.base CX0 k x sp) (hr : Room j X.A) (hk : k ≤ j) (hg : Gl X x) (ha : PA X (e :: es) t)
    (hdb : (x == ("__debug__" : Str)) = false := by decide) (he : starEach (e :: es) X.env = (false, eval e X.env) :: starEach es X.env := by rfl) (hpl : (backTo pos (starEach es X.env)).any (·.1) = false := by rfl) :
    PE X (.Call (.Name x p) (e :: es) [] pos) (tCall sp [] E0 t) := by
  obtain ⟨f, fd, ps, F, hm, kp, b⟩ := c.ex
  exact pe_call F (hr.mono hk) hg hm kp b .nil pass0 ha hdb he hpl
end
/-! ### heaps -/
theorem same_upd {H : Hp} {p : Addr} {o : HO} (h : H p = none) : Same H (upd H p o) := fun b x e => by
  rw [upd_ne (ne_of_none e h)]
  exact e
theorem Same.put {H H1 : Hp} {D : Addr} {o : HO} (s : Same H H1) (hD : H D = none) : Same H (upd H1 D o) := fun b x e => by
  rw [upd_ne (ne_of_none e hD)]
  exact s b x e
theorem Same.new {H H1 : Hp} {D : Addr} {o : HO} (s : Same H H1) (hD : H1 D = none) : Same H (upd H1 D o) := fun b x e => by
  rw [upd_ne (ne_of_none (s b x e) hD)]
  exact s b x e
theorem same_put {H H1 : Hp} {D : Addr} {o : HO} (s : Same H H1) (hD : H D = none) : Same H (upd H1 D o) := Same.put s hD
theorem same_new {H H1 : Hp} {D : Addr} {o : HO} (s : Same H H1) (hD : H1 D = none) : Same H (upd H1 D o) := Same.new s hD
theorem yes_ {σ : L2.St} {H : Hp} {A B : Hp → Prop} (h : A H) : tYes σ H (fun b H3 => if b = true then A H3 else B H3) := by
  show if true = true then A H else B H
  rw [if_pos rfl]
  exact h
/-- the int that stands at a place of a row of ints -/
theorem int_at {ns : List Int} {i : Nat} {x : V} (h : (ns.map V.int)[i]? = some x) : ∃ z, ns[i]? = some z ∧ x = V.int z := by
  rw [List.getElem?_map] at h
  cases e : ns[i]? with
  | none =>
    rw [e] at h
    cases h
  | some z =>
    rw [e] at h
    exact ⟨z, rfl, (Option.some.inj h).symm⟩
theorem str_at {ns : List Str} {i : Nat} {x : V} (h : (ns.map V.str)[i]? = some x) : ∃ z, ns[i]? = some z ∧ x = V.str z := by
  rw [List.getElem?_map] at h
  obtain ⟨z, e, rfl⟩ := Option.map_eq_some_iff.mp h
  exact ⟨z, e, rfl⟩
theorem map_set {xs : List Int} (k : Nat) (z : Int) : (xs.map V.int).set k (.int z) = (xs.set k z).map V.int := by
  rw [List.map_set]
theorem ixN_of {n : Nat} {z : Int} {k : Nat} (e : z = (k : Int)) (h : k < n) : ixN n z = some k := by
  unfold ixN
  rw [if_pos (by omega), if_pos (by omega), e]
  rfl
theorem atI_of {xs : List Int} {z : Int} {k : Nat} {v : Int} (e : z = (k : Int)) (h : xs[k]? = some v) : atI (xs.map V.int) z = some (V.int v) := by
  refine at_of e ?_
  rw [List.getElem?_map, h]
  rfl
end XB
set_option Elab.async false
set_option linter.all false
set_option maxRecDepth 100000
set_option maxHeartbeats 4000000
namespace XB
open PySem PySem.Spec PyProof.Rows L2
def topS (i : Nat) : Stmt := PySem.Challenge.pw_deedpiles_k87_whole_fields_told_back.main.body.getD i (.Pass ⟨0, 0, 0, 0⟩)
abbrev s_BadField___init__ : Stmt := inClass (topS 2) 0
theorem sc_BadField___init__ : FnScope ["self", "part"] ["self", "part"] (defScope s_BadField___init__) := ⟨rfl, rfl, rfl, by decide +kernel, rfl, by decide +kernel, by decide +kernel⟩
abbrev s_BadClaims___init__ : Stmt := inClass (topS 3) 0
theorem sc_BadClaims___init__ : FnScope ["self", "place"] ["self", "place"] (defScope s_BadClaims___init__) := ⟨rfl, rfl, rfl, by decide +kernel, rfl, by decide +kernel, by decide +kernel⟩
abbrev s_TooGreat___init__ : Stmt := inClass (topS 4) 0
theorem sc_TooGreat___init__ : FnScope ["self", "most"] ["self", "most"] (defScope s_TooGreat___init__) := ⟨rfl, rfl, rfl, by decide +kernel, rfl, by decide +kernel, by decide +kernel⟩
abbrev s_is_whole : Stmt := topS 6
theorem sc_is_whole : FnScope ["value"] ["value"] (defScope s_is_whole) := ⟨rfl, rfl, rfl, by decide +kernel, rfl, by decide +kernel, by decide +kernel⟩
abbrev s_is_pair : Stmt := topS 7
theorem sc_is_pair : FnScope ["value"] ["value"] (defScope s_is_pair) := ⟨rfl, rfl, rfl, by decide +kernel, rfl, by decide +kernel, by decide +kernel⟩
abbrev s_is_ascending : Stmt := topS 8
theorem sc_is_ascending : FnScope ["items", "one", "other"] ["items"] (defScope s_is_ascending) := ⟨rfl, rfl, rfl, by decide +kernel, rfl, by decide +kernel, by decide +kernel⟩
abbrev s_touch_table : Stmt := topS 12
theorem sc_touch_table : FnScope ["field", "names", "_", "name"] ["field"] (defScope s_touch_table) := ⟨rfl, rfl, rfl, by decide +kernel, rfl, by decide +kernel, by decide +kernel⟩
abbrev s_names_touching : Stmt := topS 13
theorem sc_names_touching : FnScope ["field", "name", "names", "pairs", "other"] ["field", "name"] (defScope s_names_touching) := ⟨rfl, rfl, rfl, by decide +kernel, rfl, by decide +kernel, by decide +kernel⟩
abbrev s_are_apart : Stmt := topS 14
theorem sc_are_apart : FnScope ["pairs", "one", "other"] ["pairs", "one", "other"] (defScope s_are_apart) := ⟨rfl, rfl, rfl, by decide +kernel, rfl, by decide +kernel, by decide +kernel⟩
abbrev s_are_names : Stmt := topS 15
theorem sc_are_names : FnScope ["value", "item"] ["value"] (defScope s_are_names) := ⟨rfl, rfl, rfl, by decide +kernel, rfl, by decide +kernel, by decide +kernel⟩
abbrev s_is_name : Stmt := topS 16
theorem sc_is_name : FnScope ["value", "letter"] ["value"] (defScope s_is_name) := ⟨rfl, rfl, rfl, by decide +kernel, rfl, by decide +kernel, by decide +kernel⟩
abbrev s_is_script : Stmt := topS 20
theorem sc_is_script : FnScope ["names", "value", "_", "times"] ["names", "value"] (defScope s_is_script) := ⟨rfl, rfl, rfl, by decide +kernel, rfl, by decide +kernel, by decide +kernel⟩
abbrev s_is_great_step : Stmt := topS 21
theorem sc_is_great_step : FnScope ["names", "value", "name", "times"] ["names", "value"] (defScope s_is_great_step) := ⟨rfl, rfl, rfl, by decide +kernel, rfl, by decide +kernel, by decide +kernel⟩
abbrev s_are_great_steps : Stmt := topS 22
theorem sc_are_great_steps : FnScope ["names", "value", "most", "item"] ["names", "value", "most"] (defScope s_are_great_steps) := ⟨rfl, rfl, rfl, by decide +kernel, rfl, by decide +kernel, by decide +kernel⟩
abbrev s_is_times : Stmt := topS 23
theorem sc_is_times : FnScope ["value"] ["value"] (defScope s_is_times) := ⟨rfl, rfl, rfl, by decide +kernel, rfl, by decide +kernel, by decide +kernel⟩
abbrev s_piled : Stmt := topS 24
theorem sc_piled : FnScope ["touch", "steps", "pieces", "name", "times", "at"] ["touch", "steps"] (defScope s_piled) := ⟨rfl, rfl, rfl, by decide +kernel, rfl, by decide +kernel, by decide +kernel⟩
abbrev s_last_touched : Stmt := topS 25
theorem sc_last_touched : FnScope ["names", "pieces", "at"] ["names", "pieces"] (defScope s_last_touched) := ⟨rfl, rfl, rfl, by decide +kernel, rfl, by decide +kernel, by decide +kernel⟩
abbrev s_place_behind : Stmt := topS 26
theorem sc_place_behind : FnScope ["pieces", "at", "name", "place"] ["pieces", "at", "name"] (defScope s_place_behind) := ⟨rfl, rfl, rfl, by decide +kernel, rfl, by decide +kernel, by decide +kernel⟩
abbrev s_fields_of : Stmt := topS 30
theorem sc_fields_of : FnScope ["names", "claims", "field", "claim"] ["names", "claims"] (defScope s_fields_of) := ⟨rfl, rfl, rfl, by decide +kernel, rfl, by decide +kernel, by decide +kernel⟩
abbrev s_told_pairs : Stmt := topS 31
theorem sc_told_pairs : FnScope ["names", "claims", "fields", "pair"] ["names", "claims"] (defScope s_told_pairs) := ⟨rfl, rfl, rfl, by decide +kernel, rfl, by decide +kernel, by decide +kernel⟩
abbrev s_quarrel : Stmt := topS 32
theorem sc_quarrel : FnScope ["names", "claims", "fields", "holding", "rows", "numbers", "left", "claim", "at", "field", "longer"] ["names", "claims"] (defScope s_quarrel) := ⟨rfl, rfl, rfl, by decide +kernel, rfl, by decide +kernel, by decide +kernel⟩
abbrev s_need_names : Stmt := topS 33
theorem sc_need_names : FnScope ["names"] ["names"] (defScope s_need_names) := ⟨rfl, rfl, rfl, by decide +kernel, rfl, by decide +kernel, by decide +kernel⟩
abbrev s_need_claims : Stmt := topS 34
theorem sc_need_claims : FnScope ["names", "claims", "place", "item"] ["names", "claims"] (defScope s_need_claims) := ⟨rfl, rfl, rfl, by decide +kernel, rfl, by decide +kernel, by decide +kernel⟩
abbrev s_is_claim : Stmt := topS 35
theorem sc_is_claim : FnScope ["names", "value", "one", "other", "is_alike"] ["names", "value"] (defScope s_is_claim) := ⟨rfl, rfl, rfl, by decide +kernel, rfl, by decide +kernel, by decide +kernel⟩
abbrev s_pairs_of : Stmt := topS 36
theorem sc_pairs_of : FnScope ["names", "one", "other"] ["names"] (defScope s_pairs_of) := ⟨rfl, rfl, rfl, by decide +kernel, rfl, by decide +kernel, by decide +kernel⟩
abbrev s_all_fields : Stmt := topS 37
theorem sc_all_fields : FnScope ["names", "rows", "pair", "row"] ["names"] (defScope s_all_fields) := ⟨rfl, rfl, rfl, by decide +kernel, rfl, by decide +kernel, by decide +kernel⟩
abbrev s_does_hold : Stmt := topS 38
theorem sc_does_hold : FnScope ["field", "claim", "one", "other", "is_alike", "touch"] ["field", "claim"] (defScope s_does_hold) := ⟨rfl, rfl, rfl, by decide +kernel, rfl, by decide +kernel, by decide +kernel⟩
abbrev s_word_of : Stmt := topS 39
theorem sc_word_of : FnScope ["fields", "pair", "many", "_", "pairs"] ["fields", "pair"] (defScope s_word_of) := ⟨rfl, rfl, rfl, by decide +kernel, rfl, by decide +kernel, by decide +kernel⟩
abbrev s_longer_rows : Stmt := topS 40
theorem sc_longer_rows : FnScope ["holding", "numbers", "left", "rows", "first", "number", "at"] ["holding", "numbers", "left"] (defScope s_longer_rows) := ⟨rfl, rfl, rfl, by decide +kernel, rfl, by decide +kernel, by decide +kernel⟩
abbrev s__law_mixed : Stmt := topS 42
theorem sc__law_mixed : FnScope ["cell", "n", "blend"] ["cell", "n"] (defScope s__law_mixed) := ⟨rfl, rfl, rfl, by decide +kernel, rfl, by decide +kernel, by decide +kernel⟩
abbrev s__law_folded : Stmt := topS 43
theorem sc__law_folded : FnScope ["script", "found", "n", "cell"] ["script"] (defScope s__law_folded) := ⟨rfl, rfl, rfl, by decide +kernel, rfl, by decide +kernel, by decide +kernel⟩
abbrev s__law_draw : Stmt := topS 44
theorem sc__law_draw : FnScope ["m", "limit", "n", "lot", "here", "cell"] ["m", "limit"] (defScope s__law_draw) := ⟨rfl, rfl, rfl, by decide +kernel, rfl, by decide +kernel, by decide +kernel⟩
abbrev s__law_begun : Stmt := topS 45
theorem sc__law_begun : FnScope ["script", "m", "cell"] ["script"] (defScope s__law_begun) := ⟨rfl, rfl, rfl, by decide +kernel, rfl, by decide +kernel, by decide +kernel⟩
abbrev s__law_like : Stmt := topS 46
theorem sc__law_like : FnScope ["answer", "due"] ["answer", "due"] (defScope s__law_like) := ⟨rfl, rfl, rfl, by decide +kernel, rfl, by decide +kernel, by decide +kernel⟩
abbrev s__law_steps : Stmt := topS 47
theorem sc__law_steps : FnScope ["m", "field", "most", "great", "found", "k", "times"] ["m", "field", "most", "great"] (defScope s__law_steps) := ⟨rfl, rfl, rfl, by decide +kernel, rfl, by decide +kernel, by decide +kernel⟩
abbrev s__law_apart : Stmt := topS 48
theorem sc__law_apart : FnScope ["field", "one", "other"] ["field", "one", "other"] (defScope s__law_apart) := ⟨rfl, rfl, rfl, by decide +kernel, rfl, by decide +kernel, by decide +kernel⟩
abbrev s__law_meet : Stmt := topS 49
theorem sc__law_meet : FnScope ["field", "steps", "k", "far"] ["field", "steps"] (defScope s__law_meet) := ⟨rfl, rfl, rfl, by decide +kernel, rfl, by decide +kernel, by decide +kernel⟩
abbrev s__law_pile : Stmt := topS 50
theorem sc__law_pile : FnScope ["field", "steps", "found", "pair", "name", "times"] ["field", "steps"] (defScope s__law_pile) := ⟨rfl, rfl, rfl, by decide +kernel, rfl, by decide +kernel, by decide +kernel⟩
abbrev s__law_firsts : Stmt := topS 51
theorem sc__law_firsts : FnScope ["field", "steps", "found", "k", "step"] ["field", "steps"] (defScope s__law_firsts) := ⟨rfl, rfl, rfl, by decide +kernel, rfl, by decide +kernel, by decide +kernel⟩
abbrev s__law_least : Stmt := topS 52
theorem sc__law_least : FnScope ["field", "steps", "left", "found", "k", "far"] ["field", "steps"] (defScope s__law_least) := ⟨rfl, rfl, rfl, by decide +kernel, rfl, by decide +kernel, by decide +kernel⟩
abbrev s__law_back : Stmt := topS 53
theorem sc__law_back : FnScope ["steps", "name", "times"] ["steps"] (defScope s__law_back) := ⟨rfl, rfl, rfl, by decide +kernel, rfl, by decide +kernel, by decide +kernel⟩
abbrev s__law_pairs : Stmt := topS 54
theorem sc__law_pairs : FnScope ["names", "found", "k", "other"] ["names"] (defScope s__law_pairs) := ⟨rfl, rfl, rfl, by decide +kernel, rfl, by decide +kernel, by decide +kernel⟩
abbrev s__law_fields : Stmt := topS 55
theorem sc__law_fields : FnScope ["names", "found", "pair", "pairs"] ["names"] (defScope s__law_fields) := ⟨rfl, rfl, rfl, by decide +kernel, rfl, by decide +kernel, by decide +kernel⟩
abbrev s__law_holds : Stmt := topS 56
theorem sc__law_holds : FnScope ["field", "claim"] ["field", "claim"] (defScope s__law_holds) := ⟨rfl, rfl, rfl, by decide +kernel, rfl, by decide +kernel, by decide +kernel⟩
abbrev s__law_claim : Stmt := topS 57
theorem sc__law_claim : FnScope ["m", "field", "one", "other", "is_so"] ["m", "field"] (defScope s__law_claim) := ⟨rfl, rfl, rfl, by decide +kernel, rfl, by decide +kernel, by decide +kernel⟩
abbrev s__law_quarrel : Stmt := topS 58
theorem sc__law_quarrel : FnScope ["held", "total", "layer", "size", "longer", "numbers", "begin", "k", "far"] ["held", "total"] (defScope s__law_quarrel) := ⟨rfl, rfl, rfl, by decide +kernel, rfl, by decide +kernel, by decide +kernel⟩
abbrev s__law_right : Stmt := topS 59
theorem sc__law_right : FnScope ["names", "claims", "every", "held", "due", "words", "pair", "some", "least", "claim", "field", "k", "row"] ["names", "claims"] (defScope s__law_right) := ⟨rfl, rfl, rfl, by decide +kernel, rfl, by decide +kernel, by decide +kernel⟩
abbrev s__law_rises : Stmt := topS 60
theorem sc__law_rises : FnScope ["names", "claim", "some", "field", "pair"] ["names", "claim"] (defScope s__law_rises) := ⟨rfl, rfl, rfl, by decide +kernel, rfl, by decide +kernel, by decide +kernel⟩
abbrev s__law_seven_right : Stmt := topS 61
theorem sc__law_seven_right : FnScope ["names", "claims", "one", "other", "row", "name"] [] (defScope s__law_seven_right) := ⟨rfl, rfl, rfl, by decide +kernel, rfl, by decide +kernel, by decide +kernel⟩
abbrev s_law : Stmt := topS 62
theorem sc_law : FnScope ["script", "m", "turn", "names", "field", "claims", "k"] ["script"] (defScope s_law) := ⟨rfl, rfl, rfl, by decide +kernel, rfl, by decide +kernel, by decide +kernel⟩
structure Tx (K : PySem.W.Frag) (mg : Str → Option Value) : Prop where
  b_OverflowError : mg "OverflowError" = none
  b_ValueError : mg "ValueError" = none
  b_abs : mg "abs" = none
  b_all : mg "all" = none
  b_bool : mg "bool" = none
  b_enumerate : mg "enumerate" = none
  b_int : mg "int" = none
  b_isinstance : mg "isinstance" = none
  b_len : mg "len" = none
  b_list : mg "list" = none
  b_max : mg "max" = none
  b_min : mg "min" = none
  b_range : mg "range" = none
  b_repr : mg "repr" = none
  b_sorted : mg "sorted" = none
  b_str : mg "str" = none
  b_tuple : mg "tuple" = none
  b_zip : mg "zip" = none
  g_MOST_NAMES : ∃ t, mg "MOST_NAMES" = some (.int (6) t)
  g_MOST_LETTERS : ∃ t, mg "MOST_LETTERS" = some (.int (6) t)
  g_MOST_STEPS : ∃ t, mg "MOST_STEPS" = some (.int (60) t)
  g_MOST_TIMES : ∃ t, mg "MOST_TIMES" = some (.int (10 ^ 30) t)
  g_MOST_NAMES_TOLD : ∃ t, mg "MOST_NAMES_TOLD" = some (.int (4) t)
  g_MOST_CLAIMS : ∃ t, mg "MOST_CLAIMS" = some (.int (12) t)
  d_is_whole : Dn K mg "is_whole" s_is_whole
  d_is_pair : Dn K mg "is_pair" s_is_pair
  d_is_ascending : Dn K mg "is_ascending" s_is_ascending
  d_touch_table : Dn K mg "touch_table" s_touch_table
  d_names_touching : Dn K mg "names_touching" s_names_touching
  d_are_apart : Dn K mg "are_apart" s_are_apart
  d_are_names : Dn K mg "are_names" s_are_names
  d_is_name : Dn K mg "is_name" s_is_name
  d_is_script : Dn K mg "is_script" s_is_script
  d_is_great_step : Dn K mg "is_great_step" s_is_great_step
  d_are_great_steps : Dn K mg "are_great_steps" s_are_great_steps
  d_is_times : Dn K mg "is_times" s_is_times
  d_piled : Dn K mg "piled" s_piled
  d_last_touched : Dn K mg "last_touched" s_last_touched
  d_place_behind : Dn K mg "place_behind" s_place_behind
  d_fields_of : Dn K mg "fields_of" s_fields_of
  d_told_pairs : Dn K mg "told_pairs" s_told_pairs
  d_quarrel : Dn K mg "quarrel" s_quarrel
  d_need_names : Dn K mg "need_names" s_need_names
  d_need_claims : Dn K mg "need_claims" s_need_claims
  d_is_claim : Dn K mg "is_claim" s_is_claim
  d_pairs_of : Dn K mg "pairs_of" s_pairs_of
  d_all_fields : Dn K mg "all_fields" s_all_fields
  d_does_hold : Dn K mg "does_hold" s_does_hold
  d_word_of : Dn K mg "word_of" s_word_of
  d_longer_rows : Dn K mg "longer_rows" s_longer_rows
  d__law_mixed : Dn K mg "_law_mixed" s__law_mixed
  d__law_folded : Dn K mg "_law_folded" s__law_folded
  d__law_draw : Dn K mg "_law_draw" s__law_draw
  d__law_begun : Dn K mg "_law_begun" s__law_begun
  d__law_like : Dn K mg "_law_like" s__law_like
  d__law_steps : Dn K mg "_law_steps" s__law_steps
  d__law_apart : Dn K mg "_law_apart" s__law_apart
  d__law_meet : Dn K mg "_law_meet" s__law_meet
  d__law_pile : Dn K mg "_law_pile" s__law_pile
  d__law_firsts : Dn K mg "_law_firsts" s__law_firsts
  d__law_least : Dn K mg "_law_least" s__law_least
  d__law_back : Dn K mg "_law_back" s__law_back
  d__law_pairs : Dn K mg "_law_pairs" s__law_pairs
  d__law_fields : Dn K mg "_law_fields" s__law_fields
  d__law_holds : Dn K mg "_law_holds" s__law_holds
  d__law_claim : Dn K mg "_law_claim" s__law_claim
  d__law_quarrel : Dn K mg "_law_quarrel" s__law_quarrel
  d__law_right : Dn K mg "_law_right" s__law_right
  d__law_rises : Dn K mg "_law_rises" s__law_rises
  d__law_seven_right : Dn K mg "_law_seven_right" s__law_seven_right
  d_law : Dn K mg "law" s_law
end XB
set_option Elab.async false
set_option linter.all false
set_option maxRecDepth 100000
set_option maxHeartbeats 4000000
namespace XB
open PySem PySem.Spec PyProof.Rows L2
section
variable {P : Program} {w : World} {K : PySem.W.Frag} {mg : Str → Option Value} {base : Heap}
def spMixed : Sp := fun vs H Q _ => ∃ c n : Int, vs = [.int c, .int n] ∧ 0 ≤ c ∧ c < 1099511627776 ∧ 0 ≤ n ∧ n < 1099511627776 ∧ ∀ r : Int, 0 ≤ r → r < 1099511627 → Q (.int r) H
theorem c_mixed (T : Tx K mg) : Cl P w K mg base CX0 1 "_law_mixed" spMixed := by
  refine cl0 T.d__law_mixed (ps := ["cell", "n"]) (fun _ _ _ _ _ _ us hl => match us, hl with | [_, _], _ => rfl) sc__law_mixed (fun vs H Q E h => ?_) (fun f cdv A outer s H vs Q E hr h => ?_)
  · obtain ⟨c, n, rfl, _⟩ := h
    rfl
  · obtain ⟨c, n, rfl, c0, c1, n0, n1, q⟩ := h
    have nd := sc__law_mixed.nd
    refine ⟨_, pss_cons (ps_set (i := 2) nd rfl (.inl rfl) (pe_op op_add (pe_op op_add
        (pe_op op_mod (pe_callTy call_int1 (by rfl) T.b_int (by decide +kernel) (pa_cons (pe_op op_mul (pe_op op_mul (pv 0) (pe_op op_add pe_int (pe_op op_mul pe_int (pv 1)))) pe_int) pa_nil)) pe_int)
        (pe_op op_mul (pe_op op_mul pe_int (pv 1)) (pv 1))) (pe_op op_mul pe_int (pv 1))))
      (pss_one (ps_ret (pe_op op_fdiv (pe_op op_mod (pe_callTy call_int1 (by rfl) T.b_int (by decide +kernel) (pa_cons (pe_op op_mul (pv 2) pe_int) pa_nil)) pe_int) pe_int))), ?_⟩
    refine ⟨_, rfl, _, rfl, _, _, rfl, rfl, .inl (by constructor <;> omega), _, _, rfl, rfl, _, _, rfl, rfl, .inl (by constructor <;> omega), ?_⟩
    refine ⟨_, _, rfl, rfl, .inr (by decide), .inl ⟨_, rfl, ?_⟩⟩
    refine ⟨_, _, rfl, rfl, (show (0 : Int) < 2147483647 by decide), ?_⟩
    refine ⟨_, rfl, _, _, rfl, rfl, .inl (by decide), _, rfl, _, _, rfl, rfl, .inl (by constructor <;> omega), ?_⟩
    refine ⟨_, _, rfl, rfl, _, rfl, _, _, rfl, rfl, .inl (by decide), _, _, rfl, rfl, ?_⟩
    refine ⟨_, rfl, _, _, rfl, rfl, .inr (by decide), .inl ⟨_, rfl, ?_⟩⟩
    refine ⟨_, _, rfl, rfl, (show (0 : Int) < 2147483629 by decide), _, _, rfl, rfl, ⟨by decide, by decide⟩, ?_⟩
    refine q _ ?_ ?_
    · exact Int.ediv_nonneg (Int.emod_nonneg _ (by decide)) (by decide)
    · have h1 := Int.emod_lt_of_pos (c * (1 + 2 * n) * 48271 % 2147483647 + 7919 * n * n + 104729 * n) (b := 2147483629) (by decide)
      generalize (c * (1 + 2 * n) * 48271 % 2147483647 + 7919 * n * n + 104729 * n) = z
      have h1 := Int.emod_lt_of_pos (z * 69621) (b := 2147483629) (by decide)
      generalize (z * 69621) % 2147483629 = y at h1 ⊢
      show y / 7 < 1099511627
      omega
/-- what a row of numbers is that draws come from -/
structure Good (xs : List Int) : Prop where
  len : xs.length = 64
  bd : ∀ v ∈ xs, 0 ≤ v ∧ v < 2147483647
theorem Good.set {xs : List Int} (g : Good xs) (k : Nat) (z : Int) : Good (xs.set k (z % 2147483647)) := by
  refine ⟨by rw [List.length_set]; exact g.len, fun v hv => ?_⟩
  rcases List.mem_or_eq_of_mem_set hv with h | h
  · exact g.bd v h
  · rw [h]
    exact ⟨Int.emod_nonneg _ (by decide), Int.emod_lt_of_pos _ (by decide)⟩
theorem Good.at (xs : List Int) (g : Good xs) {k : Nat} (h : k < 64) : ∃ v, xs[k]? = some v ∧ 0 ≤ v ∧ v < 2147483647 := by
  have h' : k < xs.length := by rw [g.len]; exact h
  exact ⟨xs[k], List.getElem?_eq_getElem h', g.bd _ (List.getElem_mem h')⟩
theorem mod_nat {z : Int} : ∃ k : Nat, z % 64 = (k : Int) ∧ k < 64 := by
  have h0 := Int.emod_nonneg z (b := 64) (by decide)
  have h1 := Int.emod_lt_of_pos z (b := 64) (by decide)
  exact ⟨(z % 64).toNat, by omega, by omega⟩
def spFolded (K : PySem.W.Frag) : Sp := fun vs H Q _ => ∃ (a : Addr) (ns : List Int), vs = [.ref a] ∧ SqL K H a (ns.map V.int) ∧ ns.length ≤ 1000 ∧
  ∀ H' p xs, Same H H' → H p = none → H' p = some (.lst (xs.map V.int)) → Good xs → Q (.ref p) H'
theorem c_folded (T : Tx K mg) : Cl P w K mg base CX0 1 "_law_folded" (spFolded K) := by
  refine cl0 T.d__law_folded (ps := ["script"]) (fun _ _ _ _ _ _ us hl => match us, hl with | [_], _ => rfl) sc__law_folded (fun vs H Q E h => ?_) (fun f cdv A outer s H vs Q E hr h => ?_)
  · obtain ⟨a, ns, rfl, _⟩ := h
    rfl
  · obtain ⟨a, ns, rfl, hS, hlen, q⟩ := h
    have nd := sc__law_folded.nd
    refine ⟨_, pss_cons (ps_setLc (i := 1) (own := [("n", 2)]) (g := gName 2) (tt := tYes) rfl nd rfl rfl (sw_true rfl rfl rfl (by decide +kernel)) (pi_range1 (by rfl) T.b_range (pa_cons pe_int pa_nil)) (blkOk_by (own := [("n", 2)]) (N := ["script", "found", "n", "cell"]) (sc := defScope s__law_folded) (by decide +kernel))
          (fun _ _ _ _ _ => pg_name (i := 2) nd rfl (Or.inl rfl)) (fun _ _ _ _ _ => pts_nil) (fun _ _ _ _ _ => pe_op op_add pe_int (pv 2)))
      (pss_cons (ps_for PassesOwn.never rfl (pi_enum (by rfl) T.b_enumerate (pa_cons (pv 0) pa_nil)) (pg_tup rfl (pgs_cons (pg_name (i := 2) nd rfl (.inl rfl)) (pgs_cons (pg_name (i := 3) nd rfl (.inl rfl)) pgs_nil)))
        (pss_one (ps_asg (pe_op op_mod (pe_callTy call_int1 (by rfl) T.b_int (by decide +kernel) (pa_cons (pe_op op_add (pe_op op_mul (pe_ix ix_list (pv 1) (pe_op op_mod (pe_callTy call_int1 (by rfl) T.b_int (by decide +kernel) (pa_cons (pv 2) pa_nil)) pe_int) (fun _ _ => rfl)) pe_int) (pv 3)) pa_nil)) pe_int)
          (pg_sub (pv 1) (pe_op op_mod (pe_callTy call_int1 (by rfl) T.b_int (by decide +kernel) (pa_cons (pv 2) pa_nil)) pe_int) set_list))))
      (pss_cons (ps_for PassesOwn.never rfl (pi_range2 (by rfl) T.b_range (pa_cons pe_int (pa_cons pe_int pa_nil))) (pg_name (i := 2) nd rfl (.inl rfl))
        (pss_one (ps_asg (pe_op op_mod (pe_callTy call_int1 (by rfl) T.b_int (by decide +kernel) (pa_cons (pe_op op_add (pe_ix ix_list (pv 1) (pv 2) (fun _ _ => rfl)) (pe_op op_mul (pe_ix ix_list (pv 1) (pe_op op_sub (pv 2) pe_int) (fun _ _ => rfl)) pe_int)) pa_nil)) pe_int)
          (pg_sub (pv 1) (pv 2) set_list))))
      (pss_one (ps_ret (pv 1))))), ?_⟩
    refine ⟨64, rfl, by decide, by decide, fun D hD => ?_⟩
    refine lc_range (lo := 0) (n := 64) (fun i H' => ∃ acc : List Int, H' D = some (.lst (acc.map V.int)) ∧ acc.length = i ∧ (∀ v ∈ acc, 0 ≤ v ∧ v < 2147483647) ∧ Same H H')
      ⟨[], upd_same, rfl, (fun _ h => nomatch h), same_upd hD⟩ (fun i H' hi ⟨acc, eD, el, eb, sm⟩ => ?_) (fun H' ⟨acc, eD, el, eb, sm⟩ => ?_)
    · refine ⟨rfl, yes_ ?_⟩
      refine ⟨_, rfl, _, _, rfl, rfl, _, eD, by rw [List.length_map]; exact small1000 (by omega), acc ++ [17 + (0 + (i : Int))], ?_, by rw [List.length_append, el]; rfl, fun v hv => ?_, same_put sm hD⟩
      · rw [upd_same, List.map_append]
        rfl
      · rcases List.mem_append.mp hv with h | h
        · exact eb v h
        · rw [List.mem_singleton.mp h]
          omega
    · refine ⟨_, rfl, a, ns.map V.int, rfl, sm.seq hS, for_it (walk_enum (xs := ns.map V.int)) (fun i σ H2 => ∃ (xs : List Int) (y2 y3 : Option V), σ = [some (.ref a), some (.ref D), y2, y3] ∧ Same H H2 ∧ H2 D = some (.lst (xs.map V.int)) ∧ Good xs)
        ⟨acc, none, none, rfl, sm, eD, ⟨el, eb⟩⟩ (fun i σ H2 _ ⟨xs, y2, y3, _, s2, _⟩ => s2.seq hS) (fun i x σ H2 H3 hi ⟨xs, y2, y3, eσ, s2, e2, g⟩ hy => ?_) (fun σ H2 ⟨xs, y2, y3, eσ, s2, e2, g⟩ => ?_)⟩
      · obtain ⟨Tt, x1, x2, rfl, nT, rfl, f1, f2⟩ := hy
        subst eσ
        obtain ⟨k, hk, k64⟩ := mod_nat (z := (i : Int))
        obtain ⟨v, hv, v0, v1⟩ := g.at xs k64
        have e1 : x1 = V.int (i : Int) := (Option.some.inj f1).symm
        obtain ⟨z, _, rfl⟩ := int_at f2
        subst e1
        have nDT : D ≠ Tt := ne_of_none e2 nT
        have e3 : upd H2 Tt (.tup [.int (i : Int), .int z]) D = some (.lst (xs.map V.int)) := by
          rw [upd_ne nDT]
          exact e2
        refine ⟨Tt, _, rfl, SqT.of upd_same, rfl, _, _, rfl, _, _, rfl, rfl, ?_⟩
        refine ⟨_, rfl, _, rfl, .inl ⟨_, rfl, _, _, rfl, rfl, (show (0 : Int) < 64 by decide), _, _, _, _, rfl, rfl, SqL.of e3, atI_of hk hv, ?_⟩⟩
        refine ⟨_, _, rfl, rfl, .inr (by decide), _, rfl, _, _, rfl, rfl, .inl ⟨_, rfl, _, _, rfl, rfl, (show (0 : Int) < 2147483647 by decide), ?_⟩⟩
        refine ⟨_, rfl, _, rfl, .inl ⟨_, rfl, _, _, rfl, rfl, (show (0 : Int) < 64 by decide), _, _, _, k, rfl, rfl, e3, ?_, ?_⟩⟩
        · rw [List.length_map, g.len]
          exact ixN_of hk k64
        · refine ⟨_, _, _, rfl, same_put (same_new s2 nT) hD, by rw [upd_same, map_set], g.set k _⟩
      · subst eσ
        refine ⟨1, 64, rfl, by decide, for_range (lo := 1) (n := 63) (fun i σ H3 => ∃ (xs : List Int) (y2 y3 : Option V), σ = [some (.ref a), some (.ref D), y2, y3] ∧ Same H H3 ∧ H3 D = some (.lst (xs.map V.int)) ∧ Good xs)
          ⟨xs, y2, y3, rfl, s2, e2, g⟩ (fun i σ H3 hi ⟨xs, y2, y3, eσ, s3, e3, g⟩ => ?_) (fun σ H3 ⟨xs, y2, y3, eσ, s3, e3, g⟩ => ?_)⟩
        · subst eσ
          obtain ⟨v, hv, v0, v1⟩ := g.at xs (k := i + 1) (by omega)
          obtain ⟨u, hu, u0, u1⟩ := g.at xs (k := i) (by omega)
          refine ⟨_, rfl, _, rfl, _, _, _, _, rfl, rfl, SqL.of e3, atI_of (k := i + 1) (by omega) hv, ?_⟩
          refine ⟨_, rfl, _, rfl, _, _, rfl, rfl, _, _, _, _, rfl, rfl, SqL.of e3, atI_of (k := i) (by omega) hu, ?_⟩
          refine ⟨_, _, rfl, rfl, .inr (by decide), _, _, rfl, rfl, .inl ⟨_, rfl, _, _, rfl, rfl, (show (0 : Int) < 2147483647 by decide), ?_⟩⟩
          refine ⟨_, rfl, _, rfl, _, _, _, i + 1, rfl, rfl, e3, ?_, ?_⟩
          · rw [List.length_map, g.len]
            exact ixN_of (by omega) (by omega)
          · exact ⟨_, _, _, rfl, same_put s3 hD, by rw [upd_same, map_set], g.set _ _⟩
        · subst eσ
          exact ⟨_, rfl, q _ _ _ s3 hD e3 g⟩
end
end XB
set_option Elab.async false
set_option linter.all false
set_option maxRecDepth 100000
set_option maxHeartbeats 4000000
namespace XB
open PySem PySem.Spec PyProof.Rows L2
/-! ### the draws' state: a dict of two rows and a number -/
abbrev kCells : Key := .inr "cells"
abbrev kGreat : Key := .inr "great"
abbrev kSpot : Key := .inr "spot"
def drawn (c g : Addr) (s : Int) : List (Key × V) := [(kCells, .ref c), (kGreat, .ref g), (kSpot, .int s)]
theorem drawn_spot (c g : Addr) (s : Int) : valV (drawn c g s) kSpot = some (.int s) := by rfl
theorem drawn_great (c g : Addr) (s : Int) : valV (drawn c g s) kGreat = some (.ref g) := by rfl
theorem drawn_cells (c g : Addr) (s : Int) : valV (drawn c g s) kCells = some (.ref c) := by rfl
theorem drawn_put (c g : Addr) (s z : Int) : putK (drawn c g s) kSpot (.int z) = drawn c g z := by rfl
structure Dr (H : Hp) (m c g : Addr) (s : Int) : Prop where
  ex : ∃ cs gs : List Int, H m = some (.dK (drawn c g s)) ∧ H c = some (.lst (cs.map V.int)) ∧ H g = some (.lst (gs.map V.int)) ∧ Good cs ∧ gs.length ≤ 1000
  ne : c ≠ g
  s0 : 0 ≤ s
/-- all but the draws' state stands -/
def Kp (m g : Addr) (H H' : Hp) : Prop := ∀ b o, b ≠ m → b ≠ g → H b = some o → H' b = some o
theorem Kp.refl {m g : Addr} {H : Hp} : Kp m g H H := fun _ _ _ _ e => e
theorem Kp.trans {m g : Addr} {H H1 H2 : Hp} (a : Kp m g H H1) (b : Kp m g H1 H2) : Kp m g H H2 := fun x o h1 h2 e => b x o h1 h2 (a x o h1 h2 e)
theorem Kp.of {m g : Addr} {H H1 : Hp} (a : Same H H1) : Kp m g H H1 := fun x o _ _ e => a x o e
theorem Kp.putM {m g : Addr} {H H1 : Hp} {o : HO} (a : Kp m g H H1) : Kp m g H (upd H1 m o) := fun x u h1 h2 e => by
  rw [upd_ne h1]
  exact a x u h1 h2 e
theorem Kp.putG {m g : Addr} {H H1 : Hp} {o : HO} (a : Kp m g H H1) : Kp m g H (upd H1 g o) := fun x u h1 h2 e => by
  rw [upd_ne h2]
  exact a x u h1 h2 e
theorem Kp.new {m g p : Addr} {H H1 : Hp} {o : HO} (a : Kp m g H H1) (hp : H1 p = none) : Kp m g H (upd H1 p o) := fun x u h1 h2 e => by
  rw [upd_ne (ne_of_none (a x u h1 h2 e) hp)]
  exact a x u h1 h2 e
theorem dpInts {K : PySem.W.Frag} {H : Hp} : ∀ gs : List Int, DpAll K H (gs.map V.int) (gs.map PyData.int)
  | [] => .nil
  | x :: r => .cons (.int x) (dpInts r)
theorem layInts : ∀ gs : List Int, PyData.canLayAll0 (gs.map PyData.int) = true
  | [] => rfl
  | x :: r => by
    show (PyData.canLay0 (.int x) && PyData.canLayAll0 (r.map PyData.int)) = true
    rw [layInts r]
    rfl
theorem deepInts : ∀ gs : List Int, PyData.depthAll (gs.map PyData.int) = 0
  | [] => rfl
  | x :: r => by
    show max (PyData.depth (.int x)) (PyData.depthAll (r.map PyData.int)) = 0
    rw [deepInts r]
    rfl
theorem shInts (gs : List Int) : SeqAt.shaped (.list (gs.map PyData.int)) = true := by
  show (PyData.canLayAll0 (gs.map PyData.int) && decide (PyData.depthAll (gs.map PyData.int) + 1 ≤ 64)) = true
  rw [layInts, deepInts]
  rfl
theorem neInts (gs : List Int) : PyData.eqv (.list (gs.map .int)) (.list []) = gs.isEmpty := by
  cases gs <;> rfl
section
variable {P : Program} {w : World} {K : PySem.W.Frag} {mg : Str → Option Value} {base : Heap}
def spDraw : Sp := fun vs H Q _ => ∃ (m c g : Addr) (s lim : Int), vs = [.ref m, .int lim] ∧ Dr H m c g s ∧ 0 < lim ∧ lim < 1073741824 ∧ s < 1073741824 ∧
  ∀ r H', 0 ≤ r → r < lim → Dr H' m c g (s + 1) → Kp m g H H' → Q (.int r) H'
theorem c_draw (T : Tx K mg) : Cl P w K mg base CX0 2 "_law_draw" spDraw := by
  refine cl0 T.d__law_draw (ps := ["m", "limit"]) (fun _ _ _ _ _ _ us hl => match us, hl with | [_, _], _ => rfl) sc__law_draw (fun vs H Q E h => ?_) (fun f cdv A outer st H vs Q E hr h => ?_)
  · obtain ⟨m, c, g, s, lim, rfl, _⟩ := h
    rfl
  · obtain ⟨m, c, g, s, lim, rfl, D, l0, l1, s1, q⟩ := h
    obtain ⟨⟨cs, gs, em, ec, eg, gc, gl⟩, ncg, s0⟩ := D
    have nd := sc__law_draw.nd
    have hu := hu_of hr
    refine ⟨_, pss_cons (ps_set (i := 2) nd rfl (.inl rfl) (pe_dget hu (pv 0) pe_str (fun _ _ => rfl)))
      (pss_cons (ps_dput hu (pv 0) pe_str (pe_op op_add (pv 2) pe_int) rfl)
      (C8.pss_cut (ps_if (pt_cmpR (op_neD hr.units) (pe_dget hu (pv 0) pe_str (fun _ _ => rfl)) (pe_lst pa_nil) (nomark _))
        (pss_cons (ps_set (i := 3) nd rfl (.inl rfl) (pe_dget hu (pv 0) pe_str (fun _ _ => rfl)))
        (pss_cons (ps_set (i := 4) nd rfl (.inl rfl) (pe_op op_mod (pe_callTy call_int1 (by rfl) T.b_int (by decide +kernel) (pa_cons (pv 2) pa_nil)) (pe_callB call_len_seq (by rfl) T.b_len PySem.boot_len (pa_cons (pv 3) pa_nil))))
        (pss_cons (ps_set (i := 5) nd rfl (.inl rfl) (pe_ix ix_list (pv 3) (pv 4) (fun _ _ => rfl)))
        (pss_one (ps_if (pt_cmpR op_gt (pv 5) pe_int (nomark _))
          (pss_cons (ps_asg (pe_op op_fdivW (pv 5) (pv 1)) (pg_sub (pv 3) (pv 4) set_list))
          (pss_one (ps_ret (pe_op op_mod (pe_callTy call_int1 (by rfl) T.b_int (by decide +kernel) (pa_cons (pv 5) pa_nil)) (pv 1))))) pss_nil)))))
        pss_nil)
      (pss_cons (ps_set (i := 3) nd rfl (.inl rfl) (pe_dget hu (pv 0) pe_str (fun _ _ => rfl)))
      (pss_one (ps_ret (pe_op op_mod (pe_callTy call_int1 (by rfl) T.b_int (by decide +kernel) (pa_cons
        (pe_k (c_mixed T) hr (by decide) (by rfl) (pa_cons
          (pe_k (c_mixed T) hr (by decide) (by rfl) (pa_cons (pe_op op_add (pe_ix ix_list (pv 3) (pe_op op_mod (pe_callTy call_int1 (by rfl) T.b_int (by decide +kernel) (pa_cons (pv 2) pa_nil)) pe_int) (fun _ _ => rfl)) (pe_op op_mul pe_int (pe_op op_fdiv (pv 2) pe_int))) (pa_cons (pv 2) pa_nil)))
          (pa_cons (pe_op op_add (pv 2) pe_int) pa_nil))) pa_nil)) (pv 1))))))), ?_⟩
    have nmc : m ≠ c := ne_of em ec (by intro z; cases z)
    have nmg : m ≠ g := ne_of em eg (by intro z; cases z)
    refine ⟨_, rfl, m, _, rfl, DGet.k (k := kSpot) em, ?_⟩
    refine ⟨_, rfl, _, _, rfl, rfl, _, rfl, m, _, rfl, DPut.k (k := kSpot) em (by show 3 < sizeLine; decide), ?_⟩
    have em1 : upd H m (.dK (putK (drawn c g s) kSpot (.int (s + 1)))) m = some (.dK (drawn c g (s + 1))) := upd_same
    generalize hH1 : upd H m (.dK (putK (drawn c g s) kSpot (.int (s + 1)))) = H1 at em1
    have ec1 : H1 c = some (.lst (cs.map V.int)) := by
      rw [← hH1, upd_ne nmc.symm]
      exact ec
    have eg1 : H1 g = some (.lst (gs.map V.int)) := by
      rw [← hH1, upd_ne nmg.symm]
      exact eg
    have k1 : Kp m g H H1 := by
      rw [← hH1]
      exact Kp.refl.putM
    refine ⟨fun σ H' => ∃ y3 y4 y5, σ = [some (.ref m), some (.int lim), some (.int s), y3, y4, y5] ∧ Dr H' m c g (s + 1) ∧ Kp m g H H', ?_, ?_⟩
    · refine ⟨_, rfl, m, _, rfl, DGet.k (k := kGreat) em1, Nat.zero_le _, fun p hp => ?_⟩
      have em2 := (same_upd (o := .lst []) hp) m _ em1
      have ec2 := (same_upd (o := .lst []) hp) c _ ec1
      have eg2 := (same_upd (o := .lst []) hp) g _ eg1
      have k2 : Kp m g H (upd H1 p (.lst [])) := k1.new hp
      have ep2 : upd H1 p (.lst []) p = some (.lst []) := upd_same
      generalize upd H1 p (.lst []) = H2 at em2 ec2 eg2 k2 ep2 ⊢
      refine ⟨.list (gs.map .int), .list [], .lst (SqL.of eg2) (dpInts gs), .lst (SqL.of ep2) .nil, shInts gs, rfl, _, rfl, ?_⟩
      refine ite2 (fun hne => ?_) (fun _ => ⟨_, _, _, rfl, ⟨⟨cs, gs, em2, ec2, eg2, gc, gl⟩, ncg, by omega⟩, k2⟩)
      have hpos : 0 < gs.length := by
        rw [neInts] at hne
        cases gs with
        | nil => exact absurd hne (by decide)
        | cons _ _ => exact Nat.succ_pos _
      refine ⟨_, rfl, m, _, rfl, DGet.k (k := kGreat) em2, ?_⟩
      refine ⟨_, rfl, .inl ⟨_, rfl, _, rfl, g, _, rfl, .inl (SqL.of eg2), _, _, rfl, rfl, ?_, ?_⟩⟩
      · show (0 : Int) < ((gs.map V.int).length : Int)
        rw [List.length_map]
        omega
      have h0 := Int.emod_nonneg s (b := ((gs.map V.int).length : Int)) (by rw [List.length_map]; omega)
      have h1 := Int.emod_lt_of_pos s (b := ((gs.map V.int).length : Int)) (by rw [List.length_map]; omega)
      rw [List.length_map] at h0 h1
      obtain ⟨k, hk⟩ : ∃ k : Nat, s % (gs.length : Int) = (k : Int) := ⟨(s % (gs.length : Int)).toNat, by omega⟩
      have hkl : k < gs.length := by omega
      have hk' : s % ((gs.map V.int).length : Int) = (k : Int) := by
        rw [List.length_map]
        exact hk
      refine ⟨_, rfl, _, rfl, _, _, _, _, rfl, rfl, SqL.of eg2, atI_of hk' (List.getElem?_eq_getElem hkl), ?_⟩
      refine ⟨_, rfl, _, _, rfl, rfl, _, rfl, ?_⟩
      refine ite2 (fun hp => ?_) (fun _ => ⟨_, _, _, rfl, ⟨⟨cs, gs, em2, ec2, eg2, gc, gl⟩, ncg, by omega⟩, k2⟩)
      refine ⟨_, rfl, _, rfl, _, _, rfl, rfl, wide_div l0 (b := 31) (by omega) (by decide) (by decide), ?_⟩
      refine ⟨_, rfl, _, rfl, _, _, _, k, rfl, rfl, eg2, ixN_of hk' (by rw [List.length_map]; exact hkl), ?_⟩
      refine ⟨_, rfl, .inl ⟨_, rfl, _, rfl, _, _, rfl, rfl, l0, ?_⟩⟩
      refine q _ _ (Int.emod_nonneg _ (by omega)) (Int.emod_lt_of_pos _ l0) ⟨⟨cs, _, ?_, ?_, by rw [upd_same, map_set], gc, by rw [List.length_set]; exact gl⟩, ncg, by omega⟩ k2.putG
      · rw [upd_ne nmg]
        exact em2
      · rw [upd_ne ncg]
        exact ec2
    · rintro σ H3 ⟨y3, y4, y5, rfl, ⟨⟨cs, gs, em3, ec3, eg3, gc3, gl3⟩, _, _⟩, k3⟩
      obtain ⟨k, hk, k64⟩ := mod_nat (z := s)
      obtain ⟨v, hv, v0, v1⟩ := gc3.at cs k64
      refine ⟨_, rfl, m, _, rfl, DGet.k (k := kCells) em3, ?_⟩
      refine ⟨_, rfl, _, rfl, .inl ⟨_, rfl, _, _, rfl, rfl, (show (0 : Int) < 64 by decide), _, _, _, _, rfl, rfl, SqL.of ec3, atI_of hk hv, ?_⟩⟩
      refine ⟨_, rfl, _, _, rfl, rfl, ⟨by decide, by decide⟩, _, _, rfl, rfl, .inl (by decide), _, _, rfl, rfl, ?_⟩
      refine ⟨_, rfl, _, _, rfl, by omega, by omega, s0, by omega, fun r1 a0 a1 => ?_⟩
      refine ⟨_, rfl, _, _, rfl, rfl, _, _, rfl, a0, by omega, by omega, by omega, fun r2 b0 b1 => ?_⟩
      refine .inl ⟨_, rfl, _, rfl, _, _, rfl, rfl, l0, ?_⟩
      exact q _ _ (Int.emod_nonneg _ (by omega)) (Int.emod_lt_of_pos _ l0) ⟨⟨cs, gs, em3, ec3, eg3, gc3, gl3⟩, ncg, by omega⟩ k3
end
end XB
set_option Elab.async false
set_option linter.all false
set_option maxRecDepth 100000
set_option maxHeartbeats 4000000
namespace XB
open PySem PySem.Spec PyProof.Rows L2
section
variable {P : Program} {w : World} {K : PySem.W.Frag} {mg : Str → Option Value} {base : Heap}
def spBegun (K : PySem.W.Frag) : Sp := fun vs H Q _ => ∃ (a : Addr) (ns : List Int), vs = [.ref a] ∧ SqL K H a (ns.map V.int) ∧ ns.length ≤ 1000 ∧
  ∀ H' m c g, Same H H' → H m = none → H c = none → H g = none → Dr H' m c g 0 → Q (.ref m) H'
theorem c_begun (T : Tx K mg) : Cl P w K mg base CX0 2 "_law_begun" (spBegun K) := by
  refine cl0 T.d__law_begun (ps := ["script"]) (fun _ _ _ _ _ _ us hl => match us, hl with | [_], _ => rfl) sc__law_begun (fun vs H Q E h => ?_) (fun f cdv A outer st H vs Q E hr h => ?_)
  · obtain ⟨a, ns, rfl, _⟩ := h
    rfl
  · obtain ⟨a, ns, rfl, hS, hlen, q⟩ := h
    have nd := sc__law_begun.nd
    have hu := hu_of hr
    refine ⟨_, pss_cons (ps_set (i := 1) nd rfl (.inl rfl) (pe_disp (pps_cons pe_str (pe_k (c_folded T) hr (by decide) (by rfl) (pa_cons (pv 0) pa_nil)) (pps_cons pe_str (pe_lst pa_nil) (pps_cons pe_str pe_int pps_nil))) (by rfl) (by rfl) (fun z => by cases z) (by decide)))
      (pss_cons (ps_dput hu (pv 1) pe_str (pe_lc (own := [("cell", 2)]) (g := gName 2) (tt := tYes) (by rfl) nd (pi_list (pv 0)) (blkOk_by (own := [("cell", 2)]) (N := ["script", "m", "cell"]) (sc := defScope s__law_begun) (by decide +kernel))
          (fun _ _ _ _ _ => pg_name (i := 2) nd rfl (Or.inl rfl)) (fun _ _ _ _ _ => pts_nil) (fun _ _ _ _ _ => pe_ifExp (pt_cmpR op_ge (pv 2) (pe_op op_pow pe_int pe_int) (nomark _)) (pv 2) pe_int)) rfl)
      (pss_one (ps_ret (pv 1)))), ?_⟩
    refine fun m hm => ?_
    have s1 : Same H (upd H m (.dK [])) := same_upd hm
    refine ⟨_, rfl, a, ns, rfl, s1.seq hS, hlen, fun H1 c cs sm nc ec gc => ?_⟩
    have hc0 : H c = none := s1.free nc
    have nmc : m ≠ c := fun e => by
      rw [← e, upd_same] at nc
      cases nc
    have em1 : H1 m = some (.dK []) := sm _ _ upd_same
    refine ⟨Nat.zero_le _, fun g0 hg0 => ?_⟩
    have em2 : upd H1 g0 (.lst []) m = some (.dK []) := (same_upd (o := .lst []) hg0) _ _ em1
    have ec2 : upd H1 g0 (.lst []) c = some (.lst (cs.map V.int)) := (same_upd (o := .lst []) hg0) _ _ ec
    have s2 : Same H (upd H1 g0 (.lst [])) := (s1.trans sm).trans (same_upd hg0)
    generalize upd H1 g0 (.lst []) = H2 at em2 ec2 s2 ⊢
    refine ⟨em2, [(kCells, .ref c), (kGreat, .ref g0), (kSpot, .int 0)], rfl, by show 3 ≤ 15; decide, ?_⟩
    have em3 : upd H2 m (.dK (mergeK [] [(kCells, .ref c), (kGreat, .ref g0), (kSpot, .int 0)])) m = some (.dK (drawn c g0 0)) := by
      rw [upd_same]
      rfl
    have ec3 : upd H2 m (.dK (mergeK [] [(kCells, .ref c), (kGreat, .ref g0), (kSpot, .int 0)])) c = some (.lst (cs.map V.int)) := by
      rw [upd_ne nmc.symm]
      exact ec2
    have s3 : Same H (upd H2 m (.dK (mergeK [] [(kCells, .ref c), (kGreat, .ref g0), (kSpot, .int 0)]))) := same_put s2 hm
    generalize upd H2 m (.dK (mergeK [] [(kCells, .ref c), (kGreat, .ref g0), (kSpot, .int 0)])) = H3 at em3 ec3 s3 ⊢
    refine ⟨_, rfl, a, rfl, ⟨_, s3.seq hS⟩, fun g hg => ?_⟩
    have hgH : H g = none := s3.free hg
    refine lc_list (K := K) (a := a) (xs := ns.map V.int) (fun i H' => ∃ acc : List Int, H' g = some (.lst (acc.map V.int)) ∧ acc.length = i ∧ Same H H' ∧ H' m = some (.dK (drawn c g0 0)) ∧ H' c = some (.lst (cs.map V.int)))
      ⟨[], upd_same, rfl, same_new s3 hg, (same_upd hg) _ _ em3, (same_upd hg) _ _ ec3⟩ (fun i H' _ ⟨_, _, _, s', _⟩ => s'.seq hS) (fun i x H' hi ⟨acc, eg, el, s', em', ec'⟩ => ?_) (fun H' ⟨acc, eg, el, s', em', ec'⟩ => ?_)
    · obtain ⟨z, hz, rfl⟩ := int_at hi
      have hil : i < ns.length := (List.getElem?_eq_some_iff.mp hz).1
      have nmg : m ≠ g := ne_of em' eg (by intro z; cases z)
      have ncg : c ≠ g := fun e => by
        rw [← e, ec3] at hg
        cases hg
      refine ⟨rfl, yes_ ?_⟩
      refine ⟨_, rfl, _, _, rfl, rfl, ⟨by decide, by decide, by decide⟩, _, _, rfl, rfl, _, rfl, ?_⟩
      have fin : ∀ y : Int, ∃ acc_1, H' g = some (.lst acc_1) ∧ acc_1.length < sizeLine ∧ ∃ acc2 : List Int, upd H' g (.lst (acc_1 ++ [V.int y])) g = some (.lst (acc2.map V.int)) ∧ acc2.length = i + 1 ∧ Same H (upd H' g (.lst (acc_1 ++ [V.int y]))) ∧
          upd H' g (.lst (acc_1 ++ [V.int y])) m = some (.dK (drawn c g0 0)) ∧ upd H' g (.lst (acc_1 ++ [V.int y])) c = some (.lst (cs.map V.int)) := fun y => by
        refine ⟨_, eg, by rw [List.length_map, el]; exact small1000 (by omega), acc ++ [y], ?_, by rw [List.length_append, el]; rfl, same_put s' hgH, ?_, ?_⟩
        · rw [upd_same, List.map_append]
          rfl
        · rw [upd_ne nmg]
          exact em'
        · rw [upd_ne ncg]
          exact ec'
      refine ite2 (fun _ => ?_) (fun _ => ?_)
      · exact ⟨_, rfl, fin z⟩
      · exact fin 0
    · have nmg : m ≠ g := ne_of em' eg (by intro z; cases z)
      have ncg : c ≠ g := fun e => by
        rw [← e, ec3] at hg
        cases hg
      refine ⟨_, rfl, m, _, rfl, DPut.k (k := kGreat) em' (by show 3 < sizeLine; decide), _, rfl, ?_⟩
      refine q _ m c g (same_put s' hm) hm hc0 hgH ⟨⟨cs, acc, ?_, ?_, ?_, gc, ?_⟩, ncg, Int.le_refl _⟩
      · rw [upd_same]
        rfl
      · rw [upd_ne nmc.symm]
        exact ec'
      · rw [upd_ne nmg.symm]
        exact eg
      · rw [el, List.length_map]
        exact hlen
end
end XB
set_option Elab.async false
set_option linter.all false
set_option maxRecDepth 100000
set_option maxHeartbeats 4000000
/-! promises of defs that may ask for repr: no repr runs around them -/
namespace XB
open PySem PySem.Spec PyProof.Rows L2
section
variable {P : Program} {w : World} {K : PySem.W.Frag} {mg : Str → Option Value} {base : Heap} {CX : CXT}
/-- a promise that is kept where no repr runs around -/
structure FnG (P : Program) (w : World) (K : PySem.W.Frag) (mg : Str → Option Value) (base : Heap) (CX : CXT) (lev : Nat) (at_ : Addr) (fdat : FuncData) (pars : List Str) (sp : Sp) : Prop where
  many : ∀ vs H Q E, sp vs H Q E → vs.length = pars.length
  goes : ∀ {A : Around} {outer : List Env} {s : Shared} {H : Hp} {args : Args} {us : List Value} {vs : List V} {Q : VK} {E : XK}, A.guards = some [] → Room lev A → Env0 P w K mg base A outer s H →
    BindsTo s fdat args (pars.zip us) → Vals vs us → sp vs H Q E → codeAny (model P w) A (.call (.ref at_) args) (CR CX outer P w H s Q E) s
theorem FnOk.toG {k : Nat} {f : Addr} {fd : FuncData} {ps : List Str} {sp : Sp} (F : FnOk P w K mg base CX k f fd ps sp) : FnG P w K mg base CX k f fd ps sp :=
  ⟨F.len, fun _ hr e0 hb r h => F.run _ _ _ _ _ _ _ _ _ hr e0 hb r h⟩
theorem FnG.mono {j k : Nat} {f : Addr} {fd : FuncData} {ps : List Str} {sp : Sp} (F : FnG P w K mg base CX j f fd ps sp) (h : j ≤ k) : FnG P w K mg base CX k f fd ps sp :=
  ⟨F.many, fun hg hr => F.goes hg (hr.mono h)⟩
/-- the def's body, where no repr runs around -/
theorem fng_of {k : Nat} {f : Addr} {nm ql : Str} {pars : Arguments} {bd : List Stmt} {sc : Scope} {d1 d2 d3 d4 cdv d5 d6 : Value} {o1 o2 : Option Addr} {osl : Array (Option Value)} {N ps : List Str} {sp : Sp}
    (lk : K.lookup f = some ⟨d6, o2, .func (PySem.W.fnOf nm ql pars bd sc d1 d2 d3 d4 o1 cdv d5), osl⟩) (hcd : PySem.W.codeIn K cdv ql = true) (S : FnScope N ps sc) (len : ∀ vs H Q E, sp vs H Q E → vs.length = ps.length)
    (hbody : ∀ (A : Around) (outer : List Env) (s : Shared) (H : Hp) (vs : List V) (Q : VK) (E : XK), A.guards = some [] → Room k (A.deeper (envOfC ql sc s.heap.objs.size f cdv)) → sp vs H Q E →
      ∃ t, PSs (cxOf CX P w K mg base N ql sc f cdv A outer s H E) bd t ∧ t { nx := fun _ H' => Q .non H', rt := Q } (start N vs) H) :
    FnG P w K mg base CX (k + 1) f (PySem.W.fnOf nm ql pars bd sc d1 d2 d3 d4 o1 cdv d5) ps sp := by
  constructor
  · exact len
  · intro A outer s H args us vs Q E hgu hr e0 hbd rel hsp
    have stays : ∀ b o, base.get? b = some o → s.heap.get? b = some o := fun b o e => (e0.bs b o e).1
    have KX : K.In s.heap := e0.mod.kin.keeps stays
    have kinds : ∀ y ∈ ps.zip us, sc.names.lookup y.1 = some .local ∨ (sc.names.lookup y.1 = some .cell ∧ ((cellsFrom (s.heap.objs.size + 1) sc.names []).lookup y.1).isSome = true) := by
      rintro ⟨x, v⟩ hy
      exact (S.par x (List.of_mem_zip hy).1).imp id fun q => ⟨q, PySem.W.cellsFrom_some _ _ _ (.inl q)⟩
    refine codeAny_call_function hr.depth (KX _ _ lk) rfl S.co S.gen rfl (PySem.W.codeRec_of KX hcd) (hbd _ _ _ _ ?_)
    refine wpAny_newFunctionEnv_cells S.kind kinds (fun env he s1 x => ?_)
    cases he
    refine ⟨(e0.mod.nolimit.keeps stays).keeps x.toInCall.keep, codeAny_func ?_⟩
    obtain ⟨t, ht, hq⟩ := hbody A outer s H vs Q E hgu (hr.deeper _) hsp
    have I := inv_start (CX := CX) (mg := mg) (base := base) (P := P) (w := w) (E := E) (cd := cdv) (f := f) (qual := ql) S hr.hd e0 (len _ _ _ _ hsp) rel x
    refine wpAny_mono (ht.run [] s1 _ H _ I hq) ?_ (fun _ _ z => z)
    rintro fl s' hs
    rcases fl with u | _ | _ | _ <;> first
      | (obtain ⟨v, σ', H', J, rv, q⟩ := hs; exact ⟨v, H', J.os, J.bare, J.base, J.hok, rv, q⟩)
      | (obtain ⟨σ', H', J, q⟩ := hs; first | exact ⟨V.non, H', J.os, J.bare, J.base, J.hok, rfl, q⟩ | exact False.elim q)
/-- a def that asks for repr, by its name -/
structure Cg (P : Program) (w : World) (K : PySem.W.Frag) (mg : Str → Option Value) (base : Heap) (CX : CXT) (k : Nat) (x : Str) (sp : Sp) : Prop where
  ex : ∃ (f : Addr) (fd : FuncData) (ps : List Str), FnG P w K mg base CX k f fd ps sp ∧ mg x = some (.ref f) ∧ PySem.W.keepIn K (.ref f) = true ∧ Binds K fd ps []
theorem Cl.toG {k : Nat} {x : Str} {sp : Sp} (c : Cl P w K mg base CX k x sp) : Cg P w K mg base CX k x sp := by
  obtain ⟨f, fd, ps, F, r⟩ := c.ex
  exact ⟨f, fd, ps, FnOk.toG F, r⟩
theorem cg0 {x : Str} {st : Stmt} {N ps : List Str} {k : Nat} {sp : Sp} (D : Dn K mg x st)
    (hb : ∀ (kV doc pm : Value) (an : Option Addr) (cdv ct : Value) (us : List Value), us.length = ps.length → bindArgs (PySem.W.fnOf x x (defArgs st) (defBody st) (defScope st) .none kV doc pm an cdv ct) ⟨us, []⟩ = pure (ps.zip us))
    (S : FnScope N ps (defScope st)) (len : ∀ vs H Q E, sp vs H Q E → vs.length = ps.length)
    (hbody : ∀ (f : Addr) (cdv : Value) (A : Around) (outer : List Env) (s : Shared) (H : Hp) (vs : List V) (Q : VK) (E : XK), (A.deeper (envOfC x (defScope st) s.heap.objs.size f cdv)).guards = some [] → Room k (A.deeper (envOfC x (defScope st) s.heap.objs.size f cdv)) → sp vs H Q E →
      ∃ t, PSs (cxOf CX0 P w K mg base N x (defScope st) f cdv A outer s H E).nox (defBody st) t ∧ t { nx := fun _ H' => Q .non H', rt := Q } (start N vs) H) : Cg P w K mg base CX0 (k + 1) x sp := by
  obtain ⟨f, fd, F, hm⟩ := D.ex
  obtain ⟨oc, od, kV, doc, pm, an, cdv, ct, osl, rfl, lk, hcd⟩ := id F.ex
  refine ⟨f, _, ps, fng_of lk hcd S len (fun A outer s H vs Q E hg hr h => ?_), hm, F.kp, F.binds hb⟩
  obtain ⟨t, ht, q⟩ := hbody f cdv A outer s H vs Q E hg hr h
  exact ⟨t, ht.nox, q⟩
end
section
variable {X : Cx} {k j : Nat} {x : Str} {sp : Sp} {p pos : Pos} {e : Expr} {es : List Expr} {t : TA}
theorem pe_g (c : Cg X.prog X.w X.K X.mg X.base CX0 k x sp) (hgu : X.A.guards = some []) (hr : Room j X.A) (hk : k ≤ j) (hg : Gl X x) (ha : PA X (e :: es) t)
    (hdb : (x == ("__debug__" : Str)) = false := by decide) (he : starEach (e :: es) X.env = (false, eval e X.env) :: starEach es X.env := by rfl) (hpl : (backTo pos (starEach es X.env)).any (·.1) = false := by rfl) :
    PE X (.Call (.Name x p) (e :: es) [] pos) (tCall sp [] E0 t) := by
  obtain ⟨f, fd, ps, F, hm, kp, b⟩ := c.ex
  constructor
  intro pins s σ H Q I h
  refine wpAny_Call_Name_kw (ld_glob I hg hm ?_ hdb)
  refine PySem.W.callWith_K (h₀ := X.base) I.ok.mod.kin kp (thn (ha.run pos pins s σ H _ I h) ?_) he hpl
  rintro us s1 ⟨vs, H1, I1, r, q⟩
  have q' : sp vs H1 Q E0 := by
    rw [List.append_nil] at q
    exact q
  have hl : us.length = ps.length := by
    rw [← r.length]
    exact F.many _ _ _ _ q'
  have bb := b s1 us I1.kIn (by rw [List.append_nil]; exact hl)
  rw [List.append_nil] at bb
  refine ⟨I1.kIn, wpAny_call (codeAny_mono (F.goes (outer := X.stack) (Q := Q) (E := E0) hgu (hr.mono hk) I1.env0 bb r q') ?_)⟩
  rintro (er | fl) s' hq
  · exact hq.elim
  · rcases fl with u | _ | _ | _ <;> first
      | exact I1.after hq
      | exact False.elim hq
/-- repr of data -/
theorem call_reprD (hgu : X.A.guards = some []) (hu : X.A.units + 70 < cLine) : CallR X (.builtin "repr") (fun xs H Q => ∃ x d, xs = [x] ∧ Dp X.K H x d ∧ d.showable = true ∧ d.hasDict = false ∧ d.depth ≤ 64 ∧ d.shown.length ≤ sizeLine ∧ Q (.str d.shown) H) := by
  intro pins s σ H xs us Q I r h
  obtain ⟨x, d, rfl, hd, hs, hnd, hdp, hz, q⟩ := h
  cases r with
  | cons rx rr =>
    cases rr
    obtain ⟨as, hr⟩ := Dp.reads I d x _ hd rx
    cases hr with
    | none => exact PySem.P.repr_of_none ⟨.str _, H, I.tok _, ⟨_, rfl⟩, q⟩
    | bool b => exact PySem.P.repr_of_bool ⟨.str _, H, I.tok _, ⟨_, rfl⟩, q⟩
    | int i t => exact PySem.P.repr_of_int (of_decide_eq_true hs) ⟨.str _, H, I.tok _, ⟨_, rfl⟩, q⟩
    | str z t => exact PySem.P.repr_of_str ⟨.str _, H, I.tok _, ⟨_, rfl⟩, q⟩ hz
    | list h1 h2 h3 h4 => exact repr_of_reads' (.list h1 h2 h3 h4) hs (fun z => by rw [hnd] at z; cases z) hgu (by omega) (fun _ _ e => e) (fun h' u tk k => ⟨.str _, H, I.kept k, ⟨_, rfl⟩, q⟩) hz
    | tuple h1 h2 h3 h4 => exact repr_of_reads' (.tuple h1 h2 h3 h4) hs (fun z => by rw [hnd] at z; cases z) hgu (by omega) (fun _ _ e => e) (fun h' u tk k => ⟨.str _, H, I.kept k, ⟨_, rfl⟩, q⟩) hz
    | dict h1 h2 h3 h4 h5 => cases hnd
end
end XB
set_option Elab.async false
set_option linter.all false
set_option maxRecDepth 100000
set_option maxHeartbeats 4000000
/-! further rules: enumerate of a tuple, min and max of two texts, the order of pairs of texts -/
namespace PySem
open Sem (wp)
open AutoSeq1 (wpAny_loadPart')
theorem XBmeets_enumT (l : Addr) (items : Array Value) :
    Meets (Builtin.«enumerate.__new__» ⟨[.type "enumerate", .ref l], []⟩) (fun _ R s => s.heap.IsTuple l items ∧
      R (.ok (.ret (.ref (s.heap.push { cls := .type "tuple_iterator", data := .fields #[.ref l, .int 0 0] }).objs.size)))
        { s with heap := (s.heap.push { cls := .type "tuple_iterator", data := .fields #[.ref l, .int 0 0] }).push { cls := .type "enumerate", data := .fields #[.none, .bool false, .ref s.heap.objs.size, rawInt 0, .none, .none] } }) :=
  .of_wp fun prog w A R s ⟨hT, hR⟩ => by
    obtain ⟨hp, gg, dd, tk, os⟩ := s
    have subE := sub_enumerate
    have hT' : Heap.IsTuple (Shared.heap ⟨hp, gg, dd, tk, os⟩) l items := hT
    have it_ : ∀ {A' : Around} {E : Value → Shared → Prop} {Q : Value → Shared → Prop}, Q (.ref hp.objs.size) ⟨hp.push { cls := .type "tuple_iterator", data := .fields #[.ref l, .int 0 0] }, gg, dd, tk, os⟩ → wpAny (model prog w) A' (pyIter (.ref l)) Q E ⟨hp, gg, dd, tk, os⟩ :=
      fun q => wpAny_pyIter_tuple hT' q
    wp_walk using it_
    refine wpAny_stack_any fun st => wpAny_pure ?_
    split
    · rename_i c _ _ _ _ _
      cases (c == Value.type "enumerate") <;> (wp_walk using it_; exact ⟨_, rfl, hR⟩)
    · wp_walk using it_
      exact ⟨_, rfl, hR⟩
section
variable {prog : Program} {w : World} {A : Around} {E : Value → Shared → Prop} {s : Shared}
theorem XBcall_enumT {l : Addr} {items : Array Value} {Q : Value → Shared → Prop} (hT : s.heap.IsTuple l items)
    (h : ∀ h', IsEnum h' (s.heap.objs.size + 1) s.heap.objs.size 0 .none → h'.IsTupleIter s.heap.objs.size l 0 → (∀ b o, s.heap.get? b = some o → h'.get? b = some o) → Q (.ref (s.heap.objs.size + 1)) { s with heap := h' }) :
    wpAny (model prog w) A (call (.type "enumerate") [.ref l]) Q E s := by
  refine callType_new F.called_enumerate (by decide) (F.typeCall_enumerate_1 _) (F.newCall_enumerate_1 _) (fun obj => F.args_object_init_2 obj _) F.entry_enumerate_new (XBmeets_enumT l items) ⟨hT, ?_⟩
  have hz : (s.heap.push { cls := .type "tuple_iterator", data := .fields #[.ref l, .int 0 0] }).objs.size = s.heap.objs.size + 1 := Heap.size_push ..
  show _ ∧ _
  rw [hz]
  have he := Heap.get?_push_size (s.heap.push { cls := .type "tuple_iterator", data := .fields #[.ref l, .int 0 0] }) (o := { cls := .type "enumerate", data := .fields #[.none, .bool false, .ref s.heap.objs.size, rawInt 0, .none, .none] }) rfl
  rw [hz] at he
  exact ⟨⟨_, he, rfl⟩, h _ he ⟨_, Heap.get?_push_of_some _ (Heap.get?_push_size _ rfl), rfl, rfl⟩ fun b o x => Heap.get?_push_of_some _ (Heap.get?_push_of_some _ x)⟩
end
end PySem
namespace XB
open PySem PySem.Spec PyProof.Rows L2
/-- the tuple at a, each item in a new pair with its number -/
def IeT (K : PySem.W.Frag) (a : Addr) : It where
  go := fun i H => ∃ (xs : List V) (x : V), SqT K H a xs ∧ xs[i]? = some x
  yld := fun i H v H' => ∃ T x, v = .ref T ∧ H T = none ∧ H' = upd H T (.tup [.int (i : Nat), x]) ∧ ∀ xs, SqT K H a xs → xs[i]? = some x
  stop := fun i H => ∃ xs : List V, SqT K H a xs ∧ xs.length = i
theorem turn_IeT {P : Program} {w : World} {K : PySem.W.Frag} {elts : List Expr} {kk : Nat} {tpos : Pos} (a e it : Addr) :
    Turn P w K (.Tuple elts kk tpos) (IeT K a) [e, it] e (fun i h => (∃ old, IsEnum h e it ((i : Nat) : Int) old) ∧ h.IsTupleIter it a i ∧ e ≠ it ∧ a ≠ it ∧ a ≠ e) where
  mem := List.mem_cons_self
  obj := fun i h st b hb => by
    obtain ⟨⟨old, he⟩, ⟨o, ho, hc, hd⟩, _⟩ := st
    rcases List.mem_cons.mp hb with rfl | hb
    · exact ⟨_, he, fun v q => nomatch q⟩
    · rw [List.mem_singleton.mp hb]
      exact ⟨o, ho, fun v q => by rw [hd] at q; cases q⟩
  keep := fun i h h' ⟨⟨old, he⟩, hi, r⟩ k => ⟨⟨old, k e List.mem_cons_self _ he⟩, hi.at fun o q => k it (by simp) o q, r⟩
  item := by
    intro X hP hw hK hc i pins s σ H E I hf st hg
    subst hP hw hK
    obtain ⟨⟨old, he⟩, hit, hne, nai, nae⟩ := st
    obtain ⟨xs, x, hq, hx⟩ := hg
    obtain ⟨its, rv, p, hz⟩ := I.tuple hq
    obtain ⟨u, hu, ru⟩ := rv.get hx
    have hel : e < s.heap.objs.size := Heap.lt_size he
    have hil : it < s.heap.objs.size := by
      obtain ⟨_, q, _⟩ := hit
      exact Heap.lt_size q
    have hlen : i < its.toArray.size := by
      rw [List.size_toArray]
      exact (List.getElem?_eq_some_iff.mp hu).1
    refine wpAny_pyNext_enum_itemD (Draws.tuple (prog := X.prog) (w := X.w) (A := X.A.in1) (I.ok.hd hc) it a nai its.toArray) he ⟨hit, p⟩ hlen hne (by simp [hne]; exact fun z => nae z.symm) fun v h' tk hv ho hs hT hsz hk => ?_
    have hv' : v = u := by
      rw [List.getElem?_toArray, hu] at hv
      exact (Option.some.inj hv).symm
    subst hv'
    refine ⟨_, rfl, wpAny_letOwnedTupleGo_enum (s := { s with heap := h', toks := tk + 1 }) ho fun h'' he' sb => ?_⟩
    have hT2 : h''.get? s.heap.objs.size = some { cls := .type "tuple", data := .seq #[.int i tk, v] } := (sb.2 _ (Nat.ne_of_gt hel)).trans hT
    have new : ObjOk X.prog X.w (upd H s.heap.objs.size (.tup [.int (i : Nat), x])) h'' s.heap.objs.size (.tup [.int (i : Nat), x]) :=
      ⟨by show 2 ≤ sizeLine; decide, [.int i tk, v], .cons ⟨_, rfl⟩ (.cons ru .nil), ⟨_, hT2, rfl, _, rfl⟩⟩
    have I1 := I.turnedNew (t' := tk + 1) (ch := [e, it]) (fun b ob hb q => (sb.2 b (fun z => hb (by simp [z]))).trans (hk b ob (fun z => hb (by simp [z])) (fun z => hb (by simp [z])) q)) hf (Nat.le_refl _) new
    refine ⟨.ref s.heap.objs.size, _, I1, rfl, ⟨_, x, rfl, I.hok.fresh (Nat.le_refl _), rfl, fun ys hy => by rw [I.tuple_inj hy hq]; exact hx⟩, ⟨⟨v, ?_⟩, hs.1.at fun o q => (sb.2 it (Ne.symm hne)).trans q, hne, nai, nae⟩, fun b hb => ?_⟩
    · rw [show ((i + 1 : Nat) : Int) = (i : Int) + 1 by omega]
      exact he'
    · have hb' : b < s.heap.objs.size := by
        rcases List.mem_cons.mp hb with rfl | z
        · exact hel
        · rw [List.mem_singleton.mp z]
          exact hil
      rw [upd_ne (Nat.ne_of_lt hb')]
      exact (hf b hb).1
  done := by
    intro X hP hw hK hc i pins s σ H E I hf st hg
    subst hP hw hK
    obtain ⟨⟨old, he⟩, hit, hne, nai, nae⟩ := st
    obtain ⟨xs, hq, hx⟩ := hg
    obtain ⟨its, rv, p, hz⟩ := I.tuple hq
    obtain ⟨f0, f1, f2, f3, f4, f5⟩ := hf it (by simp)
    have hsz : its.toArray.size = i := by
      rw [List.size_toArray, ← rv.length]
      exact hx
    refine wpAny_pyNext_enum_endD (Draws.tuple (prog := X.prog) (w := X.w) (A := X.A.in1) (I.ok.hd hc) it a nai its.toArray) he (by rw [hsz]; exact ⟨hit, p⟩) fun h' eb => ⟨rfl, I.turned (t' := s.toks) (fun b o hb q => eb b o hb q) f0 f1 f3 f4 f5⟩
  self := fun A i s Q E st h => let ⟨⟨_, he⟩, _⟩ := st; wpAny_pyIter_enum he h
def iEnT (K : PySem.W.Frag) (ta : TA) : TI := fun σ H R => ta σ H fun vs H1 => ∃ a xs, vs = [.ref a] ∧ SqT K H1 a xs ∧ R (IeT K a) H1
/-- enumerate(t), t a tuple, to a target of several names -/
theorem pi_enumT {X : Cx} {e : Expr} {ta : TA} {p pos tpos : Pos} {elts : List Expr} {kk : Nat} (hg : Gl X "enumerate") (hm : X.mg "enumerate" = none) (ha : PA X [e] ta) (hs : starEach [e] X.env = [(false, eval e X.env)] := by rfl) :
    PI X (.Tuple elts kk tpos) (.Call (.Name "enumerate" p) [e] [] pos) (iEnT X.K ta) := by
  constructor
  intro pins s σ H R I h
  refine Call_ (ld_blt I hg hm boot_enumerate (PyProof.Rows.callWith_type1 (thn (ha.run pos pins s σ H _ I h) ?_) hs rfl))
  rintro us s1 ⟨vs, H1, I1, r1, a, xs, rfl, hq, q⟩
  cases r1 with
  | cons r rr =>
    cases rr
    cases r
    obtain ⟨its, rv, p', hz⟩ := I1.tuple hq
    refine XBcall_enumT p' fun h' he hit hk => wpAny_pyIter_enum he ?_
    have hal : a < s1.heap.objs.size := by
      obtain ⟨o, e1, _⟩ := p'
      exact Heap.lt_size e1
    have I2 : Inv X pins σ H1 { s1 with heap := h' } := I1.kept (t' := s1.toks) hk
    refine ⟨s1.heap.objs.size + 1, [s1.heap.objs.size + 1, s1.heap.objs.size], _, _, H1, rfl, I2, turn_IeT a (s1.heap.objs.size + 1) s1.heap.objs.size, ⟨⟨.none, he⟩, hit, Nat.succ_ne_self _, Nat.ne_of_lt hal, Nat.ne_of_lt (Nat.lt_succ_of_lt hal)⟩, fun b hb => ?_, q⟩
    have hle : s1.heap.objs.size ≤ b := by
      rcases List.mem_cons.mp hb with rfl | z
      · exact Nat.le_succ _
      · rw [List.mem_singleton.mp z]
        exact Nat.le_refl _
    exact I1.fpOk hle (I1.hok.fresh hle)
theorem walk_IeT {K : PySem.W.Frag} {a : Addr} {xs : List V} : Walk (IeT K a) xs.length (fun H => SqT K H a xs) (YPair (fun i => some (.int (i : Nat))) (fun i => xs[i]?)) := by
  refine ⟨fun i _ hi q => ⟨xs, xs[i], q, by simp [hi]⟩, fun _ q => ⟨xs, q, rfl⟩, fun i H v H' _ q y => ?_⟩
  obtain ⟨T, x, h1, h2, h3, h4⟩ := y
  exact ⟨T, .int (i : Nat), x, h1, h2, h3, rfl, h4 xs q⟩
/-! ### the order of texts -/
/-- the one text ahead of the other -/
def sLt (a b : Str) : Bool := decide (a.cps.toList < b.cps.toList)
theorem cmp_gt {prog : Program} {w : World} {A : Around} {a b : Str} {t u : Tok} : CmpOf prog w A .Gt (fun i v => (#[Value.str a t, Value.str b u] : Array Value)[i]? = some v) (fun i j => sLt ([a, b].getD j a) ([a, b].getD i a)) := fun i j vi vj s Q E hi hj h => by
  rcases i with _ | _ | i <;> rcases j with _ | _ | j <;> simp at hi hj
  all_goals (subst hi; subst hj; exact PySem.P.gt_str h)
theorem cmp_lt {prog : Program} {w : World} {A : Around} {a b : Str} {t u : Tok} : CmpOf prog w A .Lt (fun i v => (#[Value.str a t, Value.str b u] : Array Value)[i]? = some v) (fun i j => sLt ([a, b].getD i a) ([a, b].getD j a)) := fun i j vi vj s Q E hi hj h => by
  rcases i with _ | _ | i <;> rcases j with _ | _ | j <;> simp at hi hj
  all_goals (subst hi; subst hj; exact PyProof.Rows.lt_str h)
section
variable {prog : Program} {w : World} {A : Around} {E : Value → Shared → Prop} {s : Shared}
/-- the pair that min and max lay, walked -/
theorem two_walk {x y : Value} (hh : A.handled = none) {op : CmpOp} {bt : Nat → Nat → Bool} {Q : Value → Shared → Prop} (cmp : CmpOf prog w A.in1 op (fun i v => (#[x, y] : Array Value)[i]? = some v) bt)
    (h : ∀ v h' tk, (#[x, y] : Array Value)[argBest bt 1]? = some v → (∀ c o, s.heap.get? c = some o → h'.get? c = some o) → Q v { s with heap := h', toks := tk }) :
    wpAny (model prog w) A.in1 (pyIter (.ref s.heap.objs.size)) (fun it s₂ => ∃ I fp wr n P St bt, it = .ref I ∧ Walks prog w A.in1 I fp wr n P St ∧ St 0 s₂.heap ∧ (∀ b ∈ fp, b < s₂.heap.objs.size) ∧ 0 < n ∧ CmpOf prog w A.in1 op P bt ∧
      ∀ v h' tk, P (argBest bt (n - 1)) v → (∀ b o, b ∉ wr → s₂.heap.get? b = some o → h'.get? b = some o) → Q v { s₂ with heap := h', toks := tk }) E
      { s with heap := s.heap.push { cls := .type "tuple", data := .seq #[x, y] } } := by
  have hT : (s.heap.push { cls := .type "tuple", data := .seq #[x, y] }).IsTuple s.heap.objs.size #[x, y] := ⟨_, Heap.get?_push_size _ rfl, rfl, 0, rfl⟩
  have hsz : (s.heap.push { cls := .type "tuple", data := .seq #[x, y] }).objs.size = s.heap.objs.size + 1 := Heap.size_push ..
  refine wpAny_pyIter_tuple hT ?_
  refine ⟨(s.heap.push { cls := .type "tuple", data := .seq #[x, y] }).objs.size, [(s.heap.push { cls := .type "tuple", data := .seq #[x, y] }).objs.size, s.heap.objs.size], [(s.heap.push { cls := .type "tuple", data := .seq #[x, y] }).objs.size], 2, _, _, bt, rfl,
    Walks.tuple (A := A.in1) hh _ s.heap.objs.size (by rw [hsz]; exact Nat.ne_of_lt (Nat.lt_succ_self _)) #[x, y], ⟨⟨_, Heap.get?_push_size _ rfl, rfl, rfl⟩, hT.push _⟩, fun c hc => ?_, by decide, cmp, fun v h' tk hP hk => ?_⟩
  · show c < ((s.heap.push _).push _).objs.size
    rw [Heap.size_push, hsz]
    rcases List.mem_cons.mp hc with rfl | hc
    · rw [hsz]
      exact Nat.lt_succ_self _
    · rw [List.mem_singleton.mp hc]
      exact Nat.lt_succ_of_lt (Nat.lt_succ_self _)
  · refine h v h' tk hP fun c o e => hk c o (fun hm => ?_) (Heap.get?_push_of_some _ (Heap.get?_push_of_some _ e))
    have e2 := Heap.lt_size e
    rw [List.mem_singleton.mp hm, hsz] at e2
    exact Nat.lt_irrefl _ (Nat.lt_of_succ_lt e2)
end
section
variable {X : Cx}
theorem call_max2S (hc : X.calm = true) : CallR X (.builtin "max") (fun xs H Q => ∃ i j, xs = [.str i, .str j] ∧ Q (.str (if sLt i j then j else i)) H) := by
  intro pins s σ H xs us Q I r h
  obtain ⟨i, j, rfl, q⟩ := h
  obtain ⟨u, w', rfl, ⟨t, rfl⟩, ⟨t', rfl⟩⟩ := vals2 r
  refine call_max_two (two_walk (I.ok.hd hc) cmp_gt fun v h' tk hv k => ?_)
  refine ⟨_, H, I.kept k, ?_, q⟩
  have e : argBest (fun a b => sLt ([i, j].getD b i) ([i, j].getD a i)) 1 = if sLt i j then 1 else 0 := rfl
  rw [e] at hv
  cases hb : sLt i j
  · rw [hb] at hv
    exact ⟨t, (Option.some.inj hv).symm⟩
  · rw [hb] at hv
    exact ⟨t', (Option.some.inj hv).symm⟩
theorem call_min2S (hc : X.calm = true) : CallR X (.builtin "min") (fun xs H Q => ∃ i j, xs = [.str i, .str j] ∧ Q (.str (if sLt j i then j else i)) H) := by
  intro pins s σ H xs us Q I r h
  obtain ⟨i, j, rfl, q⟩ := h
  obtain ⟨u, w', rfl, ⟨t, rfl⟩, ⟨t', rfl⟩⟩ := vals2 r
  refine call_min_two (two_walk (I.ok.hd hc) cmp_lt fun v h' tk hv k => ?_)
  refine ⟨_, H, I.kept k, ?_, q⟩
  have e : argBest (fun a b => sLt ([i, j].getD a i) ([i, j].getD b i)) 1 = if sLt j i then 1 else 0 := rfl
  rw [e] at hv
  cases hb : sLt j i
  · rw [hb] at hv
    exact ⟨t, (Option.some.inj hv).symm⟩
  · rw [hb] at hv
    exact ⟨t', (Option.some.inj hv).symm⟩
/-- t < u, two pairs of texts -/
theorem op_ltSS (hu : X.A.units + 64 < cLine) : OpR X (compareOp .Lt) (fun x y H Q => ∃ p q a b c d, x = .ref p ∧ y = .ref q ∧ SqT X.K H p [.str a, .str b] ∧ SqT X.K H q [.str c, .str d] ∧ Q (.bl (if a == c then (if b == d then false else sLt b d) else sLt a c)) H) := by
  intro pins s σ H x y v u Q I rx ry h
  obtain ⟨p, q, a, b, c, d, rfl, rfl, hp, hq, h⟩ := h
  cases rx
  cases ry
  obtain ⟨its, r1, t1, _⟩ := I.tuple hp
  obtain ⟨jts, r2, t2, _⟩ := I.tuple hq
  obtain ⟨_, _, rfl, ⟨ta, rfl⟩, ⟨tb, rfl⟩⟩ := vals2 r1
  obtain ⟨_, _, rfl, ⟨tc, rfl⟩, ⟨td, rfl⟩⟩ := vals2 r2
  have L := Ob.RcOp.tuples_lt (A := X.A) (s := s) (e := fun j => [a == c, b == d].getD j false) (r := fun j => [sLt a c, sLt b d].getD j false) t1 t2 (by omega)
    (fun j h1 h2 => by
      rcases j with _ | _ | j
      · exact SeqAt.EqAt.str_str _ _ _ _
      · exact SeqAt.EqAt.str_str _ _ _ _
      · exact absurd h1 (by simp))
    (fun j h1 h2 _ => by
      rcases j with _ | _ | j
      · exact fun _ _ _ _ z => PyProof.Rows.lt_str z
      · exact fun _ _ _ _ z => PyProof.Rows.lt_str z
      · exact absurd h1 (by simp))
  exact L _ _ _ _ ⟨.bl _, H, I, rfl, h⟩
end
end XB
/-! piles as rows read from the last piece on: the action of steps on least piles -/
namespace XM
/-- what is asked of names: which touch, and an order -/
structure Ord (α : Type) [DecidableEq α] where
  tc : α → α → Bool
  lt : α → α → Bool
  refl : ∀ a, tc a a = true
  symm : ∀ a b, tc a b = tc b a
  irr : ∀ a, lt a a = false
  trans : ∀ a b c, lt a b = true → lt b c = true → lt a c = true
  tot : ∀ a b, a ≠ b → lt a b = false → lt b a = true
section
variable {α : Type} [DecidableEq α] (O : Ord α)
abbrev Row (α : Type) := List (α × Int)
/-- a piece of this name comes to lie on top: no other of its name is met, all that it might pass are less -/
def top (a : α) : Row α → Bool
  | [] => true
  | y :: r => if O.tc y.1 a then decide (y.1 ≠ a) else O.lt y.1 a && top a r
def ins (x : α × Int) : Row α → Row α
  | [] => [x]
  | y :: r => if y.1 = x.1 then (if y.2 + x.2 = 0 then r else (x.1, y.2 + x.2) :: r)
    else if O.tc y.1 x.1 then x :: y :: r
    else if O.lt y.1 x.1 && top O x.1 r then x :: y :: r else y :: ins x r
/-- a least pile, from the last piece on -/
def NF : Row α → Prop
  | [] => True
  | y :: r => y.2 ≠ 0 ∧ top O y.1 r = true ∧ NF r
variable {O}
theorem lt_of_not {a b : α} (h : O.tc a b = false) (n : O.lt a b = false) : O.lt b a = true :=
  O.tot a b (fun e => by rw [e, O.refl] at h; cases h) n
theorem lt_asym {a b : α} (h : O.lt a b = true) : O.lt b a = false := by
  cases e : O.lt b a
  · rfl
  · have := O.trans a b a h e
    rw [O.irr] at this
    cases this
theorem ne_of_apart {a b : α} (h : O.tc a b = false) : a ≠ b := fun e => by
  rw [e, O.refl] at h
  cases h
theorem top_same {a : α} {s : Int} {r : Row α} : top O a ((a, s) :: r) = false := by
  unfold top
  rw [if_pos (O.refl a)]
  simp
theorem top_touch {a : α} {y : α × Int} {r : Row α} (h : O.tc y.1 a = true) (n : y.1 ≠ a) : top O a (y :: r) = true := by
  unfold top
  rw [if_pos h]
  simpa using n
theorem top_apart {a : α} {y : α × Int} {r : Row α} (h : O.tc y.1 a = false) : top O a (y :: r) = (O.lt y.1 a && top O a r) := by
  show (if O.tc y.1 a then decide (y.1 ≠ a) else O.lt y.1 a && top O a r) = _
  rw [if_neg (by rw [h]; decide)]
theorem ins_same {a : α} {s u : Int} {r : Row α} : ins O (a, s) ((a, u) :: r) = if u + s = 0 then r else (a, u + s) :: r := by
  unfold ins
  rw [if_pos rfl]
theorem ins_touch {x y : α × Int} {r : Row α} (h : O.tc y.1 x.1 = true) (n : y.1 ≠ x.1) : ins O x (y :: r) = x :: y :: r := by
  unfold ins
  rw [if_neg n, if_pos h]
theorem ins_apart {x y : α × Int} {r : Row α} (h : O.tc y.1 x.1 = false) : ins O x (y :: r) = if O.lt y.1 x.1 && top O x.1 r then x :: y :: r else y :: ins O x r := by
  show (if y.1 = x.1 then _ else if O.tc y.1 x.1 then _ else _) = _
  rw [if_neg (ne_of_apart h), if_neg (by rw [h]; decide)]
theorem ins_top {x : α × Int} : ∀ {r : Row α}, top O x.1 r = true → ins O x r = x :: r
  | [], _ => rfl
  | y :: r, h => by
    cases hc : O.tc y.1 x.1
    · rw [top_apart hc] at h
      rw [ins_apart hc, if_pos h]
    · by_cases e : y.1 = x.1
      · unfold top at h
        rw [if_pos hc] at h
        simp [e] at h
      · exact ins_touch hc e
theorem apart_symm {a b : α} (h : O.tc a b = false) : O.tc b a = false := by rw [O.symm]; exact h
/-- what is put below the top does not bar another name that lay on top -/
theorem top_ins {z : α} {x : α × Int} (hx : O.tc x.1 z = false) : ∀ {r : Row α}, top O z r = true → top O x.1 r = false → top O z (ins O x r) = true
  | [], _, h => by cases h
  | w :: r, hz, h => by
    by_cases e : w.1 = x.1
    · obtain ⟨w1, w2⟩ := w
      obtain ⟨x1, x2⟩ := x
      have e : w1 = x1 := e
      subst e
      have hw : O.tc w1 z = false := hx
      rw [top_apart (y := (w1, w2)) hw] at hz
      rw [ins_same]
      by_cases h0 : w2 + x2 = 0
      · rw [if_pos h0]
        exact (Bool.and_eq_true_iff.mp hz).2
      · rw [if_neg h0, top_apart (y := (w1, w2 + x2)) hw]
        exact hz
    · cases hc : O.tc w.1 x.1
      · rw [top_apart hc] at h
        rw [ins_apart hc, if_neg (by rw [h]; decide)]
        cases hwz : O.tc w.1 z
        · rw [top_apart hwz] at hz ⊢
          obtain ⟨z1, z2⟩ := Bool.and_eq_true_iff.mp hz
          rw [z1, Bool.true_and]
          cases ht : top O x.1 r
          · exact top_ins hx z2 ht
          · rw [ins_top ht, top_apart hx, z2, Bool.and_true]
            rw [ht, Bool.and_true] at h
            exact O.trans _ _ _ (lt_of_not hc h) z1
        · have n : w.1 ≠ z := by
            intro q
            unfold top at hz
            rw [if_pos hwz] at hz
            simp [q] at hz
          exact top_touch hwz n
      · rw [top_touch hc e] at h
        cases h
theorem nf_ins {x : α × Int} (hx : x.2 ≠ 0) : ∀ {r : Row α}, NF O r → NF O (ins O x r)
  | [], _ => ⟨hx, rfl, True.intro⟩
  | w :: r, h => by
    obtain ⟨w0, wt, wr⟩ := h
    by_cases e : w.1 = x.1
    · obtain ⟨w1, w2⟩ := w
      obtain ⟨x1, x2⟩ := x
      have e : w1 = x1 := e
      subst e
      rw [ins_same]
      by_cases h0 : w2 + x2 = 0
      · rw [if_pos h0]
        exact wr
      · rw [if_neg h0]
        exact ⟨h0, wt, wr⟩
    · cases hc : O.tc w.1 x.1
      · rw [ins_apart hc]
        cases ht : O.lt w.1 x.1 && top O x.1 r
        · rw [if_neg (by decide)]
          refine ⟨w0, ?_, nf_ins hx wr⟩
          cases h2 : top O x.1 r
          · exact top_ins (apart_symm hc) wt h2
          · rw [h2, Bool.and_true] at ht
            rw [ins_top h2, top_apart (apart_symm hc), wt, Bool.and_true]
            exact lt_of_not hc ht
        · rw [if_pos rfl]
          exact ⟨hx, by rw [top_apart hc]; exact ht, w0, wt, wr⟩
      · rw [ins_touch hc e]
        exact ⟨hx, top_touch hc e, w0, wt, wr⟩
/-- if a put step frees the top for a name, it took away the piece on the very top -/
theorem freed {b : α} {x : α × Int} (hx : O.tc x.1 b = false) : ∀ {r : Row α}, NF O r → top O x.1 r = false → top O b r = false → top O b (ins O x r) = true →
    ∃ u r', r = (x.1, u) :: r' ∧ O.lt x.1 b = false
  | [], _, h, _, _ => by cases h
  | w :: r, hN, h1, h2, h3 => by
    obtain ⟨w0, wt, wr⟩ := hN
    by_cases e : w.1 = x.1
    · obtain ⟨w1, w2⟩ := w
      obtain ⟨x1, x2⟩ := x
      have e : w1 = x1 := e
      subst e
      refine ⟨w2, r, rfl, ?_⟩
      rw [ins_same] at h3
      rw [top_apart (y := (w1, w2)) hx] at h2
      by_cases h0 : w2 + x2 = 0
      · rw [if_pos h0] at h3
        rw [h3, Bool.and_true] at h2
        exact h2
      · rw [if_neg h0, top_apart (y := (w1, w2 + x2)) hx] at h3
        have h2' : (O.lt w1 b && top O b r) = false := h2
        have h3' : (O.lt w1 b && top O b r) = true := h3
        rw [h2'] at h3'
        cases h3'
    · cases hc : O.tc w.1 x.1
      · rw [top_apart hc] at h1
        rw [ins_apart hc, if_neg (by rw [h1]; decide)] at h3
        cases hwb : O.tc w.1 b
        · rw [top_apart hwb] at h2 h3
          obtain ⟨p1, p2⟩ := Bool.and_eq_true_iff.mp h3
          rw [p1, Bool.true_and] at h2
          have h4 : top O x.1 r = false := by
            cases q : top O x.1 r
            · rfl
            · rw [ins_top q, top_apart hx, h2, Bool.and_false] at p2
              cases p2
          obtain ⟨u, r', rfl, h5⟩ := freed hx wr h4 h2 p2
          rw [top_apart (y := (x.1, u)) (apart_symm hc)] at wt
          have q1 := (Bool.and_eq_true_iff.mp wt).1
          have q2 := O.trans _ _ _ q1 p1
          have q3 : O.lt x.1 b = true := q2
          rw [h5] at q3
          cases q3
        · have n : w.1 ≠ b := by
            intro q
            unfold top at h3
            rw [if_pos hwb] at h3
            simp [q] at h3
          rw [top_touch hwb n] at h2
          cases h2
      · rw [top_touch hc e] at h1
        cases h1
theorem freed_same {x : α × Int} : ∀ {r : Row α}, NF O r → top O x.1 r = false → top O x.1 (ins O x r) = true → ∃ u r', r = (x.1, u) :: r'
  | [], _, h, _ => by cases h
  | w :: r, hN, h1, h3 => by
    obtain ⟨w0, wt, wr⟩ := hN
    by_cases e : w.1 = x.1
    · exact ⟨w.2, r, by rw [← e]⟩
    · cases hc : O.tc w.1 x.1
      · rw [top_apart hc] at h1
        rw [ins_apart hc, if_neg (by rw [h1]; decide), top_apart hc] at h3
        obtain ⟨p1, p2⟩ := Bool.and_eq_true_iff.mp h3
        rw [p1, Bool.true_and] at h1
        obtain ⟨u, r', rfl⟩ := freed_same wr h1 p2
        rw [top_apart (y := (x.1, u)) (apart_symm hc)] at wt
        have q1 := (Bool.and_eq_true_iff.mp wt).1
        have q2 := lt_asym p1
        have q3 : O.lt x.1 w.1 = true := q1
        rw [q2] at q3
        cases q3
      · rw [top_touch hc e] at h1
        cases h1
/-- steps of names that are apart may be put in either order -/
theorem ins_comm {x y : α × Int} (hxy : O.tc x.1 y.1 = false) : ∀ {r : Row α}, NF O r → ins O x (ins O y r) = ins O y (ins O x r)
  | [], _ => by
    show ins O x [y] = ins O y [x]
    rw [ins_apart (apart_symm hxy), ins_apart hxy]
    show (if O.lt y.1 x.1 && true then [x, y] else [y, x]) = if O.lt x.1 y.1 && true then [y, x] else [x, y]
    cases h : O.lt y.1 x.1
    · rw [lt_of_not (apart_symm hxy) h]
      rfl
    · rw [lt_asym h]
      rfl
  | z :: r, hN => by
    have hyx := apart_symm hxy
    have key : ∀ {x y : α × Int}, O.tc x.1 y.1 = false → z.1 = x.1 → ins O x (ins O y (z :: r)) = ins O y (ins O x (z :: r)) := by
      intro x y hxy e
      obtain ⟨z1, z2⟩ := z
      obtain ⟨x1, x2⟩ := x
      have e : z1 = x1 := e
      subst e
      obtain ⟨_, zt, zr⟩ := hN
      have hzy : O.tc z1 y.1 = false := hxy
      rw [ins_apart (x := y) (y := (z1, z2)) hzy, ins_same]
      cases hB : O.lt z1 y.1 && top O y.1 r
      · rw [if_neg (by decide), ins_same]
        by_cases h0 : z2 + x2 = 0
        · rw [if_pos h0, if_pos h0]
        · rw [if_neg h0, if_neg h0, ins_apart (x := y) (y := (z1, z2 + x2)) hzy, if_neg (by rw [hB]; decide)]
      · rw [if_pos rfl, ins_apart (x := (z1, x2)) (y := y) (apart_symm hxy), if_neg (by rw [top_same (s := z2)]; simp), ins_same]
        by_cases h0 : z2 + x2 = 0
        · rw [if_pos h0, ins_top (Bool.and_eq_true_iff.mp hB).2]
        · rw [if_neg h0, ins_apart (x := y) (y := (z1, z2 + x2)) hzy, if_pos hB]
    by_cases ex : z.1 = x.1
    · exact key hxy ex
    by_cases ey : z.1 = y.1
    · exact (key hyx ey).symm
    obtain ⟨z0, zt, zr⟩ := hN
    have ih := ins_comm hxy zr
    have topx : ∀ {x y : α × Int}, O.tc x.1 y.1 = false → z.1 ≠ x.1 → z.1 ≠ y.1 → O.tc z.1 x.1 = true → ins O x (ins O y (z :: r)) = ins O y (ins O x (z :: r)) := by
      intro x y hxy ex ey hx
      have hyx := apart_symm hxy
      rw [ins_touch hx ex, ins_apart (x := y) (y := x) hxy]
      cases hT : top O y.1 (z :: r)
      · rw [if_neg (by simp)]
        have hy : O.tc z.1 y.1 = false := by
          cases q : O.tc z.1 y.1
          · rfl
          · rw [top_touch q ey] at hT
            cases hT
        rw [top_apart hy] at hT
        rw [ins_apart (x := y) (y := z) hy, if_neg (by rw [hT]; decide), ins_touch hx ex]
      · rw [ins_top hT, ins_apart (x := x) (y := y) hyx, top_touch hx ex, ins_touch hx ex]
        cases h : O.lt x.1 y.1
        · rw [lt_of_not hxy h]
          rfl
        · rw [lt_asym h]
          rfl
    cases hx : O.tc z.1 x.1
    · cases hy : O.tc z.1 y.1
      · -- z is apart from both
        have mixed : ∀ {x y : α × Int}, O.tc x.1 y.1 = false → O.tc z.1 x.1 = false → O.tc z.1 y.1 = false → (O.lt z.1 x.1 && top O x.1 r) = true → (O.lt z.1 y.1 && top O y.1 r) = false → ins O x (ins O y (z :: r)) = ins O y (ins O x (z :: r)) := by
          intro x y hxy hx hy hA hB
          have hyx := apart_symm hxy
          obtain ⟨a1, a2⟩ := Bool.and_eq_true_iff.mp hA
          rw [ins_apart (x := y) (y := z) hy, if_neg (by rw [hB]; decide), ins_apart (x := x) (y := z) hx (r := r), if_pos hA, ins_apart (x := y) (y := x) hxy, top_apart hy, hB, Bool.and_false, if_neg (by decide)]
          rw [ins_apart (x := y) (y := z) hy, if_neg (by rw [hB]; decide), ins_apart (x := x) (y := z) hx]
          have t : top O x.1 (ins O y r) = true := by
            cases q : top O y.1 r
            · exact top_ins hyx a2 q
            · rw [q, Bool.and_true] at hB
              rw [ins_top q, top_apart hyx, a2, Bool.and_true]
              exact O.trans _ _ _ (lt_of_not hy hB) a1
          rw [a1, t]
          rfl
        cases hA : O.lt z.1 x.1 && top O x.1 r
        · cases hB : O.lt z.1 y.1 && top O y.1 r
          · rw [ins_apart (x := y) (y := z) hy, if_neg (by rw [hB]; decide), ins_apart (x := x) (y := z) hx (r := r), if_neg (by rw [hA]; decide)]
            have no : ∀ {x y : α × Int}, O.tc x.1 y.1 = false → O.tc z.1 x.1 = false → (O.lt z.1 x.1 && top O x.1 r) = false → (O.lt z.1 y.1 && top O y.1 r) = false → (O.lt z.1 y.1 && top O y.1 (ins O x r)) = false := by
              intro x y hxy hx hA hB
              cases q : O.lt z.1 y.1 && top O y.1 (ins O x r)
              · rfl
              · obtain ⟨q1, q2⟩ := Bool.and_eq_true_iff.mp q
                rw [q1, Bool.true_and] at hB
                cases t : top O x.1 r
                · obtain ⟨u, r', rfl, h5⟩ := freed hxy zr t hB q2
                  rw [top_apart (y := (x.1, u)) (apart_symm hx)] at zt
                  have w1 : O.lt x.1 z.1 = true := (Bool.and_eq_true_iff.mp zt).1
                  rw [O.trans _ _ _ w1 q1] at h5
                  cases h5
                · rw [ins_top t, top_apart hxy, hB, Bool.and_false] at q2
                  cases q2
            rw [ins_apart (x := x) (y := z) hx, if_neg (by rw [no hyx hy hB hA]; decide), ins_apart (x := y) (y := z) hy, if_neg (by rw [no hxy hx hA hB]; decide), ih]
          · exact (mixed hyx hy hx hB hA).symm
        · cases hB : O.lt z.1 y.1 && top O y.1 r
          · exact mixed hxy hx hy hA hB
          · rw [ins_apart (x := y) (y := z) hy, if_pos hB, ins_apart (x := x) (y := z) hx (r := r), if_pos hA, ins_apart (x := x) (y := y) hyx, ins_apart (x := y) (y := x) hxy, top_apart hx, top_apart hy, hA, hB, ins_apart (x := x) (y := z) hx, if_pos hA, ins_apart (x := y) (y := z) hy, if_pos hB]
            cases h : O.lt x.1 y.1
            · rw [lt_of_not hxy h]
              rfl
            · rw [lt_asym h]
              rfl
      · exact (topx hyx ey ex hy).symm
    · exact topx hxy ex ey hx
/-- two steps of one name are one, or none -/
theorem ins_join {a : α} {s t : Int} (hs : s ≠ 0) (ht : t ≠ 0) : ∀ {r : Row α}, NF O r → ins O (a, t) (ins O (a, s) r) = if s + t = 0 then r else ins O (a, s + t) r
  | [], _ => by
    show ins O (a, t) [(a, s)] = _
    rw [ins_same]
    rfl
  | (c, u) :: r, hN => by
    obtain ⟨u0, zt, zr⟩ := hN
    have u0 : u ≠ 0 := u0
    by_cases e : c = a
    · subst e
      rw [ins_same, ins_same]
      by_cases h0 : u + s = 0
      · rw [if_pos h0, ins_top (x := (c, t)) zt]
        by_cases h1 : s + t = 0
        · rw [if_pos h1, show t = u by omega]
        · rw [if_neg h1, if_neg (by omega), show u + (s + t) = t by omega]
      · rw [if_neg h0, ins_same]
        by_cases h1 : s + t = 0
        · rw [if_pos h1, if_neg (by omega), show u + s + t = u by omega]
        · rw [if_neg h1]
          by_cases h2 : u + s + t = 0
          · rw [if_pos h2, if_pos (by omega)]
          · rw [if_neg h2, if_neg (by omega), Int.add_assoc]
    · cases hc : O.tc c a
      · rw [ins_apart (x := (a, s)) (y := (c, u)) hc, ins_apart (x := (a, s + t)) (y := (c, u)) hc]
        cases hA : O.lt c a && top O a r
        · rw [if_neg (by decide), ins_apart (x := (a, t)) (y := (c, u)) hc]
          have no : (O.lt c a && top O a (ins O (a, s) r)) = false := by
            cases q : O.lt c a && top O a (ins O (a, s) r)
            · rfl
            · obtain ⟨q1, q2⟩ := Bool.and_eq_true_iff.mp q
              rw [q1, Bool.true_and] at hA
              obtain ⟨v, r', rfl⟩ := freed_same (x := (a, s)) zr hA q2
              rw [top_apart (y := (a, v)) (apart_symm hc)] at zt
              have w1 : O.lt a c = true := (Bool.and_eq_true_iff.mp zt).1
              rw [lt_asym q1] at w1
              cases w1
          rw [if_neg (show ¬ ((O.lt c a && top O a (ins O (a, s) r)) = true) by rw [no]; decide), ins_join hs ht zr]
          by_cases h1 : s + t = 0
          · rw [if_pos h1, if_pos h1]
          · rw [if_neg h1, if_neg h1, if_neg Bool.false_ne_true]
        · rw [if_pos rfl, if_pos rfl, ins_same]
      · rw [ins_touch (x := (a, s)) (y := (c, u)) hc e, ins_touch (x := (a, s + t)) (y := (c, u)) hc e, ins_same]
end
end XM
set_option linter.all false
namespace XM
section
variable {α : Type} [DecidableEq α] (O : Ord α)
/-- steps put on a least pile, one after another -/
def act (l r : Row α) : Row α := l.foldl (fun r x => ins O x r) r
def NZ (l : Row α) : Prop := ∀ x ∈ l, x.2 ≠ 0
/-- the next step of this name that can come together with one ahead -/
def near (a : α) : Row α → Option Nat
  | [] => none
  | y :: r => if y.1 = a then some 0 else if O.tc y.1 a then none else (near a r).map (· + 1)
def pl : Row α → Bool
  | [] => true
  | x :: r => (near O x.1 r).isNone && pl r
def met : Row α → Option (Nat × Nat)
  | [] => none
  | x :: r => match near O x.1 r with
    | some d => some (0, d + 1)
    | none => (met r).map fun p => (p.1 + 1, p.2 + 1)
variable {O}
theorem NZ.app {l m : Row α} (h : NZ l) (g : NZ m) : NZ (l ++ m) := fun x hx => (List.mem_append.mp hx).elim (h x) (g x)
theorem NZ.left {l m : Row α} (h : NZ (l ++ m)) : NZ l := fun x hx => h x (List.mem_append_left _ hx)
theorem NZ.right {l m : Row α} (h : NZ (l ++ m)) : NZ m := fun x hx => h x (List.mem_append_right _ hx)
theorem act_nil {r : Row α} : act O [] r = r := rfl
theorem act_cons {x : α × Int} {l r : Row α} : act O (x :: l) r = act O l (ins O x r) := rfl
theorem act_app {l m r : Row α} : act O (l ++ m) r = act O m (act O l r) := List.foldl_append
theorem nf_act : ∀ {l r : Row α}, NZ l → NF O r → NF O (act O l r)
  | [], _, _, h => h
  | x :: l, r, z, h => nf_act (l := l) (fun y hy => z y (List.mem_cons_of_mem _ hy)) (nf_ins (z x List.mem_cons_self) h)
theorem nf_nz : ∀ {r : Row α}, NF O r → NZ r
  | [], _ => fun _ h => nomatch h
  | y :: r, h => fun x hx => (List.mem_cons.mp hx).elim (fun e => e ▸ h.1) (nf_nz h.2.2 x)
theorem act_swap {u v r : Row α} {x y : α × Int} (h : O.tc x.1 y.1 = false) (z : NZ u) (hN : NF O r) : act O (u ++ x :: y :: v) r = act O (u ++ y :: x :: v) r := by
  rw [act_app, act_app, act_cons, act_cons, act_cons, act_cons, ins_comm (apart_symm h) (nf_act z hN)]
/-- a step may be brought ahead of those that are apart from it -/
theorem act_move {x : α × Int} {v : Row α} : ∀ {p u r : Row α}, (∀ w ∈ p, O.tc w.1 x.1 = false) → NZ u → NZ p → NF O r → act O (u ++ (p ++ x :: v)) r = act O (u ++ (x :: (p ++ v))) r
  | [], _, _, _, _, _, _ => rfl
  | y :: p, u, r, hp, zu, zp, hN => by
    have e := act_move (x := x) (v := v) (p := p) (u := u ++ [y]) (r := r) (fun w hw => hp w (List.mem_cons_of_mem _ hw)) (zu.app fun w hw => zp w (by rw [List.mem_singleton.mp hw]; exact List.mem_cons_self)) (fun w hw => zp w (List.mem_cons_of_mem _ hw)) hN
    rw [List.append_assoc, List.append_assoc] at e
    have e2 : act O (u ++ (y :: p ++ x :: v)) r = act O (u ++ (y :: x :: (p ++ v))) r := e
    rw [e2, act_swap (hp y List.mem_cons_self) zu hN]
    rfl
/-- the two that can come together do -/
theorem act_meet {a : α} {s t : Int} {u m v r : Row α} (hm : ∀ w ∈ m, O.tc w.1 a = false) (hs : s ≠ 0) (ht : t ≠ 0) (zu : NZ u) (zm : NZ m) (hN : NF O r) :
    act O (u ++ (a, s) :: (m ++ (a, t) :: v)) r = act O (u ++ ((if s + t = 0 then [] else [(a, s + t)]) ++ (m ++ v))) r := by
  have e := act_move (x := (a, t)) (v := v) (p := m) (u := u ++ [(a, s)]) (r := r) hm (zu.app fun w hw => by rw [List.mem_singleton.mp hw]; exact hs) zm hN
  rw [List.append_assoc, List.append_assoc] at e
  have e2 : act O (u ++ (a, s) :: (m ++ (a, t) :: v)) r = act O (u ++ (a, s) :: (a, t) :: (m ++ v)) r := e
  rw [e2, act_app, act_app, act_cons, act_cons, ins_join hs ht (nf_act zu hN)]
  by_cases h : s + t = 0
  · rw [if_pos h, if_pos h, List.nil_append]
  · rw [if_neg h, if_neg h]
    rfl
theorem act_fix : ∀ {r : Row α}, NF O r → act O r.reverse [] = r
  | [], _ => rfl
  | y :: r, h => by
    rw [List.reverse_cons, act_app, act_fix h.2.2]
    exact ins_top h.2.1
/-- a least pile does what its steps did -/
theorem act_ins {x : α × Int} : ∀ {r q : Row α}, NF O r → x.2 ≠ 0 → NF O q → act O (ins O x r).reverse q = ins O x (act O r.reverse q)
  | [], _, _, _, _ => rfl
  | y :: r, q, h, hx, hq => by
    obtain ⟨y0, yt, yr⟩ := h
    have hQ : NF O (act O r.reverse q) := nf_act (fun w hw => nf_nz yr w (List.mem_reverse.mp hw)) hq
    by_cases e : y.1 = x.1
    · obtain ⟨y1, y2⟩ := y
      obtain ⟨x1, x2⟩ := x
      have e : y1 = x1 := e
      subst e
      rw [ins_same, List.reverse_cons, act_app, act_cons, act_nil, ins_join y0 hx hQ]
      by_cases h0 : y2 + x2 = 0
      · rw [if_pos h0, if_pos h0]
      · rw [if_neg h0, if_neg h0, List.reverse_cons, act_app]
        rfl
    · have stay : act O (x :: y :: r).reverse q = ins O x (act O (y :: r).reverse q) := by
        rw [List.reverse_cons, act_app]
        rfl
      cases hc : O.tc y.1 x.1
      · rw [ins_apart hc]
        cases hA : O.lt y.1 x.1 && top O x.1 r
        · rw [if_neg (by decide), List.reverse_cons, act_app, act_ins yr hx hq, List.reverse_cons, act_app]
          exact ins_comm hc hQ
        · rw [if_pos rfl]
          exact stay
      · rw [ins_touch hc e]
        exact stay
theorem act_self : ∀ {l q : Row α}, NZ l → NF O q → act O (act O l []).reverse q = act O l q := by
  intro l
  have gen : ∀ (n : Nat) (l q : Row α), l.length = n → NZ l → NF O q → act O (act O l []).reverse q = act O l q := by
    intro n
    induction n with
    | zero =>
      intro l q h _ _
      rw [List.length_eq_zero_iff.mp h]
      rfl
    | succ n ih =>
      intro l q h z hq
      obtain ⟨p, x, rfl⟩ : ∃ p x, l = p ++ [x] := ⟨l.dropLast, l.getLast (fun e => by rw [e] at h; cases h), (List.dropLast_concat_getLast _).symm⟩
      rw [act_app, act_app, act_cons, act_nil, act_cons, act_nil, act_ins (nf_act z.left (show NF O [] from True.intro)) (z x (by simp)) hq, ih p q (by rw [List.length_append] at h; simpa using h) z.left hq]
  exact fun {q} => gen _ l q rfl
/-- the steps that take steps back -/
def back (l : Row α) : Row α := (l.map fun x => (x.1, -x.2)).reverse
theorem back_nz {l : Row α} (h : NZ l) : NZ (back l) := fun x hx => by
  obtain ⟨y, hy, rfl⟩ := List.mem_map.mp (List.mem_reverse.mp hx)
  have := h y hy
  show -y.2 ≠ 0
  omega
theorem act_back : ∀ {l r : Row α}, NZ l → NF O r → act O (back l) (act O l r) = r
  | [], _, _, _ => rfl
  | x :: l, r, z, h => by
    have hx := z x List.mem_cons_self
    have zl : NZ l := fun y hy => z y (List.mem_cons_of_mem _ hy)
    unfold back
    rw [List.map_cons, List.reverse_cons, act_app, act_cons, act_cons]
    have e := act_back zl (nf_ins hx h)
    unfold back at e
    rw [e, act_nil]
    have j := ins_join (O := O) (a := x.1) (s := x.2) (t := -x.2) hx (by omega) h
    rw [if_pos (by omega)] at j
    exact j
theorem back_back (l : Row α) : back (back l) = l := by
  unfold back
  rw [List.map_reverse, List.reverse_reverse, List.map_map]
  have e : ((fun x : α × Int => (x.1, -x.2)) ∘ fun x => (x.1, -x.2)) = id := by
    funext x
    show (x.1, - -x.2) = x
    rw [Int.neg_neg]
  rw [e, List.map_id]
/-- what makes the same pile is taken back alike -/
theorem act_back_eq {l m r : Row α} (zl : NZ l) (zm : NZ m) (h : act O l [] = act O m []) (hN : NF O r) : act O (back l) r = act O (back m) r := by
  have same : ∀ {q}, NF O q → act O l q = act O m q := fun {q} hq => by rw [← act_self zl hq, h, act_self zm hq]
  have e := act_back (back_nz zl) hN
  rw [back_back] at e
  have e2 := same (nf_act (back_nz zl) hN)
  rw [e] at e2
  have e3 := act_back zm (nf_act (back_nz zl) hN)
  rw [← e2] at e3
  exact e3.symm
/-! ### coming together -/
theorem near_none {a : α} : ∀ {m v : Row α}, (∀ w ∈ m, O.tc w.1 a = false) → (near O a (m ++ v)) = (near O a v).map (· + m.length)
  | [], v, _ => by
    show near O a v = (near O a v).map (· + 0)
    cases near O a v <;> rfl
  | y :: m, v, h => by
    have hy := h y List.mem_cons_self
    show (if y.1 = a then some 0 else if O.tc y.1 a then none else (near O a (m ++ v)).map (· + 1)) = _
    rw [if_neg (ne_of_apart hy), if_neg (by rw [hy]; decide), near_none (fun w hw => h w (List.mem_cons_of_mem _ hw))]
    cases near O a v <;> rfl
theorem near_some {a : α} : ∀ {r : Row α} {d : Nat}, near O a r = some d → ∃ m t v, r = m ++ (a, t) :: v ∧ m.length = d ∧ ∀ w ∈ m, O.tc w.1 a = false
  | [], _, h => by cases h
  | y :: r, d, h => by
    unfold near at h
    by_cases e : y.1 = a
    · rw [if_pos e] at h
      cases h
      exact ⟨[], y.2, r, by rw [← e]; rfl, rfl, fun _ h => nomatch h⟩
    · rw [if_neg e] at h
      cases hc : O.tc y.1 a
      · rw [hc, if_neg (by decide)] at h
        obtain ⟨d', hd, rfl⟩ := Option.map_eq_some_iff.mp h
        obtain ⟨m, t, v, rfl, hl, hm⟩ := near_some hd
        refine ⟨y :: m, t, v, rfl, by rw [List.length_cons, hl], fun w hw => ?_⟩
        rcases List.mem_cons.mp hw with rfl | hw
        · exact hc
        · exact hm w hw
      · rw [hc, if_pos rfl] at h
        cases h
theorem met_pl : ∀ {l : Row α}, met O l = none ↔ pl O l = true
  | [] => ⟨fun _ => rfl, fun _ => rfl⟩
  | x :: r => by
    unfold met pl
    cases near O x.1 r with
    | some d => simp
    | none =>
      simp only [Option.isNone_none, Bool.true_and, Option.map_eq_none_iff]
      exact met_pl
theorem met_some : ∀ {l : Row α} {i j : Nat}, met O l = some (i, j) → ∃ u a s m t v, l = u ++ (a, s) :: (m ++ (a, t) :: v) ∧ u.length = i ∧ i + 1 + m.length = j ∧ ∀ w ∈ m, O.tc w.1 a = false
  | [], _, _, h => by cases h
  | x :: r, i, j, h => by
    unfold met at h
    cases hn : near O x.1 r with
    | some d =>
      rw [hn] at h
      cases h
      obtain ⟨m, t, v, rfl, hl, hm⟩ := near_some hn
      exact ⟨[], x.1, x.2, m, t, v, rfl, rfl, by rw [hl]; omega, hm⟩
    | none =>
      rw [hn] at h
      obtain ⟨⟨i', j'⟩, h2, e⟩ := Option.map_eq_some_iff.mp h
      cases e
      obtain ⟨u, a, s, m, t, v, rfl, h3, h4, h5⟩ := met_some h2
      exact ⟨x :: u, a, s, m, t, v, rfl, by rw [List.length_cons, h3], by omega, h5⟩
/-! ### changes of neighbours that are apart -/
theorem near_swap {a : α} {x y : α × Int} (h : O.tc x.1 y.1 = false) {v : Row α} : ∀ {u : Row α}, (near O a (u ++ x :: y :: v)).isSome = (near O a (u ++ y :: x :: v)).isSome
  | [] => by
    show (near O a (x :: y :: v)).isSome = (near O a (y :: x :: v)).isSome
    have ne := ne_of_apart h
    simp only [near]
    by_cases ex : x.1 = a
    · have ey : y.1 ≠ a := fun q => ne (ex.trans q.symm)
      have ty : O.tc y.1 a = false := by rw [← ex]; exact apart_symm h
      rw [if_pos ex, if_neg ey, ty]
      simp [ex]
    · by_cases ey : y.1 = a
      · have tx : O.tc x.1 a = false := by rw [← ey]; exact h
        simp [ex, ey, tx]
      · cases tx : O.tc x.1 a <;> cases ty : O.tc y.1 a <;> simp [ex, ey]
  | z :: u => by
    have ih := near_swap (a := a) h (v := v) (u := u)
    show (near O a (z :: (u ++ x :: y :: v))).isSome = (near O a (z :: (u ++ y :: x :: v))).isSome
    simp only [near]
    by_cases ez : z.1 = a
    · simp [ez]
    · cases tz : O.tc z.1 a
      · simp [ez, ih]
      · simp [ez]
theorem pl_swap {x y : α × Int} (h : O.tc x.1 y.1 = false) {v : Row α} : ∀ {u : Row α}, pl O (u ++ x :: y :: v) = pl O (u ++ y :: x :: v)
  | [] => by
    have ne := ne_of_apart h
    show ((near O x.1 (y :: v)).isNone && ((near O y.1 v).isNone && pl O v)) = ((near O y.1 (x :: v)).isNone && ((near O x.1 v).isNone && pl O v))
    have e1 : (near O x.1 (y :: v)).isNone = (near O x.1 v).isNone := by
      simp [near, Ne.symm ne, apart_symm h]
    have e2 : (near O y.1 (x :: v)).isNone = (near O y.1 v).isNone := by
      simp [near, ne, h]
    rw [e1, e2, ← Bool.and_assoc, ← Bool.and_assoc, Bool.and_comm (near O x.1 v).isNone]
  | z :: u => by
    have ih := pl_swap h (v := v) (u := u)
    have e := near_swap (a := z.1) h (v := v) (u := u)
    show ((near O z.1 (u ++ x :: y :: v)).isNone && pl O (u ++ x :: y :: v)) = ((near O z.1 (u ++ y :: x :: v)).isNone && pl O (u ++ y :: x :: v))
    rw [ih]
    congr 1
    cases h1 : near O z.1 (u ++ x :: y :: v) <;> cases h2 : near O z.1 (u ++ y :: x :: v) <;> rw [h1, h2] at e <;> first | rfl | cases e
theorem near_move {a : α} {x : α × Int} {v : Row α} : ∀ {p u : Row α}, (∀ w ∈ p, O.tc w.1 x.1 = false) → (near O a (u ++ (p ++ x :: v))).isSome = (near O a (u ++ (x :: (p ++ v)))).isSome
  | [], _, _ => rfl
  | y :: p, u, h => by
    have e := near_move (a := a) (x := x) (v := v) (p := p) (u := u ++ [y]) fun w hw => h w (List.mem_cons_of_mem _ hw)
    rw [List.append_assoc, List.append_assoc] at e
    exact Eq.trans e (near_swap (h y List.mem_cons_self))
theorem pl_move {x : α × Int} {v : Row α} : ∀ {p u : Row α}, (∀ w ∈ p, O.tc w.1 x.1 = false) → pl O (u ++ (p ++ x :: v)) = pl O (u ++ (x :: (p ++ v)))
  | [], _, _ => rfl
  | y :: p, u, h => by
    have e := pl_move (x := x) (v := v) (p := p) (u := u ++ [y]) fun w hw => h w (List.mem_cons_of_mem _ hw)
    rw [List.append_assoc, List.append_assoc] at e
    exact Eq.trans e (pl_swap (h y List.mem_cons_self))
theorem pl_right : ∀ {u v : Row α}, pl O (u ++ v) = true → pl O v = true
  | [], _, h => h
  | x :: u, v, h => pl_right (u := u) (Bool.and_eq_true_iff.mp (show ((near O x.1 (u ++ v)).isNone && pl O (u ++ v)) = true from h)).2
theorem pl_ne {x y : α × Int} {u v q : Row α} (h : pl O (u ++ y :: (v ++ x :: q)) = true) (hv : ∀ w ∈ v, O.tc w.1 x.1 = false) : y.1 ≠ x.1 := fun e => by
  have h1 := (Bool.and_eq_true_iff.mp (show ((near O y.1 (v ++ x :: q)).isNone && pl O (v ++ x :: q)) = true from pl_right h)).1
  rw [e, near_none hv] at h1
  simp [near] at h1
/-! ### sorting a pile -/
/-- where least names came first -/
structure Srt (O : Ord α) (found left : Row α) : Prop where
  own : ∀ u y v z q, found = u ++ y :: (v ++ z :: q) → O.tc y.1 z.1 = false → (∀ w ∈ v, O.tc w.1 z.1 = false) → O.lt y.1 z.1 = true
  out : ∀ u y v p z q, found = u ++ y :: v → left = p ++ z :: q → O.tc y.1 z.1 = false → (∀ w ∈ v, O.tc w.1 z.1 = false) → (∀ w ∈ p, O.tc w.1 z.1 = false) → O.lt y.1 z.1 = true
theorem Srt.nil (left : Row α) : Srt O [] left := ⟨fun u y v z q h => by simp at h, fun u y v p z q h => by simp at h⟩
/-- the least of those that can stand first -/
structure LeastFirst (O : Ord α) (p : Row α) (x : α × Int) (q : Row α) : Prop where
  free : ∀ w ∈ p, O.tc w.1 x.1 = false
  least : ∀ p' z q', p ++ x :: q = p' ++ z :: q' → (∀ w ∈ p', O.tc w.1 z.1 = false) → z.1 ≠ x.1 → O.lt x.1 z.1 = true
theorem split_end {u v : Row α} {y x : α × Int} {l : Row α} (h : l ++ [x] = u ++ y :: v) : (v = [] ∧ l = u ∧ x = y) ∨ ∃ v', v = v' ++ [x] ∧ l = u ++ y :: v' := by
  rcases List.eq_nil_or_concat v with rfl | ⟨v', z, rfl⟩
  · left
    have := List.append_inj' h rfl
    exact ⟨rfl, this.1, by simpa using this.2⟩
  · right
    rw [List.concat_eq_append] at h ⊢
    have h' : l ++ [x] = (u ++ y :: v') ++ [z] := by rw [h]; simp
    have := List.append_inj' h' rfl
    have e : x = z := by simpa using this.2
    exact ⟨v', by rw [e], this.1⟩
theorem Srt.step {found p q : Row α} {x : α × Int} (S : Srt O found (p ++ x :: q)) (L : LeastFirst O p x q) : Srt O (found ++ [x]) (p ++ q) := by
  constructor
  · intro u y v z r h hyz hv
    have h' : found ++ [x] = (u ++ y :: v) ++ z :: r := by rw [h]; simp
    rcases split_end h' with ⟨rfl, e1, e2⟩ | ⟨r', rfl, e1⟩
    · subst e2
      exact S.out u y v p x q e1 rfl hyz hv L.free
    · exact S.own u y v z r' (by rw [e1]; simp) hyz hv
  · intro u y v p' z q' h h2 hyz hv hp'
    -- z in the row with x
    have place : (∃ q1, p = p' ++ z :: q1) ∨ (∃ q1, q = q1 ++ z :: q' ∧ p' = p ++ q1) := by
      rcases List.append_eq_append_iff.mp h2 with ⟨as, e1, e2⟩ | ⟨bs, e1, e2⟩
      · exact .inr ⟨as, e2, e1⟩
      · cases bs with
        | nil => exact .inr ⟨[], by simpa using e2.symm, by simpa using e1.symm⟩
        | cons b bs =>
          rw [List.cons_append] at e2
          injection e2 with e3 e4
          subst e3
          exact .inl ⟨bs, e1⟩
    rcases split_end h with ⟨rfl, e1, e2⟩ | ⟨v', rfl, e1⟩
    · subst e2
      rcases place with ⟨q1, rfl⟩ | ⟨q1, rfl, rfl⟩
      · exact L.least p' z (q1 ++ x :: q) (by simp) hp' (fun e => by rw [e, O.refl] at hyz; cases hyz)
      · refine L.least (p ++ x :: q1) z q' (by simp) (fun w hw => ?_) (fun e => by rw [e, O.refl] at hyz; cases hyz)
        rcases List.mem_append.mp hw with hw | hw
        · exact hp' w (List.mem_append_left _ hw)
        · rcases List.mem_cons.mp hw with rfl | hw
          · exact hyz
          · exact hp' w (List.mem_append_right _ hw)
    · have hx : O.tc x.1 z.1 = false := hv x (by simp)
      have hv' : ∀ w ∈ v', O.tc w.1 z.1 = false := fun w hw => hv w (List.mem_append_left _ hw)
      rcases place with ⟨q1, rfl⟩ | ⟨q1, rfl, rfl⟩
      · exact S.out u y v' p' z (q1 ++ x :: q) e1 (by simp) hyz hv' hp'
      · refine S.out u y v' (p ++ x :: q1) z q' e1 (by simp) hyz hv' fun w hw => ?_
        rcases List.mem_append.mp hw with hw | hw
        · exact hp' w (List.mem_append_left _ hw)
        · rcases List.mem_cons.mp hw with rfl | hw
          · exact hx
          · exact hp' w (List.mem_append_right _ hw)
theorem top_of {a : α} : ∀ {r : Row α}, (∀ v' y u', r = v' ++ y :: u' → (∀ w ∈ v', O.tc w.1 a = false) → O.tc y.1 a = false → O.lt y.1 a = true) → (∀ v' y u', r = v' ++ y :: u' → (∀ w ∈ v', O.tc w.1 a = false) → y.1 ≠ a) → top O a r = true
  | [], _, _ => rfl
  | y :: r, h1, h2 => by
    cases hc : O.tc y.1 a
    · rw [top_apart hc, h1 [] y r rfl (fun _ h => nomatch h) hc, Bool.true_and]
      refine top_of (fun v' z u' e hv hz => h1 (y :: v') z u' (by rw [e]; rfl) (fun w hw => ?_) hz) (fun v' z u' e hv => h2 (y :: v') z u' (by rw [e]; rfl) fun w hw => ?_)
      · rcases List.mem_cons.mp hw with rfl | hw
        · exact hc
        · exact hv w hw
      · rcases List.mem_cons.mp hw with rfl | hw
        · exact hc
        · exact hv w hw
    · exact top_touch hc (h2 [] y r rfl fun _ h => nomatch h)
/-- a pile in which least names came first is a least pile -/
theorem nf_of {left : Row α} : ∀ (n : Nat) (found : Row α), found.length = n → Srt O found left → pl O (found ++ left) = true → NZ found → NF O found.reverse := by
  intro n
  have pre : ∀ (n : Nat) (found : Row α) (tail : Row α), found.length = n → (∀ u y v z q, found = u ++ y :: (v ++ z :: q) → O.tc y.1 z.1 = false → (∀ w ∈ v, O.tc w.1 z.1 = false) → O.lt y.1 z.1 = true) → pl O (found ++ tail) = true → NZ found → NF O found.reverse := by
    intro n
    induction n with
    | zero =>
      intro found tail h _ _ _
      rw [List.length_eq_zero_iff.mp h]
      exact True.intro
    | succ n ih =>
      intro found tail h hS hP hZ
      obtain ⟨f, x, rfl⟩ : ∃ f x, found = f ++ [x] := ⟨found.dropLast, found.getLast (fun e => by rw [e] at h; cases h), (List.dropLast_concat_getLast _).symm⟩
      have hl : f.length = n := by
        rw [List.length_append] at h
        simpa using h
      rw [List.reverse_append]
      refine ⟨hZ x (by simp), ?_, ih f (x :: tail) hl (fun u y v z q e => hS u y v z (q ++ [x]) (by rw [e]; simp)) (by simpa using hP) hZ.left⟩
      refine top_of (fun v' y u' e hv hy => ?_) (fun v' y u' e hv => ?_)
      · have e2 : f = u'.reverse ++ y :: v'.reverse := by
          have := congrArg List.reverse e
          simpa using this
        exact hS u'.reverse y v'.reverse x [] (by rw [e2]; simp) hy fun w hw => hv w (List.mem_reverse.mp hw)
      · have e2 : f = u'.reverse ++ y :: v'.reverse := by
          have := congrArg List.reverse e
          simpa using this
        exact pl_ne (O := O) (x := x) (y := y) (u := u'.reverse) (v := v'.reverse) (q := tail) (by rw [e2] at hP; simpa using hP) fun w hw => hv w (List.mem_reverse.mp hw)
  intro found h S hP hZ
  exact pre n found left h S.own hP hZ
end
end XM
set_option linter.all false
namespace XM
section
variable {α : Type} [DecidableEq α] {O : Ord α}
theorem ins_len {x : α × Int} : ∀ {r : Row α}, (ins O x r).length ≤ r.length + 1
  | [] => Nat.le_refl _
  | y :: r => by
    have ih := ins_len (x := x) (r := r)
    unfold ins
    split
    · split <;> simp <;> omega
    · split
      · simp
      · split
        · simp
        · simp only [List.length_cons]
          omega
theorem act_len : ∀ {l r : Row α}, (act O l r).length ≤ l.length + r.length
  | [], r => by simp [act]
  | x :: l, r => by
    have h1 := act_len (l := l) (r := ins O x r)
    have h2 := ins_len (O := O) (x := x) (r := r)
    rw [act_cons, List.length_cons]
    omega
/-! ### those that can stand first -/
/-- the first of those that can stand first -/
theorem ex_least : ∀ (n : Nat) (left : Row α), left.length = n → left ≠ [] → ∃ p x q, left = p ++ x :: q ∧ LeastFirst O p x q := by
  intro n
  -- among the splits with a free item there is one of least name
  have gen : ∀ (k : Nat) (left : Row α) (p : Row α) (x : α × Int) (q : Row α), left = p ++ x :: q → (∀ w ∈ p, O.tc w.1 x.1 = false) →
      (left.filter fun y => O.lt y.1 x.1).length ≤ k → ∃ p x q, left = p ++ x :: q ∧ LeastFirst O p x q := by
    intro k
    induction k with
    | zero =>
      intro left p x q e hp hk
      refine ⟨p, x, q, e, hp, fun p' z q' e' hp' hn => ?_⟩
      cases h : O.lt x.1 z.1
      · have hz : O.lt z.1 x.1 = true := O.tot _ _ (fun e => hn e.symm) h
        have hm : z ∈ left.filter fun y => O.lt y.1 x.1 := List.mem_filter.mpr ⟨by rw [e, e']; simp, hz⟩
        rw [List.length_eq_zero_iff.mp (Nat.le_zero.mp hk)] at hm
        cases hm
      · rfl
    | succ k ih =>
      intro left p x q e hp hk
      by_cases hex : ∃ p' z q', left = p' ++ z :: q' ∧ (∀ w ∈ p', O.tc w.1 z.1 = false) ∧ O.lt z.1 x.1 = true
      · obtain ⟨p', z, q', e', hp', hz⟩ := hex
        refine ih left p' z q' e' hp' ?_
        have hlt : (left.filter fun y => O.lt y.1 z.1).length < (left.filter fun y => O.lt y.1 x.1).length := by
          have hsub : (left.filter fun y => O.lt y.1 z.1) = (left.filter fun y => O.lt y.1 x.1).filter fun y => O.lt y.1 z.1 := by
            rw [List.filter_filter]
            congr 1
            funext y
            cases h1 : O.lt y.1 z.1
            · rfl
            · rw [O.trans _ _ _ h1 hz]
              rfl
          rw [hsub]
          have hm : z ∈ left.filter fun y => O.lt y.1 x.1 := List.mem_filter.mpr ⟨by rw [e']; simp, hz⟩
          refine Nat.lt_of_le_of_ne (List.length_filter_le _ _) fun he => ?_
          have := List.length_filter_eq_length_iff.mp he z hm
          rw [O.irr] at this
          cases this
        omega
      · refine ⟨p, x, q, e, hp, fun p' z q' e' hp' hn => ?_⟩
        cases h : O.lt x.1 z.1
        · exact absurd ⟨p', z, q', by rw [e, e'], hp', O.tot _ _ (fun e => hn e.symm) h⟩ hex
        · rfl
  intro left h hne
  cases left with
  | nil => exact absurd rfl hne
  | cons x q => exact gen _ (x :: q) [] x q rfl (fun _ h => nomatch h) (Nat.le_refl _)
/-- each pile can be sorted -/
theorem sort_ex {l : Row α} (hP : pl O l = true) (hZ : NZ l) : ∃ f : Row α, NF O f.reverse ∧ act O f [] = act O l [] ∧ f.length = l.length ∧ ∀ a, (near O a f).isSome = (near O a l).isSome := by
  have go : ∀ (n : Nat) (found left : Row α), left.length = n → Srt O found left → pl O (found ++ left) = true → NZ (found ++ left) →
      ∃ f : Row α, NF O f.reverse ∧ act O f [] = act O (found ++ left) [] ∧ f.length = (found ++ left).length ∧ ∀ a, (near O a f).isSome = (near O a (found ++ left)).isSome := by
    intro n
    induction n with
    | zero =>
      intro found left h S P Z
      have e : left = [] := List.length_eq_zero_iff.mp h
      subst e
      rw [List.append_nil] at Z ⊢
      exact ⟨found, nf_of _ found rfl S P Z, rfl, rfl, fun _ => rfl⟩
    | succ n ih =>
      intro found left h S P Z
      obtain ⟨p, x, q, rfl, L⟩ := ex_least (O := O) _ left rfl (fun e => by rw [e] at h; cases h)
      have zf := Z.left
      have zp : NZ p := Z.right.left
      have e0 : found ++ x :: (p ++ q) = found ++ [x] ++ (p ++ q) := by simp
      have P' : pl O (found ++ [x] ++ (p ++ q)) = true := by rw [← e0, ← pl_move L.free]; exact P
      have Z' : NZ (found ++ [x] ++ (p ++ q)) := fun y hy => Z y (by
        simp only [List.mem_append, List.mem_cons, List.mem_nil_iff, or_false] at hy ⊢
        rcases hy with (hy | hy) | hy | hy <;> simp [hy])
      obtain ⟨f, h1, h2, h3, h4⟩ := ih (found ++ [x]) (p ++ q) (by rw [List.length_append] at h ⊢; simp at h; omega) (S.step L) P' Z'
      refine ⟨f, h1, h2.trans ?_, h3.trans ?_, fun a => (h4 a).trans ?_⟩
      · rw [← e0, act_move L.free zf zp (show NF O [] from True.intro)]
      · simp only [List.length_append, List.length_cons, List.length_nil]
        omega
      · rw [← e0, near_move L.free]
  have := go l.length [] l rfl (Srt.nil l) (by simpa using hP) (by simpa using hZ)
  simpa using this
theorem near_pile {l : Row α} (hP : pl O l = true) (hZ : NZ l) (a : α) : (near O a (act O l []).reverse).isSome = (near O a l).isSome := by
  obtain ⟨f, h1, h2, _, h4⟩ := sort_ex hP hZ
  have e : (act O l []).reverse = f := by
    have := act_fix h1
    rw [List.reverse_reverse] at this
    rw [← h2, this, List.reverse_reverse]
  rw [e]
  exact h4 a
/-- a row is a pile exactly if its pile has as many pieces -/
theorem pile_iff {l : Row α} (hZ : NZ l) : (act O l []).length = l.length ↔ met O l = none := by
  constructor
  · intro h
    cases hm : met O l with
    | none => rfl
    | some ij =>
      obtain ⟨u, a, s, m, t, v, rfl, _, _, h5⟩ := met_some hm
      have hs : s ≠ 0 := hZ (a, s) (by simp)
      have ht : t ≠ 0 := hZ (a, t) (by simp)
      have zu : NZ u := hZ.left
      have zm : NZ m := fun w hw => hZ w (by simp [hw])
      rw [act_meet h5 hs ht zu zm (show NF O [] from True.intro)] at h
      have hl := act_len (O := O) (l := u ++ ((if s + t = 0 then [] else [(a, s + t)]) ++ (m ++ v))) (r := [])
      rw [h] at hl
      simp only [List.length_append, List.length_cons, List.length_nil] at hl
      by_cases h0 : s + t = 0
      · rw [if_pos h0] at hl
        simp at hl
        omega
      · rw [if_neg h0] at hl
        simp at hl
        omega
  · intro h
    obtain ⟨f, h1, h2, h3, _⟩ := sort_ex (O := O) (met_pl.mp h) hZ
    have := act_fix h1
    rw [List.reverse_reverse] at this
    rw [← h2, this, List.length_reverse, h3]
theorem pl_nf : ∀ {r : Row α}, NF O r → pl O r.reverse = true := fun {r} h => by
  have hz : NZ r.reverse := fun x hx => nf_nz h x (List.mem_reverse.mp hx)
  refine met_pl.mp ((pile_iff hz).mp ?_)
  rw [act_fix h, List.length_reverse]
/-! ### the other way round -/
theorem near_map {a : α} {g : α × Int → α × Int} (hg : ∀ x, (g x).1 = x.1) : ∀ {l : Row α}, near O a (l.map g) = near O a l
  | [] => rfl
  | x :: l => by
    show (if (g x).1 = a then some 0 else if O.tc (g x).1 a then none else (near O a (l.map g)).map (· + 1)) = _
    rw [near_map hg, hg]
    rfl
/-- none of one name behind one of the same that could come to it: told from the end -/
theorem pl_rev : ∀ {l : Row α}, pl O l = true → pl O l.reverse = true := by
  have key : ∀ (l : Row α), (∀ u a s m t v, l = u ++ (a, s) :: (m ++ (a, t) :: v) → ∃ w ∈ m, O.tc w.1 a = true) ↔ pl O l = true := by
    intro l
    constructor
    · intro h
      refine met_pl.mp ?_
      cases hm : met O l with
      | none => rfl
      | some ij =>
        obtain ⟨u, a, s, m, t, v, e, _, _, h5⟩ := met_some hm
        obtain ⟨w, hw, h6⟩ := h u a s m t v e
        rw [h5 w hw] at h6
        cases h6
    · intro h u a s m t v e
      by_cases hex : ∃ w ∈ m, O.tc w.1 a = true
      · exact hex
      · exact absurd rfl (pl_ne (O := O) (x := (a, t)) (y := (a, s)) (u := u) (v := m) (q := v) (by rw [← e]; exact h) fun w hw => by
          cases q : O.tc w.1 a
          · rfl
          · exact absurd ⟨w, hw, q⟩ hex)
  intro l h
  refine (key _).mp fun u a s m t v e => ?_
  have e2 : l = v.reverse ++ (a, t) :: (m.reverse ++ (a, s) :: u.reverse) := by
    have := congrArg List.reverse e
    simpa using this
  obtain ⟨w, hw, hc⟩ := (key l).mpr h _ _ _ _ _ _ e2
  exact ⟨w, List.mem_reverse.mp hw, hc⟩
theorem pl_map {g : α × Int → α × Int} (hg : ∀ x, (g x).1 = x.1) : ∀ {l : Row α}, pl O (l.map g) = pl O l
  | [] => rfl
  | x :: l => by
    show ((near O (g x).1 (l.map g)).isNone && pl O (l.map g)) = _
    rw [near_map hg, hg, pl_map hg]
    rfl
/-- what can stand last in a pile can stand first in that of what takes back -/
theorem near_back {l : Row α} (hZ : NZ l) (a : α) : (near O a (act O (back l) []).reverse).isSome = (near O a (act O l [])).isSome := by
  have hN : NF O (act O l []) := nf_act hZ (show NF O [] from True.intro)
  have hz : NZ (act O l []).reverse := fun x hx => nf_nz hN x (List.mem_reverse.mp hx)
  have e : act O (back l) [] = act O (back (act O l []).reverse) [] := act_back_eq hZ hz (act_fix hN).symm (show NF O [] from True.intro)
  have hb : back (act O l []).reverse = (act O l []).map fun x => (x.1, -x.2) := by
    unfold back
    rw [List.map_reverse, List.reverse_reverse]
  have hp : pl O ((act O l []).map fun x => (x.1, -x.2)) = true := by
    rw [pl_map (g := fun x => (x.1, -x.2)) fun _ => rfl]
    have := pl_rev (pl_nf hN)
    rwa [List.reverse_reverse] at this
  rw [e, hb, near_pile hp (by rw [← hb]; exact back_nz hz), near_map (g := fun x => (x.1, -x.2)) fun _ => rfl]
/-! ### names that can stand first, in their order -/
def frs (O : Ord α) (bar : Row α) : Row α → List α
  | [] => []
  | x :: r => if bar.all (fun w => !O.tc w.1 x.1) then x.1 :: frs O (bar ++ [x]) r else frs O (bar ++ [x]) r
theorem mem_frs {n : α} : ∀ {l bar : Row α}, n ∈ frs O bar l ↔ (∀ w ∈ bar, O.tc w.1 n = false) ∧ (near O n l).isSome = true
  | [], bar => by simp [frs, near]
  | x :: l, bar => by
    have ih := mem_frs (n := n) (l := l) (bar := bar ++ [x])
    have all_iff : (bar.all fun w => !O.tc w.1 x.1) = true ↔ ∀ w ∈ bar, O.tc w.1 x.1 = false := by simp
    have hx : (∀ w ∈ bar ++ [x], O.tc w.1 n = false) ↔ (∀ w ∈ bar, O.tc w.1 n = false) ∧ O.tc x.1 n = false := by
      constructor
      · exact fun h => ⟨fun w hw => h w (by simp [hw]), h x (by simp)⟩
      · rintro ⟨h1, h2⟩ w hw
        rcases List.mem_append.mp hw with hw | hw
        · exact h1 w hw
        · rw [List.mem_singleton.mp hw]
          exact h2
    rw [hx] at ih
    unfold frs near
    by_cases e : x.1 = n
    · subst e
      rw [if_pos rfl]
      simp only [Option.isSome_some, and_true]
      have no : x.1 ∉ frs O (bar ++ [x]) l := fun hm => by
        have := (ih.mp hm).1.2
        rw [O.refl] at this
        cases this
      split
      · rename_i h
        exact ⟨fun _ => all_iff.mp h, fun _ => List.mem_cons_self⟩
      · rename_i h
        exact ⟨fun hm => absurd hm no, fun hb => absurd (all_iff.mpr hb) h⟩
    · rw [if_neg e]
      have base : n ∈ frs O (bar ++ [x]) l ↔ (∀ w ∈ bar, O.tc w.1 n = false) ∧ (if O.tc x.1 n then none else (near O n l).map (· + 1)).isSome = true := by
        rw [ih]
        cases hc : O.tc x.1 n <;> simp
      split
      · rw [List.mem_cons]
        exact ⟨fun h => h.elim (fun q => absurd q.symm e) base.mp, fun h => .inr (base.mpr h)⟩
      · exact base
theorem nodup_frs : ∀ {l bar : Row α}, (frs O bar l).Nodup
  | [], _ => List.nodup_nil
  | x :: l, bar => by
    have ih := nodup_frs (l := l) (bar := bar ++ [x])
    unfold frs
    split
    · refine List.nodup_cons.mpr ⟨fun hm => ?_, ih⟩
      have := (mem_frs.mp hm).1 x (by simp)
      rw [O.refl] at this
      cases this
    · exact ih
end
end XM
set_option Elab.async false
set_option linter.all false
set_option maxRecDepth 100000
set_option maxHeartbeats 4000000
namespace XB
open PySem PySem.Spec PyProof.Rows L2
/-! ### the order of texts is one -/
theorem str_ext {a b : Str} (h : a.cps.toList = b.cps.toList) : a = b := by
  obtain ⟨⟨x⟩⟩ := a
  obtain ⟨⟨y⟩⟩ := b
  have h : x = y := h
  rw [h]
theorem sLt_irr (a : Str) : sLt a a = false := decide_eq_false (List.lt_irrefl _)
theorem sLt_trans (a b c : Str) (h : sLt a b = true) (g : sLt b c = true) : sLt a c = true := decide_eq_true (List.lt_trans (of_decide_eq_true h) (of_decide_eq_true g))
theorem sLt_tot (a b : Str) (n : a ≠ b) (h : sLt a b = false) : sLt b a = true := by
  have h1 : ¬ a.cps.toList < b.cps.toList := of_decide_eq_false h
  refine decide_eq_true ?_
  have h2 : b.cps.toList ≤ a.cps.toList := List.not_lt.mp h1
  rcases Classical.em (b.cps.toList < a.cps.toList) with h3 | h3
  · exact h3
  · exact absurd (str_ext (List.le_antisymm (List.not_lt.mp h3) h2)) n
/-! ### fields and rows of steps as data -/
structure Fld where
  names : List Str
  pairs : List (Str × Str)
def apart (F : Fld) (a b : Str) : Bool := F.pairs.contains (a, b) || F.pairs.contains (b, a)
def OF (F : Fld) : XM.Ord Str where
  tc := fun a b => decide (a = b) || !apart F a b
  lt := sLt
  refl := fun a => by simp
  symm := fun a b => by
    unfold apart
    rw [Bool.or_comm (F.pairs.contains (a, b))]
    congr 1
    exact decide_eq_decide.mpr ⟨Eq.symm, Eq.symm⟩
  irr := sLt_irr
  trans := sLt_trans
  tot := sLt_tot
/-- what a field keeps, as far as the functions of piles lean on it -/
structure Fld.Ok (F : Fld) : Prop where
  n0 : 0 < F.names.length
  n6 : F.names.length ≤ 6
  asc : ∀ p ∈ F.pairs, sLt p.1 p.2 = true
  inN : ∀ p ∈ F.pairs, p.1 ∈ F.names ∧ p.2 ∈ F.names
  sgn : ∀ n ∈ F.names, 1 ≤ n.length ∧ n.length ≤ 6 ∧ ∀ c ∈ n.cps.toList, 97 ≤ c ∧ c ≤ 122
  asN : F.names.Pairwise fun a b => sLt a b = true
  asP : F.pairs.Pairwise fun p q => (if p.1 == q.1 then (if p.2 == q.2 then false else sLt p.2 q.2) else sLt p.1 q.1) = true
  len : F.pairs.length ≤ 100
theorem apart_ne {F : Fld} (ok : F.Ok) {a : Str} : apart F a a = false := by
  have h : ¬ (a, a) ∈ F.pairs := fun h => by
    have := ok.asc _ h
    rw [sLt_irr] at this
    cases this
  unfold apart
  simp [h]
theorem tc_eq {F : Fld} (ok : F.Ok) (a b : Str) : (OF F).tc a b = !apart F a b := by
  show (decide (a = b) || !apart F a b) = _
  by_cases e : a = b
  · subst e
    rw [apart_ne ok]
    simp
  · simp [e]
/-- as the program asks it: the less one first -/
theorem apart_min {F : Fld} (ok : F.Ok) (a b : Str) : F.pairs.contains ((if sLt b a then b else a), (if sLt a b then b else a)) = apart F a b := by
  unfold apart
  cases h : sLt a b
  · by_cases e : a = b
    · subst e
      rw [sLt_irr]
      simp
    · have h2 := sLt_tot _ _ e h
      rw [h2]
      have n : ¬ (a, b) ∈ F.pairs := fun q => by
        have := ok.asc _ q
        rw [h] at this
        cases this
      simp [n]
  · have h2 : sLt b a = false := by
      cases q : sLt b a
      · rfl
      · have := sLt_trans _ _ _ h q
        rw [sLt_irr] at this
        cases this
    rw [h2]
    have n : ¬ (b, a) ∈ F.pairs := fun q => by
      have := ok.asc _ q
      rw [h2] at this
      cases this
    simp [n]
def touchL (F : Fld) (n : Str) : List Str := F.names.filter fun o => !apart F n o
theorem mem_touch {F : Fld} {a b : Str} (ok : F.Ok) (hb : b ∈ F.names) : (touchL F a).contains b = (OF F).tc b a := by
  rw [(OF F).symm, tc_eq ok]
  unfold touchL
  cases h : apart F a b <;> simp [hb, h]
def dPair (p : Str × Str) : PyData := .tuple [.str p.1, .str p.2]
def dNames (l : List Str) : PyData := .tuple (l.map .str)
def dField (F : Fld) : PyData := .tuple [dNames F.names, .tuple (F.pairs.map dPair)]
def dStep (s : Str × Int) : PyData := .tuple [.str s.1, .int s.2]
def dSteps (l : List (Str × Int)) : PyData := .tuple (l.map dStep)
/-! ### what stands while other things change -/
/-- tuples stand -/
structure Tk (H H' : Hp) : Prop where
  t : ∀ b xs, H b = some (.tup xs) → H' b = some (.tup xs)
  z : ∀ b o u, H b = some (.frz o u) → H' b = some (.frz o u)
theorem Tk.refl {H : Hp} : Tk H H := ⟨fun _ _ e => e, fun _ _ _ e => e⟩
theorem Tk.trans {H H1 H2 : Hp} (a : Tk H H1) (b : Tk H1 H2) : Tk H H2 := ⟨fun x xs e => b.t x xs (a.t x xs e), fun x o u e => b.z x o u (a.z x o u e)⟩
theorem Tk.of {H H1 : Hp} (a : Same H H1) : Tk H H1 := ⟨fun x xs e => a x _ e, fun x o u e => a x _ e⟩
theorem Tk.new {H H1 : Hp} {p : Addr} {o : HO} (a : Tk H H1) (hp : H1 p = none) : Tk H (upd H1 p o) := a.trans (Tk.of (same_upd hp))
theorem Tk.mut {H H1 : Hp} {p : Addr} {o u : HO} (a : Tk H H1) (hp : H1 p = some u) (h1 : ∀ xs, u ≠ .tup xs) (h2 : ∀ o' u', u ≠ .frz o' u') : Tk H (upd H1 p o) :=
  a.trans ⟨fun b xs e => by rw [upd_ne (ne_of e hp fun q => h1 xs q.symm)]; exact e, fun b o' u' e => by rw [upd_ne (ne_of e hp fun q => h2 o' u' q.symm)]; exact e⟩
theorem Tk.lst {H H1 : Hp} {p : Addr} {o : HO} {xs : List V} (a : Tk H H1) (hp : H1 p = some (.lst xs)) : Tk H (upd H1 p o) := a.mut hp (fun _ q => nomatch q) (fun _ _ q => nomatch q)
theorem Tk.sqT {K : PySem.W.Frag} {H H' : Hp} {a : Addr} {xs : List V} (k : Tk H H') (h : SqT K H a xs) : SqT K H' a xs := by
  rcases h with h | h
  · rcases h with h | ⟨o, h⟩
    · exact .inl (.inl (k.t _ _ h))
    · exact .inl (.inr ⟨o, k.z _ _ _ h⟩)
  · exact .inr h
mutual
def flatD : PyData → Bool
  | .none | .bool _ | .int _ | .str _ => true
  | .tuple xs => flatAll xs
  | .list _ | .dict _ => false
def flatAll : List PyData → Bool
  | [] => true
  | x :: xs => flatD x && flatAll xs
end
mutual
theorem Dp.tk {K : PySem.W.Frag} {H H' : Hp} (k : Tk H H') : ∀ (d : PyData) {v : V}, flatD d = true → Dp K H v d → Dp K H' v d
  | .none, _, _, h => by cases h; exact .non
  | .bool b, _, _, h => by cases h; exact .bl b
  | .int i, _, _, h => by cases h; exact .int i
  | .str x, _, _, h => by cases h; exact .str x
  | .tuple ds, _, hf, h => by
    cases h with
    | tup hs ha => exact .tup (k.sqT hs) (DpAll.tk k ds (by simpa only [flatD] using hf) ha)
  | .list _, _, hf, _ => by simp only [flatD] at hf; cases hf
  | .dict _, _, hf, _ => by simp only [flatD] at hf; cases hf
theorem DpAll.tk {K : PySem.W.Frag} {H H' : Hp} (k : Tk H H') : ∀ (ds : List PyData) {vs : List V}, flatAll ds = true → DpAll K H vs ds → DpAll K H' vs ds
  | [], _, _, h => by cases h; exact .nil
  | d :: ds, _, hf, h => by
    simp only [flatAll, Bool.and_eq_true] at hf
    cases h with
    | cons h1 h2 => exact .cons (Dp.tk k d hf.1 h1) (DpAll.tk k ds hf.2 h2)
end
theorem flatAll_of : ∀ {l : List PyData}, (∀ d ∈ l, flatD d = true) → flatAll l = true
  | [], _ => rfl
  | d :: l, h => by
    simp only [flatAll, Bool.and_eq_true]
    exact ⟨h d List.mem_cons_self, flatAll_of fun x hx => h x (List.mem_cons_of_mem _ hx)⟩
theorem flat_step (s : Str × Int) : flatD (dStep s) = true := rfl
theorem flat_all_steps (l : List (Str × Int)) : flatAll (l.map dStep) = true := flatAll_of fun d hd => by
  obtain ⟨s, _, rfl⟩ := List.mem_map.mp hd
  exact flat_step s
theorem flat_steps (l : List (Str × Int)) : flatD (dSteps l) = true := by
  show flatD (.tuple _) = true
  simp only [flatD]
  exact flat_all_steps l
theorem flat_names (l : List Str) : flatD (dNames l) = true := by
  show flatD (.tuple _) = true
  simp only [flatD]
  exact flatAll_of fun d hd => by
    obtain ⟨s, _, rfl⟩ := List.mem_map.mp hd
    rfl
theorem flat_field (F : Fld) : flatD (dField F) = true := by
  show flatD (.tuple _) = true
  simp only [flatD, flatAll, flat_names, Bool.true_and, Bool.and_true]
  exact flatAll_of fun d hd => by
    obtain ⟨s, _, rfl⟩ := List.mem_map.mp hd
    rfl
end XB
namespace L2
open PySem PySem.Spec PyProof.Rows XB
/-! ### rows of data by places -/
section
variable {K : PySem.W.Frag} {H : Hp}
theorem DpAll.len : ∀ {vs : List V} {ds : List PyData}, DpAll K H vs ds → vs.length = ds.length
  | _, _, .nil => rfl
  | _, _, .cons _ t => by rw [List.length_cons, List.length_cons, DpAll.len t]
theorem DpAll.get : ∀ {vs : List V} {ds : List PyData} {i : Nat} {v : V}, DpAll K H vs ds → vs[i]? = some v → ∃ d, ds[i]? = some d ∧ Dp K H v d
  | _, _, _, _, .nil, e => by simp at e
  | _, _, 0, _, .cons h _, e => by
    cases e
    exact ⟨_, rfl, h⟩
  | _, _, i + 1, _, .cons _ t, e => DpAll.get (i := i) t (by simpa using e)
theorem DpAll.app : ∀ {vs ws : List V} {ds es : List PyData}, DpAll K H vs ds → DpAll K H ws es → DpAll K H (vs ++ ws) (ds ++ es)
  | _, _, _, _, .nil, s => s
  | _, _, _, _, .cons h t, s => .cons h (DpAll.app t s)
theorem DpAll.take : ∀ {vs : List V} {ds : List PyData} (n : Nat), DpAll K H vs ds → DpAll K H (vs.take n) (ds.take n)
  | _, _, 0, _ => .nil
  | _, _, _ + 1, .nil => .nil
  | _, _, n + 1, .cons h t => .cons h (DpAll.take n t)
theorem DpAll.drop : ∀ {vs : List V} {ds : List PyData} (n : Nat), DpAll K H vs ds → DpAll K H (vs.drop n) (ds.drop n)
  | _, _, 0, h => h
  | _, _, _ + 1, .nil => .nil
  | _, _, n + 1, .cons _ t => DpAll.drop n t
theorem DpAll.rev : ∀ {vs : List V} {ds : List PyData}, DpAll K H vs ds → DpAll K H vs.reverse ds.reverse
  | _, _, .nil => .nil
  | _, _, .cons h t => by
    rw [List.reverse_cons, List.reverse_cons]
    exact (DpAll.rev t).app (.cons h .nil)
theorem DpAll.strs : ∀ l : List Str, DpAll K H (l.map V.str) (l.map PyData.str)
  | [] => .nil
  | x :: l => .cons (.str x) (DpAll.strs l)
theorem DpAll.of_strs : ∀ {l : List Str} {vs : List V}, DpAll K H vs (l.map PyData.str) → vs = l.map V.str
  | [], _, h => by
    cases h
    rfl
  | x :: l, _, h => by
    cases h with
    | cons h1 h2 =>
      cases h1
      rw [DpAll.of_strs h2]
      rfl
theorem Dp.step {v : V} {s : Str × Int} (h : Dp K H v (dStep s)) : ∃ a, v = .ref a ∧ SqT K H a [.str s.1, .int s.2] := by
  cases h with
  | tup hs ha =>
    cases ha with
    | cons h1 t =>
      cases t with
      | cons h2 t =>
        cases t
        cases h1
        cases h2
        exact ⟨_, rfl, hs⟩
theorem Dp.of_step {a : Addr} {s : Str × Int} (h : SqT K H a [.str s.1, .int s.2]) : Dp K H (.ref a) (dStep s) := .tup h (.cons (.str _) (.cons (.int _) .nil))
theorem Dp.pair {v : V} {s : Str × Str} (h : Dp K H v (dPair s)) : ∃ a, v = .ref a ∧ SqT K H a [.str s.1, .str s.2] := by
  cases h with
  | tup hs ha =>
    cases ha with
    | cons h1 t =>
      cases t with
      | cons h2 t =>
        cases t
        cases h1
        cases h2
        exact ⟨_, rfl, hs⟩
theorem Dp.steps {v : V} {l : List (Str × Int)} (h : Dp K H v (dSteps l)) : ∃ a vs, v = .ref a ∧ SqT K H a vs ∧ DpAll K H vs (l.map dStep) := by
  cases h with
  | tup hs ha => exact ⟨_, _, rfl, hs, ha⟩
theorem Dp.field {v : V} {F : Fld} (h : Dp K H v (dField F)) : ∃ a n p ps, v = .ref a ∧ SqT K H a [.ref n, .ref p] ∧ SqT K H n (F.names.map V.str) ∧ SqT K H p ps ∧ DpAll K H ps (F.pairs.map dPair) := by
  cases h with
  | tup hs ha =>
    cases ha with
    | cons h1 t =>
      cases t with
      | cons h2 t =>
        cases t
        cases h1 with
        | tup n1 n2 =>
          cases h2 with
          | tup p1 p2 =>
            rw [DpAll.of_strs n2] at n1
            exact ⟨_, _, _, _, rfl, hs, n1, p1, p2⟩
/-- the step at a place -/
theorem DpAll.step {vs : List V} {l : List (Str × Int)} {i : Nat} {s : Str × Int} (h : DpAll K H vs (l.map dStep)) (e : l[i]? = some s) : ∃ a, vs[i]? = some (.ref a) ∧ SqT K H a [.str s.1, .int s.2] := by
  have hl := h.len
  rw [List.length_map] at hl
  have hi : i < vs.length := by
    rw [hl]
    exact (List.getElem?_eq_some_iff.mp e).1
  obtain ⟨d, hd, hv⟩ := h.get (List.getElem?_eq_getElem hi)
  rw [List.getElem?_map, e] at hd
  cases hd
  obtain ⟨a, ha, hs⟩ := hv.step
  exact ⟨a, by rw [List.getElem?_eq_getElem hi, ha], hs⟩
end
end L2
set_option Elab.async false
set_option linter.all false
set_option maxRecDepth 100000
set_option maxHeartbeats 4000000
namespace XB
open PySem PySem.Spec PyProof.Rows L2
theorem tyx_tup {K : PySem.W.Frag} {H : Hp} {a : Addr} {xs : List V} (h : SqT K H a xs) : TyX K H (.ref a) (.type "tuple") := by
  rcases h with (h | ⟨o, h⟩) | ⟨o, its, n, hk, hc, _⟩
  · exact .base (.tup h)
  · exact .fTuple h
  · exact .kTuple hk hc
section
variable {X : Cx} {e : Expr} {te : TE} {x : Str} {p q pos : Pos}
/-- isinstance(e, T), T a built-in class -/
theorem pe_isT (T : String) (hgI : Gl X "isinstance") (hmI : X.mg "isinstance" = none) (hgT : Gl X x) (hmT : X.mg x = none) (hv : bootBuiltins x = some (.type T)) (he : PE X e te)
    (hn : x ≠ "__name__" := by decide) (hdb : (x == ("__debug__" : Str)) = false := by decide)
    (h1 : starEach [e, .Name x q] X.env = (false, eval e X.env) :: starEach [.Name x q] X.env := by rfl) (h2 : starEach [.Name x q] X.env = (false, eval (.Name x q) X.env) :: starEach [] X.env := by rfl) :
    PE X (.Call (.Name "isinstance" p) [e, .Name x q] [] pos) (tCB (rIsi X.K) (tCons te (tCons (tC (.ty T)) tNil))) :=
  pe_callB call_isi hgI hmI (by decide +kernel) (pa_cons he (pa_cons (pe_bltn (v := .ty T) hgT hmT hv rfl hn hdb) pa_nil h2) h1) (by decide) (by decide) h1 (by rw [h2]; rfl)
/-- len(e) of a list or a tuple -/
theorem pe_lenS (hg : Gl X "len") (hm : X.mg "len" = none) (he : PE X e te) (h1 : starEach [e] X.env = (false, eval e X.env) :: starEach [] X.env := by rfl) :
    PE X (.Call (.Name "len" p) [e] [] pos) (tCB (fun xs H Q => ∃ p ys, xs = [V.ref p] ∧ (SqL X.K H p ys ∨ SqT X.K H p ys) ∧ Q (.int ys.length) H) (tCons te tNil)) :=
  pe_callB call_len_seq hg hm PySem.boot_len (pa_cons he pa_nil h1) (by decide) (by decide) h1 (by rfl)
/-- len(e) of a text -/
theorem pe_lenT (hg : Gl X "len") (hm : X.mg "len" = none) (he : PE X e te) (h1 : starEach [e] X.env = (false, eval e X.env) :: starEach [] X.env := by rfl) :
    PE X (.Call (.Name "len" p) [e] [] pos) (tCB (fun xs H Q => ∃ z, xs = [V.str z] ∧ z.length ≤ sizeLine ∧ Q (.int z.length) H) (tCons te tNil)) :=
  pe_callB call_len_str hg hm PySem.boot_len (pa_cons he pa_nil h1) (by decide) (by decide) h1 (by rfl)
theorem walk_zipT {K : PySem.W.Frag} {a b : Addr} {xs ys : List V} {n : Nat} (hn : n = min xs.length ys.length) : Walk (RZ.ItzT K a b) n (fun H => SqT K H a xs ∧ SqT K H b ys) (YPair (fun i => xs[i]?) (fun i => ys[i]?)) := by
  subst hn
  constructor
  · intro i H hi q
    have h1 : i < xs.length := by omega
    have h2 : i < ys.length := by omega
    exact ⟨xs, ys, xs[i], ys[i], q.1, q.2, List.getElem?_eq_getElem h1, List.getElem?_eq_getElem h2⟩
  · intro H q
    exact ⟨xs, ys, q.1, q.2, by omega⟩
  · rintro i H v H' _ q ⟨T, x, z, h1, h2, h3, h4, h5⟩
    exact ⟨T, x, z, h1, h2, h3, h4 xs q.1, h5 ys q.2⟩
theorem cut_tail (xs : List V) : cutV xs (some 1) none = xs.drop 1 := by
  unfold cutV
  rw [show HT.sIx xs.length 0 (some 1) = min 1 xs.length from HT.sIx_nat xs.length 0 1, HT.sIx_none]
  cases xs with
  | nil => rfl
  | cons x r =>
    rw [List.length_cons, show min 1 (r.length + 1) = 1 by omega]
    show List.take (r.length + 1 - 1) r = r
    rw [Nat.add_sub_cancel]
    exact List.take_length
/-- the rules within a comprehension's block, where the written part is told by its name -/
theorem op_ltSSk {X : Cx} {K : PySem.W.Frag} (hk : X.K = K) (hu : X.A.units + 64 < cLine) : OpR X (compareOp .Lt) (fun x y H Q => ∃ p q a b c d, x = .ref p ∧ y = .ref q ∧ SqT K H p [.str a, .str b] ∧ SqT K H q [.str c, .str d] ∧ Q (.bl (if a == c then (if b == d then false else sLt b d) else sLt a c)) H) := by
  subst hk
  exact op_ltSS hu
theorem ixk_list {X : Cx} {K : PySem.W.Frag} (hk : X.K = K) : IxR X (rIxL K) := by
  subst hk
  exact ix_list
theorem ixk_tup {X : Cx} {K : PySem.W.Frag} (hk : X.K = K) : IxR X (rIxT K) := by
  subst hk
  exact ix_tup
theorem opk_in_seq {X : Cx} {K : PySem.W.Frag} (hk : X.K = K) : OpR X (compareOp .In) (rIn K false) := by
  subst hk
  exact op_in_seq
theorem opk_notIn_seq {X : Cx} {K : PySem.W.Frag} (hk : X.K = K) : OpR X (compareOp .NotIn) (rIn K true) := by
  subst hk
  exact op_notIn_seq
theorem noPart {σ : L2.St} {H : Hp} {Q : Option Int → Hp → Prop} (h : Q none H) : tNoPart σ H Q := h
/-- t[1:] of a tuple, whatever its length -/
theorem sl_tail {K : PySem.W.Frag} {H : Hp} {a : Addr} {xs : List V} {Q : VK} (h : SqT K H a xs) (q0 : xs = [] → Q (.ref a) H) (q1 : xs ≠ [] → ∀ p, H p = none → Q (.ref p) (upd H p (.tup (xs.drop 1)))) : rSlA K (.ref a) (some 1) none H Q := by
  refine ⟨a, xs, rfl, h, fun e => q0 ?_, fun hn p hp => ?_⟩
  · have e1 : HT.sIx xs.length 0 (some 1) = min 1 xs.length := HT.sIx_nat xs.length 0 1
    rw [e1] at e
    cases xs with
    | nil => rfl
    | cons x r =>
      rw [List.length_cons] at e
      omega
  · rw [cut_tail]
    refine q1 (fun e => ?_) p hp
    subst e
    exact hn ⟨rfl, rfl⟩
end
end XB
set_option Elab.async false
set_option linter.all false
set_option maxRecDepth 100000
set_option maxHeartbeats 4000000
namespace XB
open PySem PySem.Spec PyProof.Rows L2
section
variable {P : Program} {w : World} {K : PySem.W.Frag} {mg : Str → Option Value} {base : Heap}
def spIsPair (K : PySem.W.Frag) : Sp := fun vs H Q _ => ∃ (a : Addr) (xs : List V), vs = [.ref a] ∧ SqT K H a xs ∧ Q (.bl (decide (xs.length = 2))) H
theorem c_is_pair (T : Tx K mg) : Cl P w K mg base CX0 1 "is_pair" (spIsPair K) := by
  refine cl0 T.d_is_pair (ps := ["value"]) (fun _ _ _ _ _ _ us hl => match us, hl with | [_], _ => rfl) sc_is_pair (fun vs H Q E h => ?_) (fun f cdv A outer st H vs Q E hr h => ?_)
  · obtain ⟨a, xs, rfl, _⟩ := h
    rfl
  · obtain ⟨a, xs, rfl, hS, q⟩ := h
    refine ⟨_, pss_one (ps_ret (pe_and (pe_isT "tuple" (by rfl) T.b_isinstance (by rfl) T.b_tuple (by decide +kernel) (pv 0)) (pe_one (pe_cmpR op_eq (pe_lenS (by rfl) T.b_len (pv 0)) pe_int (nomark _))))), ?_⟩
    refine ⟨_, rfl, _, _, _, _, _, rfl, .ty _, tyx_tup hS, kit_ty (by decide +kernel), _, rfl, iteT ?_⟩
    refine ⟨_, rfl, a, xs, rfl, .inr hS, rfl, ?_⟩
    have e : decide (V.int (xs.length : Int) = V.int 2) = decide (xs.length = 2) := by
      refine decide_eq_decide.mpr ⟨fun h => ?_, fun h => ?_⟩
      · injection h with h
        omega
      · rw [h]
        rfl
    show Q (.bl (decide (V.int (xs.length : Int) = V.int 2))) H
    rw [e]
    exact q
/-- each text ahead of the next one -/
def spAscN (K : PySem.W.Frag) : Sp := fun vs H Q _ => (∃ (a : Addr) (l : List Str), vs = [.ref a] ∧ SqT K H a (l.map V.str) ∧ l.length ≤ 1000 ∧ l.Pairwise (fun a b => sLt a b = true) ∧ ∀ H', Same H H' → Q (.bl true) H') ∨
  (∃ (a : Addr) (vs' : List V) (l : List (Str × Str)), vs = [.ref a] ∧ SqT K H a vs' ∧ DpAll K H vs' (l.map dPair) ∧ l.length ≤ 1000 ∧ l.Pairwise (fun p q => (if p.1 == q.1 then (if p.2 == q.2 then false else sLt p.2 q.2) else sLt p.1 q.1) = true) ∧ ∀ H', Same H H' → Q (.bl true) H')
theorem all_true : ∀ n : Nat, (List.replicate n true).all id = true
  | 0 => rfl
  | n + 1 => by
    rw [List.replicate_succ, List.all_cons, all_true n]
    rfl
theorem map_rep (n : Nat) : (List.replicate n true).map V.bl = List.replicate n (V.bl true) := by
  rw [List.map_replicate]
theorem c_is_ascending (T : Tx K mg) : Cl P w K mg base CX0 1 "is_ascending" (spAscN K) := by
  refine cl0 T.d_is_ascending (ps := ["items"]) (fun _ _ _ _ _ _ us hl => match us, hl with | [_], _ => rfl) sc_is_ascending (fun vs H Q E h => ?_) (fun f cdv A outer st H vs Q E hr h => ?_)
  · rcases h with ⟨a, l, rfl, _⟩ | ⟨a, l, _, rfl, _⟩ <;> rfl
  · have nd := sc_is_ascending.nd
    have hu := hr.units
    rcases h with ⟨a, l, rfl, hS, hlen, hP, q⟩ | ⟨a, vs', l, rfl, hS, hD, hlen, hP, q⟩
    · refine ⟨_, pss_one (ps_ret (pe_callB (cr_all rfl) (by rfl) T.b_all (by decide +kernel) (pa_cons (pe_lc (own := [("one", 1), ("other", 2)]) (g := gTup K 2 (gCons (gName 1) (gCons (gName 2) gNil))) (tt := tYes) (by rfl) nd
        (RZ.pi_zipA (by rfl) T.b_zip (pa_cons (pv 0) (pa_cons (pe_slice sl_tupA (pv 0) (po_some pe_int) po_none) pa_nil)))
        (blkOk_by (own := [("one", 1), ("other", 2)]) (N := ["items", "one", "other"]) (sc := defScope s_is_ascending) (by decide +kernel))
        (fun _ _ _ _ _ => pg_tup rfl (pgs_cons (pg_name (i := 1) nd rfl (Or.inl rfl)) (pgs_cons (pg_name (i := 2) nd rfl (Or.inl rfl)) pgs_nil))) (fun _ _ _ _ _ => pts_nil) (fun _ _ _ _ _ => pe_cmpR op_lt_str (pv 1) (pv 2) (nomark _))) pa_nil))), ?_⟩
      refine ⟨_, rfl, _, rfl, 1, rfl, ?_⟩
      refine noPart ?_
      refine sl_tail hS (fun e => ?_) (fun hne b hb => ?_)
      rotate_left
      · have hB : SqT K (upd H b (.tup ((l.map V.str).drop 1))) b ((l.drop 1).map V.str) := by
          rw [List.map_drop]
          exact SqT.of upd_same
        have hA := (Tk.of (same_upd (o := .tup ((l.map V.str).drop 1)) hb)).sqT hS
        have sm := same_upd (o := .tup ((l.map V.str).drop 1)) hb
        generalize upd H b (.tup ((l.map V.str).drop 1)) = H1 at hA hB sm ⊢
        refine ⟨a, b, _, _, rfl, .inr ⟨hA, hB, fun D hD => ?_⟩⟩
        refine lc_it (walk_zipT (xs := l.map V.str) (ys := (l.drop 1).map V.str) rfl) (fun i H' => H' D = some (.lst (List.replicate i (V.bl true))) ∧ Same H1 H') ⟨upd_same, same_upd hD⟩ (fun i H' _ ⟨_, s'⟩ => ⟨(Tk.of s').sqT hA, (Tk.of s').sqT hB⟩)
          (fun i x H2 H3 hi ⟨eD, s'⟩ hy => ?_) (fun H2 ⟨eD, s'⟩ => ?_)
        · obtain ⟨Tt, x1, x2, rfl, nT, rfl, f1, f2⟩ := hy
          obtain ⟨y1, g1, rfl⟩ := str_at f1
          obtain ⟨y2, g2, rfl⟩ := str_at f2
          have nDT : D ≠ Tt := ne_of_none eD nT
          refine ⟨Tt, _, rfl, SqT.of upd_same, rfl, _, _, rfl, _, _, rfl, rfl, rfl, yes_ ?_⟩
          refine ⟨_, rfl, _, rfl, _, _, rfl, rfl, _, by rw [upd_ne nDT]; exact eD, ?_, ?_, ?_⟩
          · rw [List.length_replicate, List.length_map, List.length_map] at *
            exact small1000 (by omega)
          · rw [upd_same]
            have lt : sLt y1 y2 = true := by
              rw [List.getElem?_drop] at g2
              obtain ⟨h1, e1⟩ := List.getElem?_eq_some_iff.mp g1
              obtain ⟨h2, e2⟩ := List.getElem?_eq_some_iff.mp g2
              rw [← e1, ← e2]
              exact List.pairwise_iff_getElem.mp hP i (1 + i) h1 h2 (by omega)
            have e : decide (y1.cps.toList < y2.cps.toList) = true := lt
            rw [e, List.replicate_succ']
          · exact same_put (same_new s' nT) hD
        · refine ⟨D, List.replicate _ true, rfl, SqL.of (by rw [map_rep]; exact eD), ?_⟩
          rw [all_true]
          exact q _ (sm.trans s')
      · have e0 : l = [] := List.map_eq_nil_iff.mp e
        subst e0
        refine ⟨a, a, _, _, rfl, .inr ⟨hS, hS, fun D hD => ?_⟩⟩
        refine lc_it (walk_zipT (xs := []) (ys := []) rfl) (fun i H' => H' D = some (.lst []) ∧ Same H H') ⟨upd_same, same_upd hD⟩ (fun i H' _ ⟨_, s'⟩ => ⟨(Tk.of s').sqT hS, (Tk.of s').sqT hS⟩)
          (fun i x H2 H3 hi _ _ => absurd hi (Nat.not_lt_zero _)) (fun H2 ⟨eD, s'⟩ => ?_)
        exact ⟨D, [], rfl, SqL.of eD, q _ s'⟩
    · refine ⟨_, pss_one (ps_ret (pe_callB (cr_all rfl) (by rfl) T.b_all (by decide +kernel) (pa_cons (pe_lc (own := [("one", 1), ("other", 2)]) (g := gTup K 2 (gCons (gName 1) (gCons (gName 2) gNil))) (tt := tYes) (by rfl) nd
        (RZ.pi_zipA (by rfl) T.b_zip (pa_cons (pv 0) (pa_cons (pe_slice sl_tupA (pv 0) (po_some pe_int) po_none) pa_nil)))
        (blkOk_by (own := [("one", 1), ("other", 2)]) (N := ["items", "one", "other"]) (sc := defScope s_is_ascending) (by decide +kernel))
        (fun _ _ _ _ _ => pg_tup rfl (pgs_cons (pg_name (i := 1) nd rfl (Or.inl rfl)) (pgs_cons (pg_name (i := 2) nd rfl (Or.inl rfl)) pgs_nil))) (fun _ _ _ _ _ => pts_nil) (fun _ _ _ _ _ => pe_cmpR (op_ltSSk (K := K) rfl hu) (pv 1) (pv 2) (nomark _))) pa_nil))), ?_⟩
      refine ⟨_, rfl, _, rfl, 1, rfl, ?_⟩
      have hl := hD.len
      rw [List.length_map] at hl
      refine noPart ?_
      refine sl_tail hS (fun e => ?_) (fun hne b hb => ?_)
      rotate_left
      · have hB : SqT K (upd H b (.tup (vs'.drop 1))) b (vs'.drop 1) := SqT.of upd_same
        have hA := (Tk.of (same_upd (o := .tup (vs'.drop 1)) hb)).sqT hS
        have sm := same_upd (o := .tup (vs'.drop 1)) hb
        generalize upd H b (.tup (vs'.drop 1)) = H1 at hA hB sm ⊢
        refine ⟨a, b, _, _, rfl, .inr ⟨hA, hB, fun D hD' => ?_⟩⟩
        refine lc_it (walk_zipT (xs := vs') (ys := vs'.drop 1) rfl) (fun i H' => H' D = some (.lst (List.replicate i (V.bl true))) ∧ Same H1 H') ⟨upd_same, same_upd hD'⟩ (fun i H' _ ⟨_, s'⟩ => ⟨(Tk.of s').sqT hA, (Tk.of s').sqT hB⟩)
          (fun i x H2 H3 hi ⟨eD, s'⟩ hy => ?_) (fun H2 ⟨eD, s'⟩ => ?_)
        · obtain ⟨Tt, x1, x2, rfl, nT, rfl, f1, f2⟩ := hy
          have f1 : vs'[i]? = some x1 := f1
          have f2 : (vs'.drop 1)[i]? = some x2 := f2
          rw [List.getElem?_drop] at f2
          obtain ⟨d1, g1, p1⟩ := hD.get f1
          obtain ⟨d2, g2, p2⟩ := hD.get f2
          rw [List.getElem?_map] at g1 g2
          obtain ⟨y1, k1, rfl⟩ := Option.map_eq_some_iff.mp g1
          obtain ⟨y2, k2, rfl⟩ := Option.map_eq_some_iff.mp g2
          obtain ⟨b1, rfl, c1⟩ := p1.pair
          obtain ⟨b2, rfl, c2⟩ := p2.pair
          have kT : Tk H (upd H2 Tt (.tup [.ref b1, .ref b2])) := (Tk.of (sm.trans s')).new nT
          have nDT : D ≠ Tt := ne_of_none eD nT
          refine ⟨Tt, _, rfl, SqT.of upd_same, rfl, _, _, rfl, _, _, rfl, rfl, rfl, yes_ ?_⟩
          refine ⟨_, rfl, _, rfl, _, _, _, _, _, _, rfl, rfl, kT.sqT c1, kT.sqT c2, _, by rw [upd_ne nDT]; exact eD, ?_, ?_, ?_⟩
          · rw [List.length_replicate]
            exact small1000 (by omega)
          · rw [upd_same]
            have lt : (if y1.1 == y2.1 then (if y1.2 == y2.2 then false else sLt y1.2 y2.2) else sLt y1.1 y2.1) = true := by
              obtain ⟨h1, e1⟩ := List.getElem?_eq_some_iff.mp k1
              obtain ⟨h2, e2⟩ := List.getElem?_eq_some_iff.mp k2
              rw [← e1, ← e2]
              exact List.pairwise_iff_getElem.mp hP i (1 + i) h1 h2 (by omega)
            rw [lt, List.replicate_succ']
          · exact same_put (same_new s' nT) hD'
        · refine ⟨D, List.replicate _ true, rfl, SqL.of (by rw [map_rep]; exact eD), ?_⟩
          rw [all_true]
          exact q _ (sm.trans s')
      · subst e
        refine ⟨a, a, _, _, rfl, .inr ⟨hS, hS, fun D hD' => ?_⟩⟩
        refine lc_it (walk_zipT (xs := []) (ys := []) rfl) (fun i H' => H' D = some (.lst []) ∧ Same H H') ⟨upd_same, same_upd hD'⟩ (fun i H' _ ⟨_, s'⟩ => ⟨(Tk.of s').sqT hS, (Tk.of s').sqT hS⟩)
          (fun i x H2 H3 hi _ _ => absurd hi (Nat.not_lt_zero _)) (fun H2 ⟨eD, s'⟩ => ?_)
        exact ⟨D, [], rfl, SqL.of eD, q _ s'⟩
end
end XB
set_option Elab.async false
set_option linter.all false
set_option maxRecDepth 100000
set_option maxHeartbeats 4000000
namespace XB
open PySem PySem.Spec PyProof.Rows L2
theorem inV_strs (a : Str) : ∀ l : List Str, inV (.str a) (l.map V.str) = l.contains a
  | [] => rfl
  | x :: l => by
    have ih := inV_strs a l
    unfold inV at ih ⊢
    rw [List.map_cons, List.any_cons, ih, List.contains_cons]
    congr 1
    show decide (x = a) = (a == x)
    by_cases e : x = a
    · subst e
      simp
    · have : a ≠ x := fun q => e q.symm
      simp [e, this]
theorem flat_strs (l : List Str) : (l.map V.str).all flatV = true := by
  rw [List.all_map]
  exact List.all_eq_true.mpr fun _ _ => rfl
section
variable {P : Program} {w : World} {K : PySem.W.Frag} {mg : Str → Option Value} {base : Heap}
def GoodName (n : Str) : Prop := 1 ≤ n.length ∧ n.length ≤ 6 ∧ ∀ c ∈ n.cps.toList, 97 ≤ c ∧ c ≤ 122
def spIsName : Sp := fun vs H Q _ => ∃ n : Str, vs = [.str n] ∧ GoodName n ∧ ∀ H', Same H H' → Q (.bl true) H'
theorem c_is_name (T : Tx K mg) : Cl P w K mg base CX0 1 "is_name" spIsName := by
  refine cl0 T.d_is_name (ps := ["value"]) (fun _ _ _ _ _ _ us hl => match us, hl with | [_], _ => rfl) sc_is_name (fun vs H Q E h => ?_) (fun f cdv A outer st H vs Q E hr h => ?_)
  · obtain ⟨n, rfl, _⟩ := h
    rfl
  · obtain ⟨n, rfl, ⟨n1, n6, nc⟩, q⟩ := h
    have nd := sc_is_name.nd
    obtain ⟨tk, hML⟩ := T.g_MOST_LETTERS
    have hsz : n.length ≤ sizeLine := Nat.le_trans n6 (by decide)
    refine ⟨_, pss_cons (ps_if (PW.pt (pw_or (pt_not (pt_val (pe_isT "str" (by rfl) T.b_isinstance (by rfl) T.b_str (by decide +kernel) (pv 0)))) (pw_or1 (pt_not (pt_chain op_le op_le pe_int (pe_lenT (by rfl) T.b_len (pv 0)) (pe_glob (v := .int 6) (by rfl) hML ⟨_, rfl⟩)))))) pss_never pss_nil)
      (pss_one (ps_ret (pe_callB (cr_all rfl) (by rfl) T.b_all (by decide +kernel) (pa_cons (pe_lc (own := [("letter", 1)]) (g := gName 1) (tt := tYes) (by rfl) nd (pi_str (pv 0))
        (blkOk_by (own := [("letter", 1)]) (N := ["value", "letter"]) (sc := defScope s_is_name) (by decide +kernel)) (fun _ _ _ _ _ => pg_name (i := 1) nd rfl (Or.inl rfl)) (fun _ _ _ _ _ => pts_nil) (fun _ _ _ _ _ => pe_chain op_le_str op_le_str pe_str (pv 1) pe_str)) pa_nil)))), ?_⟩
    refine ⟨_, rfl, _, _, _, _, _, rfl, .ty _, .base (.str n), kit_ty (r := true) (by decide +kernel), _, rfl, iteF ?_⟩
    refine ⟨_, rfl, n, rfl, hsz, _, _, rfl, rfl, _, rfl, ?_⟩
    rw [decide_eq_true (show (1 : Int) ≤ (n.length : Int) by omega)]
    refine iteT ⟨_, _, rfl, rfl, _, rfl, ?_⟩
    rw [decide_eq_true (show (n.length : Int) ≤ 6 by omega)]
    refine iteF ?_
    refine ⟨_, rfl, n, rfl, fun D hD => ?_⟩
    refine lc_it walk_str (fun i H' => H' D = some (.lst (List.replicate i (V.bl true))) ∧ Same H H') ⟨upd_same, same_upd hD⟩ (fun _ _ _ _ => True.intro) (fun i x H2 H3 hi ⟨eD, s'⟩ hy => ?_) (fun H2 ⟨eD, s'⟩ => ?_)
    · obtain ⟨rfl, c, hc, rfl⟩ := hy
      have hm : c ∈ n.cps.toList := by
        rw [← Array.getElem?_toList] at hc
        exact List.mem_of_getElem? hc
      obtain ⟨c1, c2⟩ := nc c hm
      refine ⟨rfl, yes_ ?_⟩
      refine ⟨_, rfl, _, _, rfl, rfl, _, rfl, ?_⟩
      have e1 : (!decide ((⟨#[c]⟩ : Str).cps.toList < ("a" : Str).cps.toList)) = true := by
        show (!decide ([c] < [97])) = true
        simp [List.cons_lt_cons_iff]
        omega
      have e2 : (!decide (("z" : Str).cps.toList < (⟨#[c]⟩ : Str).cps.toList)) = true := by
        show (!decide ([122] < [c])) = true
        simp [List.cons_lt_cons_iff]
        omega
      rw [e1]
      refine iteT ⟨_, _, rfl, rfl, ?_⟩
      rw [e2]
      refine ⟨_, eD, ?_, ?_, same_put s' hD⟩
      · rw [List.length_replicate]
        have : n.cps.size = n.length := rfl
        exact small1000 (by omega)
      · rw [upd_same, List.replicate_succ']
    · refine ⟨D, List.replicate _ true, rfl, SqL.of (by rw [map_rep]; exact eD), ?_⟩
      rw [all_true]
      exact q _ s'
def spAreNames (K : PySem.W.Frag) : Sp := fun vs H Q _ => ∃ (a : Addr) (l : List Str), vs = [.ref a] ∧ SqT K H a (l.map V.str) ∧ 1 ≤ l.length ∧ l.length ≤ 6 ∧ (∀ n ∈ l, GoodName n) ∧ l.Pairwise (fun a b => sLt a b = true) ∧ ∀ H', Same H H' → Q (.bl true) H'
theorem c_are_names (T : Tx K mg) : Cl P w K mg base CX0 2 "are_names" (spAreNames K) := by
  refine cl0 T.d_are_names (ps := ["value"]) (fun _ _ _ _ _ _ us hl => match us, hl with | [_], _ => rfl) sc_are_names (fun vs H Q E h => ?_) (fun f cdv A outer st H vs Q E hr h => ?_)
  · obtain ⟨a, l, rfl, _⟩ := h
    rfl
  · obtain ⟨a, l, rfl, hS, l1, l6, hg, hP, q⟩ := h
    have nd := sc_are_names.nd
    obtain ⟨tk, hMN⟩ := T.g_MOST_NAMES
    refine ⟨_, pss_cons (ps_if (PW.pt (pw_or (pt_not (pt_val (pe_isT "tuple" (by rfl) T.b_isinstance (by rfl) T.b_tuple (by decide +kernel) (pv 0)))) (pw_or1 (pt_not (pt_chain op_le op_le pe_int (pe_lenS (by rfl) T.b_len (pv 0)) (pe_glob (v := .int 6) (by rfl) hMN ⟨_, rfl⟩)))))) pss_never pss_nil)
      (pss_one (ps_ret (pe_and (pe_callB (cr_all rfl) (by rfl) T.b_all (by decide +kernel) (pa_cons (pe_lc (own := [("item", 1)]) (g := gName 1) (tt := tYes) (by rfl) nd (pi_tup (pv 0))
        (blkOk_by (own := [("item", 1)]) (N := ["value", "item"]) (sc := defScope s_are_names) (by decide +kernel)) (fun _ _ _ _ _ => pg_name (i := 1) nd rfl (Or.inl rfl)) (fun _ _ _ _ _ => pts_nil) (fun _ _ _ _ _ => pe_k (c_is_name T) hr (by decide) (by rfl) (pa_cons (pv 1) pa_nil))) pa_nil))
        (pe_one (pe_k (c_is_ascending T) hr (by decide) (by rfl) (pa_cons (pv 0) pa_nil)))))), ?_⟩
    refine ⟨_, rfl, _, _, _, _, _, rfl, .ty _, tyx_tup hS, kit_ty (r := true) (by decide +kernel), _, rfl, iteF ?_⟩
    refine ⟨_, rfl, a, _, rfl, .inr hS, _, _, rfl, rfl, _, rfl, ?_⟩
    rw [List.length_map, decide_eq_true (show (1 : Int) ≤ (l.length : Int) by omega)]
    refine iteT ⟨_, _, rfl, rfl, _, rfl, ?_⟩
    rw [decide_eq_true (show (l.length : Int) ≤ 6 by omega)]
    refine iteF ?_
    refine ⟨_, rfl, a, rfl, ⟨_, hS⟩, fun D hD => ?_⟩
    refine lc_it (walk_tup (xs := l.map V.str)) (fun i H' => H' D = some (.lst (List.replicate i (V.bl true))) ∧ Same H H') ⟨upd_same, same_upd hD⟩ (fun _ _ _ ⟨_, s'⟩ => (Tk.of s').sqT hS) (fun i x H2 H3 hi ⟨eD, s'⟩ hy => ?_) (fun H2 ⟨eD, s'⟩ => ?_)
    · obtain ⟨rfl, hx⟩ := hy
      obtain ⟨n, hn, rfl⟩ := str_at hx
      refine ⟨rfl, yes_ ?_⟩
      refine ⟨_, rfl, n, rfl, hg n (List.mem_of_getElem? hn), fun H4 s4 => ⟨_, s4 _ _ eD, ?_, ?_, same_put (s'.trans s4) hD⟩⟩
      · rw [List.length_map] at hi
        rw [List.length_replicate]
        exact small1000 (by omega)
      · rw [upd_same, List.replicate_succ']
    · refine ⟨D, List.replicate _ true, rfl, SqL.of (by rw [map_rep]; exact eD), _, rfl, ?_⟩
      rw [all_true]
      refine iteT ?_
      refine ⟨_, rfl, .inl ⟨a, l, rfl, (Tk.of s').sqT hS, by omega, hP, fun H4 s4 => q _ (s'.trans s4)⟩⟩
def spIsPairOf (K : PySem.W.Frag) : Sp := fun vs H Q _ => ∃ (n v : Addr) (l : List Str) (a b : Str), vs = [.ref n, .ref v] ∧ SqT K H n (l.map V.str) ∧ SqT K H v [.str a, .str b] ∧ a ∈ l ∧ b ∈ l ∧ sLt a b = true ∧ Q (.bl true) H
def spArePairs (K : PySem.W.Frag) : Sp := fun vs H Q _ => ∃ (n v : Addr) (ps : List V) (F : Fld), vs = [.ref n, .ref v] ∧ SqT K H n (F.names.map V.str) ∧ SqT K H v ps ∧ DpAll K H ps (F.pairs.map dPair) ∧ F.Ok ∧ ∀ H', Same H H' → Q (.bl true) H'
def spNeedField (K : PySem.W.Frag) : Sp := fun vs H Q _ => ∃ (a : Addr) (F : Fld), vs = [.ref a] ∧ Dp K H (.ref a) (dField F) ∧ F.Ok ∧ ∀ H', Same H H' → Q (.ref a) H'
end
end XB
set_option linter.all false
namespace XM
section
variable {α : Type} [DecidableEq α] {O : Ord α}
/-- the place of the last that touches (from the last piece on), or -1 -/
def lastIx (p : α → Bool) : Row α → Int
  | [] => -1
  | y :: r => if p y.1 then (r.length : Int) else lastIx p r
/-- a row cut where the last one touches -/
theorem last_cut {p : α → Bool} : ∀ r : Row α, (lastIx p r = -1 ∧ ∀ y ∈ r, p y.1 = false) ∨ ∃ v z r0, r = v ++ z :: r0 ∧ lastIx p r = (r0.length : Int) ∧ p z.1 = true ∧ ∀ y ∈ v, p y.1 = false
  | [] => .inl ⟨rfl, fun _ h => nomatch h⟩
  | y :: r => by
    cases h : p y.1
    · have e : lastIx p (y :: r) = lastIx p r := by
        unfold lastIx
        rw [if_neg (by rw [h]; decide)]
        cases r <;> rfl
      rcases last_cut (p := p) r with ⟨h1, h2⟩ | ⟨v, z, r0, rfl, h2, h3, h4⟩
      · exact .inl ⟨by rw [e, h1], fun w hw => (List.mem_cons.mp hw).elim (fun q => q ▸ h) (h2 w)⟩
      · exact .inr ⟨y :: v, z, r0, rfl, by rw [e, h2], h3, fun w hw => (List.mem_cons.mp hw).elim (fun q => q ▸ h) (h4 w)⟩
    · refine .inr ⟨[], y, r, rfl, ?_, h, fun _ h => nomatch h⟩
      unfold lastIx
      rw [if_pos h]
/-- how many stand at the begin that are less -/
def lead (O : Ord α) (a : α) : Row α → Nat
  | [] => 0
  | y :: r => if O.lt y.1 a then lead O a r + 1 else 0
theorem lead_le {a : α} : ∀ w : Row α, lead O a w ≤ w.length
  | [] => Nat.le_refl _
  | y :: r => by
    have := lead_le (a := a) r
    unfold lead
    split <;> simp <;> omega
theorem lead_snoc {a : α} {y : α × Int} : ∀ {w : Row α}, lead O a (w ++ [y]) = if lead O a w = w.length then (if O.lt y.1 a then w.length + 1 else w.length) else lead O a w
  | [] => by
    show (if O.lt y.1 a then 0 + 1 else 0) = _
    rw [if_pos (show lead O a [] = ([] : Row α).length from rfl)]
    rfl
  | z :: w => by
    have ih := lead_snoc (a := a) (y := y) (w := w)
    have hle := lead_le (O := O) (a := a) w
    show (if O.lt z.1 a then lead O a (w ++ [y]) + 1 else 0) = if (if O.lt z.1 a then lead O a w + 1 else 0) = (z :: w).length then _ else (if O.lt z.1 a then lead O a w + 1 else 0)
    cases h : O.lt z.1 a
    · have n : ¬ (0 = (z :: w).length) := by simp
      have q : ∀ {c d : Nat}, (if false = true then c else d) = d := fun {_ _} => rfl
      rw [q, q, if_neg n]
    · have q : ∀ {c d : Nat}, (if true = true then c else d) = c := fun {_ _} => rfl
      rw [q, q, ih, List.length_cons]
      by_cases e : lead O a w = w.length
      · rw [if_pos e, if_pos (congrArg (· + 1) e)]
        cases O.lt y.1 a <;> rfl
      · rw [if_neg e, if_neg (fun q => e (Nat.succ.inj q))]
theorem lead_all {a : α} : ∀ {w : Row α}, lead O a w = w.length ↔ ∀ y ∈ w, O.lt y.1 a = true
  | [] => by
    constructor
    · intro _ y h
      cases h
    · intro _
      rfl
  | y :: w => by
    have ih := lead_all (a := a) (w := w)
    show (if O.lt y.1 a then lead O a w + 1 else 0) = w.length + 1 ↔ _
    cases h : O.lt y.1 a
    · rw [if_neg (by decide)]
      constructor
      · intro q
        omega
      · intro q
        rw [q y List.mem_cons_self] at h
        cases h
    · rw [if_pos rfl]
      constructor
      · intro q z hz
        rcases List.mem_cons.mp hz with rfl | hz
        · exact h
        · exact ih.mp (by omega) z hz
      · intro q
        have := ih.mpr fun z hz => q z (List.mem_cons_of_mem _ hz)
        omega
/-- put among those that it may pass, ahead of the first greater one -/
def among (O : Ord α) (x : α × Int) (w : Row α) : Row α := w.take (lead O x.1 w) ++ x :: w.drop (lead O x.1 w)
theorem ins_among {x : α × Int} {r0 : Row α} (h0 : top O x.1 r0 = true) : ∀ {v : Row α}, (∀ y ∈ v, O.tc y.1 x.1 = false) → ins O x (v ++ r0) = (among O x v.reverse).reverse ++ r0 ∧ (top O x.1 (v ++ r0) = true ↔ ∀ y ∈ v, O.lt y.1 x.1 = true)
  | [], _ => ⟨by rw [List.nil_append, ins_top h0]; rfl, Iff.intro (fun _ _ h => (by cases h)) (fun _ => h0)⟩
  | y :: v, h => by
    have hy := h y List.mem_cons_self
    obtain ⟨i1, i2⟩ := ins_among h0 (v := v) fun z hz => h z (List.mem_cons_of_mem _ hz)
    have ht : top O x.1 (y :: v ++ r0) = (O.lt y.1 x.1 && top O x.1 (v ++ r0)) := top_apart hy
    have e2 : top O x.1 (y :: v ++ r0) = true ↔ ∀ z ∈ y :: v, O.lt z.1 x.1 = true := by
      rw [ht, Bool.and_eq_true, i2]
      constructor
      · rintro ⟨q1, q2⟩ z hz
        rcases List.mem_cons.mp hz with rfl | hz
        · exact q1
        · exact q2 z hz
      · exact fun q => ⟨q y List.mem_cons_self, fun z hz => q z (List.mem_cons_of_mem _ hz)⟩
    refine ⟨?_, e2⟩
    show ins O x (y :: (v ++ r0)) = _
    rw [ins_apart hy, i1, List.reverse_cons]
    have hl : lead O x.1 v.reverse = v.reverse.length ↔ top O x.1 (v ++ r0) = true := by
      rw [lead_all, i2]
      simp
    have hle := lead_le (O := O) (a := x.1) v.reverse
    unfold among
    rw [lead_snoc]
    cases hA : O.lt y.1 x.1 && top O x.1 (v ++ r0)
    · rw [if_neg (by decide)]
      have hk : (if lead O x.1 v.reverse = v.reverse.length then (if O.lt y.1 x.1 then v.reverse.length + 1 else v.reverse.length) else lead O x.1 v.reverse) = lead O x.1 v.reverse := by
        by_cases e : lead O x.1 v.reverse = v.reverse.length
        · rw [hl.mp e, Bool.and_true] at hA
          rw [if_pos e, hA, if_neg (by decide), e]
        · rw [if_neg e]
      rw [hk, List.take_append_of_le_length hle, List.drop_append_of_le_length hle]
      simp
    · obtain ⟨a1, a2⟩ := Bool.and_eq_true_iff.mp hA
      rw [if_pos rfl, if_pos (hl.mpr a2), if_pos a1]
      have e : v.reverse.length + 1 = (v.reverse ++ [y]).length := by simp
      rw [e, List.take_length, List.drop_length]
      simp
theorem ins_merge {a : α} {s t : Int} {r0 : Row α} : ∀ {v : Row α}, (∀ y ∈ v, O.tc y.1 a = false) → ins O (a, t) (v ++ (a, s) :: r0) = v ++ (if s + t = 0 then r0 else (a, s + t) :: r0) ∧ top O a (v ++ (a, s) :: r0) = false
  | [], _ => ⟨ins_same, top_same⟩
  | y :: v, h => by
    have hy := h y List.mem_cons_self
    obtain ⟨i1, i2⟩ := ins_merge (s := s) (t := t) (r0 := r0) (v := v) fun z hz => h z (List.mem_cons_of_mem _ hz)
    have ht : top O a (y :: v ++ (a, s) :: r0) = (O.lt y.1 a && top O a (v ++ (a, s) :: r0)) := top_apart hy
    refine ⟨?_, by rw [ht, i2, Bool.and_false]⟩
    show ins O (a, t) (y :: (v ++ (a, s) :: r0)) = _
    rw [ins_apart (x := (a, t)) hy, i2, Bool.and_false, if_neg (by decide), i1]
    rfl
/-- what the program does with a step, told by places of the row in its own order -/
theorem ins_code {l : Row α} {x : α × Int} {k : Int} (hk : lastIx (fun b => O.tc b x.1) l.reverse = k) :
    (k = -1 ∧ ins O x l.reverse = (among O x l).reverse) ∨
    ∃ (i : Nat) (z : α × Int), k = (i : Int) ∧ l[i]? = some z ∧
      ((z.1 ≠ x.1 ∧ ins O x l.reverse = (l.take (i + 1) ++ among O x (l.drop (i + 1))).reverse) ∨
       (z.1 = x.1 ∧ z.2 + x.2 ≠ 0 ∧ ins O x l.reverse = (l.set i (x.1, z.2 + x.2)).reverse) ∨
       (z.1 = x.1 ∧ z.2 + x.2 = 0 ∧ ins O x l.reverse = (l.eraseIdx i).reverse)) := by
  rcases last_cut (p := fun b => O.tc b x.1) l.reverse with ⟨h1, h2⟩ | ⟨v, z, r0, e, h2, h3, h4⟩
  · refine .inl ⟨by rw [← hk, h1], ?_⟩
    have := (ins_among (O := O) (x := x) (r0 := []) rfl (v := l.reverse) h2).1
    rw [List.append_nil, List.append_nil, List.reverse_reverse] at this
    exact this
  · right
    have el : l = r0.reverse ++ z :: v.reverse := by
      have := congrArg List.reverse e
      simpa using this
    have hi : l[r0.length]? = some z := by
      rw [el, List.getElem?_append_right (by simp)]
      simp
    refine ⟨r0.length, z, by rw [← hk, h2], hi, ?_⟩
    by_cases hz : z.1 = x.1
    · obtain ⟨z1, z2⟩ := z
      obtain ⟨x1, x2⟩ := x
      have hz : z1 = x1 := hz
      subst hz
      have m := (ins_merge (O := O) (a := z1) (s := z2) (t := x2) (r0 := r0) h4).1
      right
      by_cases h0 : z2 + x2 = 0
      · right
        refine ⟨rfl, h0, ?_⟩
        rw [e, m, if_pos h0, el]
        rw [List.eraseIdx_append_of_length_le (by simp)]
        simp
      · left
        refine ⟨rfl, h0, ?_⟩
        rw [e, m, if_neg h0, el]
        rw [List.set_append_right _ _ (by simp)]
        simp
    · left
      refine ⟨hz, ?_⟩
      have hc : O.tc z.1 x.1 = true := h3
      have m := (ins_among (O := O) (x := x) (r0 := z :: r0) (top_touch hc hz) h4).1
      rw [e, m]
      have t1 : l.take (r0.length + 1) = r0.reverse ++ [z] := by
        rw [el, List.take_append, List.length_reverse, Nat.add_sub_cancel_left, List.take_of_length_le (by simp)]
        rfl
      have t2 : l.drop (r0.length + 1) = v.reverse := by
        rw [el, List.drop_append, List.length_reverse, Nat.add_sub_cancel_left, List.drop_of_length_le (by simp)]
        rfl
      rw [t1, t2]
      simp
end
end XM
set_option Elab.async false
set_option linter.all false
set_option maxRecDepth 100000
set_option maxHeartbeats 4000000
namespace XB
open PySem PySem.Spec PyProof.Rows L2
theorem u65 {k : Nat} {A : Around} (r : Room k A) : A.units + 65 < cLine := by
  have := r.un
  omega
section
variable {X : Cx}
theorem op_inDTk {K : PySem.W.Frag} (hk : X.K = K) (hu : X.A.units + 65 < cLine) : OpR X (compareOp .In) (fun x y H Q => ∃ d ds, Dp K H x d ∧ Dp K H y (.tuple ds) ∧ SeqAt.shaped d = true ∧ SeqAt.shaped (.tuple ds) = true ∧ Q (.bl (ds.any fun z => PyData.eqv z d)) H) := by
  subst hk
  intro pins s σ H x y v u Q I rx ry h
  obtain ⟨d, ds, hd, he, sd, se, q⟩ := h
  obtain ⟨as, r1⟩ := Dp.reads I d x v hd rx
  obtain ⟨bs, r2⟩ := Dp.reads I (.tuple ds) y u he ry
  exact SeqAt.in_tuple_reads r2 r1 (SeqAt.canLay_of_shaped se) (SeqAt.canLay_of_shaped sd) (room_in_shaped sd hu) ⟨.bl _, H, I, rfl, q⟩
end
section
variable {P : Program} {w : World} {K : PySem.W.Frag} {mg : Str → Option Value} {base : Heap}
def spIsWhole : Sp := fun vs H Q _ => ∃ z : Int, vs = [.int z] ∧ Q (.bl true) H
theorem c_is_whole (T : Tx K mg) : Cl P w K mg base CX0 1 "is_whole" spIsWhole := by
  refine cl0 T.d_is_whole (ps := ["value"]) (fun _ _ _ _ _ _ us hl => match us, hl with | [_], _ => rfl) sc_is_whole (fun vs H Q E h => ?_) (fun f cdv A outer st H vs Q E hr h => ?_)
  · obtain ⟨z, rfl, _⟩ := h
    rfl
  · obtain ⟨z, rfl, q⟩ := h
    refine ⟨_, pss_one (ps_ret (pe_and (pe_isT "int" (by rfl) T.b_isinstance (by rfl) T.b_int (by decide +kernel) (pv 0)) (pe_one (pe_not (pe_isT "bool" (by rfl) T.b_isinstance (by rfl) T.b_bool (by decide +kernel) (pv 0)))))), ?_⟩
    refine ⟨_, rfl, _, _, _, _, _, rfl, .ty _, .base (.int z), kit_ty (r := true) (by decide +kernel), _, rfl, iteT ?_⟩
    refine ⟨_, rfl, _, _, _, _, _, rfl, .ty _, .base (.int z), kit_ty (r := false) (by decide +kernel), _, rfl, q⟩
def GoodTimes (t : Int) : Prop := t ≠ 0 ∧ -(10 ^ 30) ≤ t ∧ t ≤ 10 ^ 30
def spIsGreat (K : PySem.W.Frag) : Sp := fun vs H Q _ => ∃ (n v : Addr) (l : List Str) (s : Str × Int), vs = [.ref n, .ref v] ∧ SqT K H n (l.map V.str) ∧ SqT K H v [.str s.1, .int s.2] ∧ s.1 ∈ l ∧ s.2 ≠ 0 ∧ Q (.bl true) H
theorem c_is_great_step (T : Tx K mg) : Cl P w K mg base CX0 2 "is_great_step" (spIsGreat K) := by
  refine cl0 T.d_is_great_step (ps := ["names", "value"]) (fun _ _ _ _ _ _ us hl => match us, hl with | [_, _], _ => rfl) sc_is_great_step (fun vs H Q E h => ?_) (fun f cdv A outer st H vs Q E hr h => ?_)
  · obtain ⟨n, v, l, s, rfl, _⟩ := h
    rfl
  · obtain ⟨n, v, l, s, rfl, hN, hV, ha, t0, q⟩ := h
    have nd := sc_is_great_step.nd
    refine ⟨_, pss_cons (ps_if (pt_not (pt_val (pe_k (c_is_pair T) hr (by decide) (by rfl) (pa_cons (pv 1) pa_nil)))) pss_never pss_nil)
      (pss_cons (ps_asg (pv 1) (pg_tup rfl (pgs_cons (pg_name (i := 2) nd rfl (.inl rfl)) (pgs_cons (pg_name (i := 3) nd rfl (.inl rfl)) pgs_nil))))
      (pss_one (ps_ret (pe_and (pe_cmpR op_in_seq (pv 2) (pv 0) (by rfl)) (pe_and (pe_k (c_is_whole T) hr (by decide) (by rfl) (pa_cons (pv 3) pa_nil)) (pe_one (pe_cmpR op_ne (pv 3) pe_int (nomark _)))))))), ?_⟩
    refine ⟨_, rfl, v, _, rfl, hV, _, rfl, iteF ?_⟩
    refine ⟨_, rfl, v, _, rfl, hV, rfl, _, _, rfl, _, _, rfl, rfl, ?_⟩
    refine ⟨_, rfl, _, rfl, n, _, rfl, .inr hN, rfl, flat_strs l, _, rfl, ?_⟩
    rw [if_neg Bool.false_ne_true, inV_strs, show l.contains s.1 = true by simpa using ha]
    refine iteT ⟨_, rfl, _, rfl, _, rfl, iteT ?_⟩
    refine ⟨_, rfl, rfl, ?_⟩
    have e : (!decide (V.int s.2 = V.int 0)) = true := by
      rw [dec_int]
      simp [t0]
    rw [e]
    exact q
def spIsTimes : Sp := fun vs H Q _ => ∃ z : Int, vs = [.int z] ∧ GoodTimes z ∧ Q (.bl true) H
theorem c_is_times (T : Tx K mg) : Cl P w K mg base CX0 2 "is_times" spIsTimes := by
  refine cl0 T.d_is_times (ps := ["value"]) (fun _ _ _ _ _ _ us hl => match us, hl with | [_], _ => rfl) sc_is_times (fun vs H Q E h => ?_) (fun f cdv A outer st H vs Q E hr h => ?_)
  · obtain ⟨z, rfl, _⟩ := h
    rfl
  · obtain ⟨z, rfl, ⟨t0, t1, t2⟩, q⟩ := h
    obtain ⟨tk, hMT⟩ := T.g_MOST_TIMES
    refine ⟨_, pss_one (ps_ret (pe_and (pe_k (c_is_whole T) hr (by decide) (by rfl) (pa_cons (pv 0) pa_nil)) (pe_and (pe_cmpR op_ne (pv 0) pe_int (nomark _))
        (pe_one (pe_cmpR op_le (pe_callB call_abs (by rfl) T.b_abs (by decide +kernel) (pa_cons (pv 0) pa_nil)) (pe_glob (v := .int (10 ^ 30)) (by rfl) hMT ⟨_, rfl⟩) (nomark _)))))), ?_⟩
    refine ⟨_, rfl, _, rfl, _, rfl, iteT ?_⟩
    refine ⟨_, rfl, rfl, _, rfl, ?_⟩
    have e : (!decide (V.int z = V.int 0)) = true := by
      rw [dec_int]
      simp [t0]
    rw [e]
    refine iteT ⟨_, rfl, _, rfl, _, _, rfl, rfl, ?_⟩
    have e2 : decide ((if z < 0 then -z else z) ≤ 10 ^ 30) = true := by
      refine decide_eq_true ?_
      split <;> omega
    show Q (.bl (decide ((if z < 0 then -z else z) ≤ 10 ^ 30))) H
    rw [e2]
    exact q
def spIsStep (K : PySem.W.Frag) : Sp := fun vs H Q _ => ∃ (n v : Addr) (l : List Str) (s : Str × Int), vs = [.ref n, .ref v] ∧ SqT K H n (l.map V.str) ∧ SqT K H v [.str s.1, .int s.2] ∧ s.1 ∈ l ∧ GoodTimes s.2 ∧ Q (.bl true) H
def GoodScript (F : Fld) (l : List (Str × Int)) : Prop := l.length ≤ 60 ∧ ∀ s ∈ l, s.1 ∈ F.names ∧ GoodTimes s.2
def spNeedScript (K : PySem.W.Frag) : Sp := fun vs H Q _ => ∃ (a d : Addr) (F : Fld) (l : List (Str × Int)), vs = [.ref a, .ref d] ∧ Dp K H (.ref a) (dField F) ∧ F.Ok ∧ Dp K H (.ref d) (dSteps l) ∧ GoodScript F l ∧ ∀ H', Same H H' → Q (.ref d) H'
/-! ### touching -/
theorem any_pairs (ps : List (Str × Str)) (a b : Str) : (ps.map dPair).any (fun z => PyData.eqv z (dPair (a, b))) = ps.contains (a, b) := by
  induction ps with
  | nil => rfl
  | cons p r ih =>
    rw [List.map_cons, List.any_cons, ih, List.contains_cons]
    congr 1
    obtain ⟨c, d⟩ := p
    show (PyData.eqv (.str c) (.str a) && (PyData.eqv (.str d) (.str b) && true)) = ((a, b) == (c, d))
    show ((c == a) && ((d == b) && true)) = ((a == c) && (b == d))
    rw [Bool.and_true]
    rw [show (c == a) = (a == c) from BEq.comm, show (d == b) = (b == d) from BEq.comm]
theorem strOk_of {n : Str} (h : GoodName n) : PyData.strOk n = true := by
  obtain ⟨h1, h6, hc⟩ := h
  unfold PyData.strOk
  rw [← Array.all_toList, List.all_eq_true]
  intro c m
  have := hc c m
  exact decide_eq_true (by omega)
theorem lay_pair {p : Str × Str} (h1 : GoodName p.1) (h2 : GoodName p.2) : (dPair p).canLay0 = true := by
  show PyData.canLay0 (.tuple [.str p.1, .str p.2]) = true
  simp [PyData.canLay0, PyData.canLayAll0, strOk_of h1, strOk_of h2]
theorem sh_pair {p : Str × Str} (h1 : GoodName p.1) (h2 : GoodName p.2) : SeqAt.shaped (dPair p) = true := by
  unfold SeqAt.shaped
  rw [lay_pair h1 h2]
  show (true && _) = true
  simp [dPair, PyData.depth, PyData.depthAll]
theorem layPairs : ∀ {ps : List (Str × Str)}, (∀ p ∈ ps, GoodName p.1 ∧ GoodName p.2) → PyData.canLayAll0 (ps.map dPair) = true
  | [], _ => rfl
  | p :: ps, h => by
    rw [List.map_cons, PyData.canLayAll0, layPairs fun x hx => h x (List.mem_cons_of_mem _ hx), lay_pair (h p List.mem_cons_self).1 (h p List.mem_cons_self).2]
    rfl
theorem deepPairs : ∀ ps : List (Str × Str), PyData.depthAll (ps.map dPair) ≤ 2
  | [] => by decide
  | p :: ps => by
    rw [List.map_cons, PyData.depthAll]
    have := deepPairs ps
    have e : (dPair p).depth ≤ 2 := by
      show PyData.depth (.tuple [.str p.1, .str p.2]) ≤ 2
      simp [PyData.depth, PyData.depthAll]
    omega
theorem sh_pairs {ps : List (Str × Str)} (h : ∀ p ∈ ps, GoodName p.1 ∧ GoodName p.2) : SeqAt.shaped (.tuple (ps.map dPair)) = true := by
  have h2 := deepPairs ps
  show (PyData.canLayAll0 (ps.map dPair) && decide (PyData.depthAll (ps.map dPair) + 1 ≤ 64)) = true
  rw [layPairs h, Bool.true_and]
  exact decide_eq_true (by omega)
theorem Fld.Ok.good {F : Fld} (ok : F.Ok) : ∀ p ∈ F.pairs, GoodName p.1 ∧ GoodName p.2 := fun p hp => ⟨ok.sgn _ (ok.inN p hp).1, ok.sgn _ (ok.inN p hp).2⟩
def spAreApart (K : PySem.W.Frag) : Sp := fun vs H Q _ => ∃ (p : Addr) (ps : List V) (F : Fld) (a b : Str), vs = [.ref p, .str a, .str b] ∧ SqT K H p ps ∧ DpAll K H ps (F.pairs.map dPair) ∧ F.Ok ∧ a ∈ F.names ∧ b ∈ F.names ∧ ∀ H', Same H H' → Q (.bl (apart F a b)) H'
theorem c_are_apart (T : Tx K mg) : Cl P w K mg base CX0 1 "are_apart" (spAreApart K) := by
  refine cl0 T.d_are_apart (ps := ["pairs", "one", "other"]) (fun _ _ _ _ _ _ us hl => match us, hl with | [_, _, _], _ => rfl) sc_are_apart (fun vs H Q E h => ?_) (fun f cdv A outer st H vs Q E hr h => ?_)
  · obtain ⟨p, ps, F, a, b, rfl, _⟩ := h
    rfl
  · obtain ⟨p, ps, F, a, b, rfl, hP, hD, ok, ma, mb, q⟩ := h
    have hu := u65 hr
    refine ⟨_, pss_one (ps_ret (pe_cmpR (op_inDTk (K := K) rfl hu) (pe_tup (pa_cons (pe_callB (call_min2S rfl) (by rfl) T.b_min (by decide +kernel) (pa_cons (pv 1) (pa_cons (pv 2) pa_nil)))
      (pa_cons (pe_callB (call_max2S rfl) (by rfl) T.b_max (by decide +kernel) (pa_cons (pv 1) (pa_cons (pv 2) pa_nil))) pa_nil))) (pv 0) (by rfl))), ?_⟩
    refine ⟨_, rfl, _, rfl, _, _, rfl, _, rfl, _, rfl, _, _, rfl, (show 2 ≤ sizeLine by decide), fun t ht => ⟨_, rfl, dPair ((if sLt b a then b else a), (if sLt a b then b else a)), F.pairs.map dPair, .tup (SqT.of upd_same) (.cons (.str _) (.cons (.str _) .nil)), .tup ((Tk.of (same_upd ht)).sqT hP) (DpAll.tk (Tk.of (same_upd ht)) _ (flatAll_of fun d hd => ?_) hD), sh_pair ?_ ?_, sh_pairs ok.good, ?_⟩⟩
    · obtain ⟨y, _, rfl⟩ := List.mem_map.mp hd
      rfl
    · show GoodName (if sLt b a then b else a)
      split <;> first | exact ok.sgn _ ma | exact ok.sgn _ mb
    · show GoodName (if sLt a b then b else a)
      split <;> first | exact ok.sgn _ ma | exact ok.sgn _ mb
    · rw [any_pairs, apart_min ok]
      exact q _ (same_upd ht)
def spNamesTouching (K : PySem.W.Frag) : Sp := fun vs H Q _ => ∃ (a : Addr) (F : Fld) (n : Str), vs = [.ref a, .str n] ∧ Dp K H (.ref a) (dField F) ∧ F.Ok ∧ n ∈ F.names ∧ ∀ H' q, Same H H' → SqT K H' q ((touchL F n).map V.str) → Q (.ref q) H'
theorem c_names_touching (T : Tx K mg) : Cl P w K mg base CX0 2 "names_touching" (spNamesTouching K) := by
  refine cl0 T.d_names_touching (ps := ["field", "name"]) (fun _ _ _ _ _ _ us hl => match us, hl with | [_, _], _ => rfl) sc_names_touching (fun vs H Q E h => ?_) (fun f cdv A outer st H vs Q E hr h => ?_)
  · obtain ⟨a, F, n, rfl, _⟩ := h
    rfl
  · obtain ⟨a, F, m, rfl, hF, ok, mn, q⟩ := h
    have nd := sc_names_touching.nd
    obtain ⟨_, n, p, ps, e, hA, hN, hP, hD⟩ := hF.field
    cases e
    refine ⟨_, pss_cons (ps_asg (pv 0) (pg_tup rfl (pgs_cons (pg_name (i := 2) nd rfl (by first | exact .inl rfl | exact .inr rfl)) (pgs_cons (pg_name (i := 3) nd rfl (by first | exact .inl rfl | exact .inr rfl)) pgs_nil))))
      (pss_one (ps_ret (pe_tupleOf (by rfl) T.b_tuple (pe_lc (own := [("other", 4)]) (g := gName 4) (tt := _) (by rfl) nd (pi_tup (pv 2))
        (blkOk_by (own := [("other", 4)]) (N := ["field", "name", "names", "pairs", "other"]) (sc := defScope s_names_touching) (by decide +kernel)) (fun _ _ _ _ _ => pg_name (i := 4) nd rfl (Or.inl rfl))
        (fun _ _ _ _ _ => pts_one (pt_not (pt_val (pe_k (c_are_apart T) hr (by decide) (by rfl) (pa_cons (pv 3) (pa_cons (pv 1) (pa_cons (pv 4) pa_nil))))))) (fun _ _ _ _ _ => pv 4))))), ?_⟩
    refine ⟨_, rfl, a, _, rfl, hA, rfl, _, _, rfl, _, _, rfl, rfl, ?_⟩
    refine ⟨_, rfl, n, rfl, ⟨_, hN⟩, fun D hD' => ?_⟩
    refine lc_it (walk_tup (xs := F.names.map V.str)) (fun i H' => H' D = some (.lst (((F.names.take i).filter fun o => !apart F m o).map V.str)) ∧ Same H H') ⟨upd_same, same_upd hD'⟩ (fun _ _ _ ⟨_, s'⟩ => (Tk.of s').sqT hN) (fun i x H2 H3 hi ⟨eD, s'⟩ hy => ?_) (fun H2 ⟨eD, s'⟩ => ?_)
    · obtain ⟨rfl, hx⟩ := hy
      obtain ⟨o, ho, rfl⟩ := str_at hx
      have mo := List.mem_of_getElem? ho
      refine ⟨rfl, ?_⟩
      refine ⟨_, rfl, _, rfl, _, rfl, p, ps, F, m, o, rfl, (Tk.of s').sqT hP, DpAll.tk (Tk.of s') _ (flatAll_of fun d hd => ?_) hD, ok, mn, mo, fun H4 s4 => ⟨_, rfl, ?_⟩⟩
      · obtain ⟨y, _, rfl⟩ := List.mem_map.mp hd
        rfl
      · have et : F.names.take (i + 1) = F.names.take i ++ [o] := by
          rw [List.take_add_one, ho]
          rfl
        rw [et, List.filter_append, List.map_append]
        cases ha : apart F m o
        · refine iteT ⟨_, rfl, _, s4 _ _ eD, ?_, ?_, same_put (s'.trans s4) hD'⟩
          · rw [List.length_map]
            refine small1000 (Nat.le_trans (List.length_filter_le _ _) ?_)
            have := ok.n6
            rw [List.length_take]
            omega
          · rw [upd_same]
            simp [ha]
        · refine iteF ⟨?_, s'.trans s4⟩
          rw [s4 _ _ eD]
          simp [ha]
    · rw [List.length_map, List.take_length] at eD
      exact .inl ⟨D, _, rfl, SqL.of eD, fun r hr' => q _ r (same_new s' hr') (SqT.of upd_same)⟩
def TouchAt (K : PySem.W.Frag) (H : Hp) (t : Addr) (F : Fld) : Prop := ∃ kvs : List (Key × V), H t = some (.dK kvs) ∧ ∀ n ∈ F.names, ∃ a, valV kvs (.inr n) = some (.ref a) ∧ SqT K H a ((touchL F n).map V.str)
theorem TouchAt.same {K : PySem.W.Frag} {H H' : Hp} {t : Addr} {F : Fld} (h : TouchAt K H t F) (s : Same H H') : TouchAt K H' t F := by
  obtain ⟨kvs, e, g⟩ := h
  refine ⟨kvs, s _ _ e, fun n hn => ?_⟩
  obtain ⟨a, e1, e2⟩ := g n hn
  exact ⟨a, e1, (Tk.of s).sqT e2⟩
def spTouchTable (K : PySem.W.Frag) : Sp := fun vs H Q _ => ∃ (a : Addr) (F : Fld), vs = [.ref a] ∧ Dp K H (.ref a) (dField F) ∧ F.Ok ∧ ∀ H' t, Same H H' → H t = none → TouchAt K H' t F → Q (.ref t) H'
theorem c_touch_table (T : Tx K mg) : Cl P w K mg base CX0 3 "touch_table" (spTouchTable K) := by
  refine cl0 T.d_touch_table (ps := ["field"]) (fun _ _ _ _ _ _ us hl => match us, hl with | [_], _ => rfl) sc_touch_table (fun vs H Q E h => ?_) (fun f cdv A outer st H vs Q E hr h => ?_)
  · obtain ⟨a, F, rfl, _⟩ := h
    rfl
  · obtain ⟨a, F, rfl, hF, ok, q⟩ := h
    have nd := sc_touch_table.nd
    obtain ⟨_, n, p, ps, e, hA, hN, hP, hD⟩ := hF.field
    cases e
    refine ⟨_, pss_cons (ps_asg (pv 0) (pg_tup rfl (pgs_cons (pg_name (i := 1) nd rfl (by first | exact .inl rfl | exact .inr rfl)) (pgs_cons (pg_name (i := 2) nd rfl (by first | exact .inl rfl | exact .inr rfl)) pgs_nil))))
      (pss_one (ps_ret (pe_dc (own := [("name", 3)]) (g := gName 3) (tt := tYes) (by rfl) nd (pi_tup (pv 1))
        (blkOk_by (own := [("name", 3)]) (N := ["field", "names", "_", "name"]) (sc := defScope s_touch_table) (by decide +kernel)) (fun _ _ _ _ _ => pg_name (i := 3) nd rfl (Or.inl rfl))
        (fun _ _ _ _ _ => pts_nil) (fun _ _ _ _ _ => pv 3) (fun _ _ _ _ _ => pe_k (c_names_touching T) hr (by decide) (by rfl) (pa_cons (pv 0) (pa_cons (pv 3) pa_nil)))))), ?_⟩
    refine ⟨_, rfl, a, _, rfl, hA, rfl, _, _, rfl, _, _, rfl, rfl, ?_⟩
    refine ⟨_, rfl, n, rfl, ⟨_, hN⟩, fun D hD' => ?_⟩
    refine dc_tup (xs := F.names.map V.str) (fun i H' => ∃ kvs : List (Key × V), H' D = some (.dK kvs) ∧ kvs.length ≤ i ∧ (∀ n ∈ F.names.take i, ∃ a, valV kvs (.inr n) = some (.ref a) ∧ SqT K H' a ((touchL F n).map V.str)) ∧ Same H H')
      ⟨[], upd_same, Nat.le_refl _, (fun n hn => nomatch hn), same_upd hD'⟩ (fun _ _ _ ⟨_, _, _, _, s'⟩ => (Tk.of s').sqT hN) (fun i x H2 hx ⟨kvs, eD, kl, kk, s'⟩ => ?_) (fun H2 ⟨kvs, eD, kl, kk, s'⟩ => ?_)
    · obtain ⟨o, ho, rfl⟩ := str_at hx
      have mo := List.mem_of_getElem? ho
      have hi := (List.getElem?_eq_some_iff.mp ho).1
      refine ⟨rfl, yes_ ?_⟩
      refine ⟨_, rfl, _, rfl, _, rfl, a, F, o, rfl, Dp.tk (Tk.of s') _ (flat_field F) hF, ok, mo, fun H4 r s4 hr' => ⟨kvs, .inr o, rfl, s4 _ _ eD, ?_, putK kvs (.inr o) (.ref r), upd_same, ?_, fun x hx' => ?_, same_put (s'.trans s4) hD'⟩⟩
      · have := ok.n6
        exact small1000 (by omega)
      · have := length_putK kvs (.inr o) (.ref r)
        omega
      · have k4 : Tk H4 (upd H4 D (.dK (putK kvs (.inr o) (.ref r)))) := Tk.refl.mut (s4 _ _ eD) (fun _ q => nomatch q) (fun _ _ q => nomatch q)
        rw [valV_put]
        by_cases e : x = o
        · subst e
          exact ⟨r, if_pos rfl, k4.sqT hr'⟩
        · rw [List.take_add_one, ho] at hx'
          have m : x ∈ F.names.take i := by
            rcases List.mem_append.mp hx' with h | h
            · exact h
            · exact absurd (List.mem_singleton.mp h) e
          obtain ⟨b, e1, e2⟩ := kk x m
          refine ⟨b, ?_, k4.sqT ((Tk.of s4).sqT e2)⟩
          rw [if_neg (fun q => e (Sum.inr.inj q))]
          exact e1
    · rw [List.length_map, List.take_length] at kk
      exact q _ D s' hD' ⟨kvs, eD, kk⟩
end
end XB
set_option Elab.async false
set_option linter.all false
set_option maxRecDepth 100000
set_option maxHeartbeats 4000000
/-! t[::-1] of a tuple -/
namespace HT
open PySem PySem.Spec PyProof.Rows
section
variable {prog : Program} {w : World} {A : Around} {E : Value → Shared → Prop} {s : Shared}
theorem adjust_rev (n : Nat) : Builtin.Slice.sliceAdjust none none (-1) (n : Int) = ((n : Int) - 1, -1) := by
  unfold Builtin.Slice.sliceAdjust
  rfl
theorem places_rev (n : Nat) : Builtin.Slice.slicePlaces ((n : Int) - 1) (-1) (-1) = n := by
  unfold Builtin.Slice.slicePlaces
  have h1 : ¬ ((-1 : Int) > 0) := by decide
  simp only [h1, if_false]
  rw [show (- -1 : Int) = 1 from rfl, Int.ediv_one]
  split <;> omega
theorem sliceApplied_rev {sl : Addr} {n : Nat} {u : Tok} {Q : Int × Int × Nat → Shared → Prop} (hs : s.heap.IsSliceOf sl .none .none (.int (-1) u))
    (h : Q ((n : Int) - 1, -1, n) s) : wpAny (model prog w) A (Builtin.Slice.sliceApplied (.ref sl) (pure (n : Int))) Q E s := by
  obtain ⟨os, hos, hcs, hds⟩ := id hs
  unfold Builtin.Slice.sliceApplied Builtin.Slice.sliceFields
  refine wpAny_bind (wpAny_bind (wpAny_field hos hds (x := .none) rfl (wpAny_bind (wpAny_field hos hds (x := .none) rfl (wpAny_bind (wpAny_field hos hds (x := .int (-1) u) rfl (wpAny_pure ?_)))))))
  refine wpAny_bind (slicePart_int ?_)
  show wpAny _ _ (if ((-1 : Int) == 0) = true then _ else _) _ _ s
  rw [if_neg (by decide)]
  refine wpAny_bind (slicePart_none (wpAny_bind (slicePart_none (wpAny_bind (wpAny_pure ?_)))))
  show wpAny _ _ (match Builtin.Slice.sliceAdjust none none (-1) (n : Int) with | (lo, hi) => pure (lo, (-1 : Int), Builtin.Slice.slicePlaces lo hi (-1))) _ _ s
  rw [adjust_rev n]
  show wpAny _ _ (pure ((n : Int) - 1, (-1 : Int), Builtin.Slice.slicePlaces ((n : Int) - 1) (-1) (-1))) _ _ s
  rw [places_rev]
  exact wpAny_pure h
theorem pick_rev (xs : Array Value) : ((List.range xs.size).filterMap fun (m : Nat) => xs[(((xs.size : Int) - 1) + (m : Int) * -1).toNat]?).toArray = xs.toList.reverse.toArray := by
  have e : (fun (m : Nat) => xs[(((xs.size : Int) - 1) + (m : Int) * -1).toNat]?) = (fun k => xs[k]?) ∘ fun m => xs.size - 1 - m := by
    funext m
    have : (((xs.size : Int) - 1) + (m : Int) * -1).toNat = xs.size - 1 - m := by omega
    rw [this]
    rfl
  rw [e, ← List.filterMap_map, PySem.W.krv_range, List.filterMap_reverse, PySem.W.krv_all]
theorem getItem_tuple_rev {t sl : Addr} {items : Array Value} {u : Tok} {Q : Value → Shared → Prop} (ht : IsTup s.heap t items) (hs : s.heap.IsSliceOf sl .none .none (.int (-1) u))
    (h : Q (.ref s.heap.objs.size) { s with heap := s.heap.push { cls := .type "tuple", data := .seq items.toList.reverse.toArray } })
    (hsz : items.size ≤ sizeLine) : wpAny (model prog w) A (getItem (.ref t) (.ref sl)) Q E s := by
  have htake : sizeOk (.seq items.toList.reverse.toArray) := by
    show items.toList.reverse.toArray.size ≤ sizeLine
    rw [List.size_toArray, List.length_reverse, Array.length_toList]
    exact hsz
  obtain ⟨os, hos, hcs, hds⟩ := id hs
  have hTs : s.TypeIs (.ref sl) "slice" := ⟨os, hos, hcs⟩
  unfold getItem
  try with_reducible refine wpAny_holding ?_
  first | refine wpAny_bind (wpAny_pure ?_) | skip
  refine wpAny_bind (wpAny_sequenceKey ht.typeIs (by decide) ?_)
  refine wpAny_bind (wpAny_callSpecial?_slot (name := Str.ofString "__getitem__") ht.typeIs PyProof.Rows.slot_tuple_getitem
    (wpAny_call_entry PyProof.Rows.slot_tuple_getitem ht.typeIs entry_tuple_getitem ?_ (args_tuple_getitem _ _)))
  show wpAny _ _ (Builtin.Tuple.tupleItemsOf (.ref t) >>= _) _ _ s
  refine wpAny_bind (tupleItemsOf_ ht ?_)
  refine wpAny_bind (wpAny_typeOf hTs ?_)
  rw [if_pos (by decide)]
  refine wpAny_bind (sliceApplied_rev hs ?_)
  have hno : ¬ ((((items.size : Int) - 1) == 0 && (-1 : Int) == 1 && items.size == items.size) = true) := by
    intro q
    rw [Bool.and_eq_true, Bool.and_eq_true] at q
    exact absurd q.1.2 (by decide)
  show wpAny _ _ (if ((((items.size : Int) - 1) == 0 && (-1 : Int) == 1 && items.size == items.size) = true) then _ else _) _ _ s
  rw [if_neg hno, pick_rev]
  first
    | exact wpAny_bind (m := Builtin.Tuple.tupleExact _) (wpAny_newObj_type (wpAny_pure ⟨_, rfl, wpAny_pure h⟩) htake)
    | exact wpAny_bind (m := Builtin.Tuple.tupleExact _) (wpAny_newObj_type (wpAny_bind (wpAny_pure (wpAny_pure ⟨_, rfl, wpAny_pure h⟩))) htake)
    | exact wpAny_bind (wpAny_bind (m := Builtin.Tuple.tupleExact _) (wpAny_newObj_type (wpAny_pure (wpAny_pure ⟨_, rfl, wpAny_pure h⟩)) htake))
    | exact wpAny_bind (wpAny_bind (m := Builtin.Tuple.tupleExact _) (wpAny_newObj_type (wpAny_pure ⟨_, rfl, wpAny_pure h⟩) htake))
end
end HT
namespace XB
open PySem PySem.Spec PyProof.Rows L2
section
variable {X : Cx}
def tRevT (K : PySem.W.Frag) (te : TE) : TE := fun σ H Q => te σ H fun x H1 => ∃ a xs, x = .ref a ∧ SqT K H1 a xs ∧ ∀ p, H1 p = none → Q (.ref p) (upd H1 p (.tup xs.reverse))
theorem pe_revT {e : Expr} {te : TE} {k : Nat} {p1 p2 p3 pos : Pos} (he : PE X e te) : PE X (.Subscript e (.Slice none none (some (.UnaryOp .USub (.Constant (.int 1) k p1) p2)) p3) pos) (tRevT X.K te) := by
  refine ⟨fun pins s σ H Q I h => ?_⟩
  refine Subscript_ (thn (he.run pins s σ H _ I h) fun v s1 ⟨x, H1, I1, r1, q1⟩ => ?_)
  obtain ⟨a, xs, ex, hx, q⟩ := q1
  subst ex
  cases r1
  have hst : PO X (some (.UnaryOp .USub (.Constant (.int 1) k p1) p2)) (tPart (tUn (rU fun i => .int (-i)) (tC (.int 1)))) := po_some (pe_un un_neg pe_int)
  refine wpAny_Slice (thn (po_none.run pins s1 σ H1 (fun o H2 => o = none ∧ H2 = H1) I1 ⟨rfl, rfl⟩) fun vl s2 ⟨l, H2, I2, pl, el, e2⟩ => ?_)
  subst el e2
  refine thn (po_none.run pins s2 σ H2 (fun o H3 => o = none ∧ H3 = H2) I2 ⟨rfl, rfl⟩) fun vu s3 ⟨u, H3, I3, pu, eu, e3⟩ => ?_
  subst eu e3
  refine thn (hst.run pins s3 σ H3 (fun o H4 => o = some (-1) ∧ H4 = H3) I3 ⟨1, rfl, -1, rfl, rfl, rfl⟩) fun vs s4 ⟨o, H4, I4, ps, eo, e4⟩ => ?_
  subst eo e4
  cases pl
  cases pu
  cases ps with
  | int i tk =>
    have I5 : Inv X pins σ H4 { s4 with heap := s4.heap.push { cls := .type "slice", data := .fields #[.none, .none, .int (-1) tk] } } := I4.kept (t' := s4.toks) fun b ob q => Heap.get?_push_of_some _ q
    obtain ⟨its, r, ht, hz⟩ := I5.tuple hx
    have hlen := r.length
    show wpAny (model X.prog X.w) X.A (subscriptTail e (.Slice none none (some (.UnaryOp .USub (.Constant (.int 1) k p1) p2)) p3) (.ref a) (.ref s4.heap.objs.size)) (EP X pins σ Q) X.xe { s4 with heap := s4.heap.push { cls := .type "slice", data := .fields #[.none, .none, .int (-1) tk] } }
    refine tail_any (ops := [.ref a, .ref s4.heap.objs.size]) ht.typeIs PyProof.Rows.slot_tuple_getitem.lookup ?_ (by with_unfolding_all rfl)
    refine HT.getItem_tuple_rev ht (Heap.IsSliceOf.new _ .none .none (.int (-1) tk)) ?_ (by rw [List.size_toArray]; omega)
    refine ⟨.ref _, _, I5.laid (t' := s4.toks) (o := .tup xs.reverse) (fun b ob q => Heap.get?_push_of_some _ q) (Nat.le_refl _) ?_, rfl, q _ (I5.hok.fresh (Nat.le_refl _))⟩
    exact ⟨by rw [List.length_reverse]; exact hz, _, r.reverse, ⟨_, Heap.get?_push_size _ rfl, rfl, _, rfl⟩⟩
end
end XB
set_option Elab.async false
set_option linter.all false
set_option maxRecDepth 100000
set_option maxHeartbeats 4000000
/-! rules of rows, lists or tuples -/
namespace XB
open PySem PySem.Spec PyProof.Rows L2
def SqX (K : PySem.W.Frag) (H : Hp) (p : Addr) (xs : List V) : Prop := SqL K H p xs ∨ SqT K H p xs
theorem SqX.same {K : PySem.W.Frag} {H H' : Hp} {p : Addr} {xs : List V} (s : Same H H') (h : SqX K H p xs) : SqX K H' p xs := h.elim (fun h => .inl (s.seq h)) fun h => .inr ((Tk.of s).sqT h)
def rIxX (K : PySem.W.Frag) : R2 := fun x y H Q => ∃ p xs i v, x = .ref p ∧ y = .int i ∧ SqX K H p xs ∧ atI xs i = some v ∧ Q v H
section
variable {X : Cx}
theorem ixk_row {K : PySem.W.Frag} (hk : X.K = K) : IxR X (rIxX K) := by
  subst hk
  intro value slice pins s σ H x y v u Q I rx ry h hs
  obtain ⟨p, xs, i, z, e1, e2, hq, he, q⟩ := h
  rcases hq with hq | hq
  · exact ix_list value slice pins s σ H x y v u Q I rx ry ⟨p, xs, i, z, e1, e2, hq, he, q⟩ hs
  · exact ix_tup value slice pins s σ H x y v u Q I rx ry ⟨p, xs, i, z, e1, e2, hq, he, q⟩ hs
/-- a part of a row, whatever its kind: a row of the same kind, old or new -/
def rSlX (K : PySem.W.Frag) : V → Option Int → Option Int → Hp → VK → Prop := fun x lo hi H Q => ∃ p xs, x = .ref p ∧ SqX K H p xs ∧ ∀ H' q, Same H H' → SqX K H' q (cutV xs lo hi) → Q (.ref q) H'
theorem cut_whole {xs : List V} {lo hi : Option Int} (h : HT.sIx xs.length 0 lo = 0 ∧ HT.sIx xs.length xs.length hi = xs.length) : cutV xs lo hi = xs := by
  unfold cutV
  rw [h.1, h.2]
  simp
theorem slk_row {K : PySem.W.Frag} (hk : X.K = K) : SlR X (rSlX K) := by
  subst hk
  intro pins s σ H x v vl vu lo hi sl Q I rx hs pl pu h
  obtain ⟨p, xs, e, hq, q⟩ := h
  rcases hq with hq | hq
  · exact sl_list pins s σ H x v vl vu lo hi sl Q I rx hs pl pu ⟨p, xs, e, hq, fun r hr => q _ r (same_upd hr) (.inl (SqL.of upd_same))⟩
  · exact sl_tupA pins s σ H x v vl vu lo hi sl Q I rx hs pl pu ⟨p, xs, e, hq, fun hw => q _ p (Same.refl _) (by rw [cut_whole hw]; exact .inr hq), fun _ r hr => q _ r (same_upd hr) (.inr (SqT.of upd_same))⟩
/-- a row walked through, whatever its kind -/
def iRow (K : PySem.W.Frag) (tl : TE) : TI := fun σ H R => tl σ H fun x H1 => ∃ a xs, x = .ref a ∧ SqX K H1 a xs ∧ ∀ (J : It) (G : Hp → Prop), (∀ H', Same H1 H' → G H') → Walk J xs.length G (YAt xs) → R J H1
theorem pi_row {l tg : Expr} {tl : TE} (hl : PE X l tl) : PI X tg l (iRow X.K tl) := by
  refine ⟨fun pins s σ H R I h => ?_⟩
  refine thn (hl.run pins s σ H _ I h) fun v s1 ⟨x, H1, I1, r1, q1⟩ => ?_
  obtain ⟨a, xs, e, hq, q⟩ := q1
  subst e
  cases r1
  rcases hq with hq | hq
  · obtain ⟨its, rv, p, hz⟩ := I1.list hq
    refine wpAny_pyIter_list p.isList ?_
    refine ⟨s1.heap.objs.size, [s1.heap.objs.size], _, _, H1, rfl, I1.kept (t' := s1.toks) fun b o e => Heap.get?_push_of_some _ e, turn_list a _, ⟨_, Heap.get?_push_size _ rfl, rfl, rfl⟩, fun b hb => ?_, q _ _ (fun H' s' => s'.seq hq) walk_list⟩
    have e : b = s1.heap.objs.size := by simpa using hb
    subst e
    exact I1.fpOk (Nat.le_refl _) (I1.hok.fresh (Nat.le_refl _))
  · obtain ⟨its, rv, p, hz⟩ := I1.tuple hq
    refine wpAny_pyIter_tuple (show s1.heap.IsTuple a its.toArray from p) ?_
    refine ⟨s1.heap.objs.size, [s1.heap.objs.size], _, _, H1, rfl, I1.kept (t' := s1.toks) fun b o e => Heap.get?_push_of_some _ e, turn_tuple a _, ⟨_, Heap.get?_push_size _ rfl, rfl, rfl⟩, fun b hb => ?_, q _ _ (fun H' s' => (Tk.of s').sqT hq) walk_tup⟩
    have e : b = s1.heap.objs.size := by simpa using hb
    subst e
    exact I1.fpOk (Nat.le_refl _) (I1.hok.fresh (Nat.le_refl _))
end
theorem cut_init (xs : List V) (k : Nat) : cutV xs none (some (k : Int)) = xs.take k := by
  unfold cutV
  rw [HT.sIx_none, HT.sIx_nat]
  rw [List.drop_zero, Nat.sub_zero]
  by_cases h : k ≤ xs.length
  · rw [Nat.min_eq_left h]
  · rw [Nat.min_eq_right (by omega), List.take_of_length_le (Nat.le_refl _), List.take_of_length_le (by omega)]
theorem cut_from (xs : List V) (k : Nat) : cutV xs (some (k : Int)) none = xs.drop k := by
  unfold cutV
  rw [HT.sIx_none, HT.sIx_nat]
  by_cases h : k ≤ xs.length
  · rw [Nat.min_eq_left h, List.take_of_length_le (by rw [List.length_drop]; omega)]
  · rw [Nat.min_eq_right (by omega), List.drop_of_length_le (Nat.le_refl _), List.drop_of_length_le (by omega)]
    simp
end XB
set_option Elab.async false
set_option linter.all false
set_option maxRecDepth 100000
set_option maxHeartbeats 4000000
namespace XB
open PySem PySem.Spec PyProof.Rows L2
theorem take_snoc {α : Type} {l : List α} {k : Nat} {s : α} (h : l[k]? = some s) : l.take (k + 1) = l.take k ++ [s] := by
  rw [List.take_add_one, h]
  rfl
theorem drop_at {α : Type} {l : List α} {k : Nat} {s : α} (h : l[k]? = some s) : l.drop k = s :: l.drop (k + 1) := by
  obtain ⟨h1, rfl⟩ := List.getElem?_eq_some_iff.mp h
  exact List.drop_eq_getElem_cons h1
section
variable {P : Program} {w : World} {K : PySem.W.Frag} {mg : Str → Option Value} {base : Heap}
def spLastTouched (K : PySem.W.Frag) : Sp := fun vs H Q _ => ∃ (a l : Addr) (ns : List Str) (xs : List V) (row : List (Str × Int)), vs = [.ref a, .ref l] ∧ SqT K H a (ns.map V.str) ∧ SqX K H l xs ∧ DpAll K H xs (row.map dStep) ∧ Q (.int (XM.lastIx (fun b => ns.contains b) row.reverse)) H
theorem c_last_touched (T : Tx K mg) : Cl P w K mg base CX0 1 "last_touched" (spLastTouched K) := by
  refine cl0 T.d_last_touched (ps := ["names", "pieces"]) (fun _ _ _ _ _ _ us hl => match us, hl with | [_, _], _ => rfl) sc_last_touched (fun vs H Q E h => ?_) (fun f cdv A outer st H vs Q E hr h => ?_)
  · obtain ⟨a, l, ns, xs, row, rfl, _⟩ := h
    rfl
  · obtain ⟨a, l, ns, xs, row, rfl, hA, hS, hD, q⟩ := h
    have nd := sc_last_touched.nd
    have hl := hD.len
    rw [List.length_map] at hl
    refine ⟨_, pss_cons (ps_set (i := 2) nd rfl (.inl rfl) (pe_op op_sub (pe_lenS (by rfl) T.b_len (pv 1)) pe_int))
      (pss_cons (ps_while PassesOwn.never (PW.pt (pw_and (pt_cmpR op_ge (pv 2) pe_int (nomark _)) (pw_and1 (pt_cmpR op_notIn_seq (pe_ix ix_tup (pe_ix (ixk_row (K := K) rfl) (pv 1) (pv 2) (fun _ _ => rfl)) pe_int (fun _ _ => rfl)) (pv 0) (by rfl)))))
        (pss_one (ps_aug (i := 2) nd rfl (.inl rfl) pe_int ip_sub)))
      (pss_one (ps_ret (pv 2)))), ?_⟩
    refine ⟨_, rfl, l, xs, rfl, hS, _, _, rfl, rfl, ?_⟩
    refine ⟨fun m σ H' => H' = H ∧ ∃ k : Nat, m = k ∧ k ≤ row.length ∧ σ = [some (.ref a), some (.ref l), some (.int ((k : Int) - 1))] ∧ XM.lastIx (fun b => ns.contains b) row.reverse = XM.lastIx (fun b => ns.contains b) (row.take k).reverse,
      ⟨row.length, rfl, row.length, rfl, Nat.le_refl _, by rw [hl]; rfl, by rw [List.take_length]⟩, ?_⟩
    rintro m σ H' ⟨rfl, k, rfl, hk, rfl, e⟩
    refine ⟨_, rfl, _, _, rfl, rfl, _, rfl, ?_⟩
    rcases m with _ | k
    · refine iteF (iteF ⟨_, rfl, ?_⟩)
      rw [e] at q
      exact q
    · rw [show decide ((0 : Int) ≤ ((k + 1 : Nat) : Int) - 1) = true from decide_eq_true (by omega)]
      have hs : row[k]? = some row[k] := List.getElem?_eq_getElem hk
      generalize row[k] = s at hs
      obtain ⟨b, hb, cb⟩ := hD.step hs
      refine iteT ⟨_, rfl, _, rfl, _, _, _, _, rfl, rfl, hS, at_of (j := k) (by omega) hb, _, _, _, _, rfl, rfl, cb, rfl, _, rfl, a, _, rfl, .inr hA, rfl, flat_strs ns, _, rfl, ?_⟩
      rw [if_pos rfl, inV_strs]
      rw [take_snoc hs, List.reverse_append] at e
      have e : _ = (if ns.contains s.1 then ((row.take k).reverse.length : Int) else XM.lastIx (fun b => ns.contains b) (row.take k).reverse) := e
      cases hc : ns.contains s.1
      · rw [hc] at e
        refine iteT ⟨fun σ' H'' => H'' = H' ∧ σ' = [some (.ref a), some (.ref l), some (.int ((k : Int) - 1))], fun σ' H'' h => ?_, ?_⟩
        · obtain ⟨rfl, rfl⟩ := h
          exact ⟨k, by omega, rfl, k, rfl, by omega, rfl, e⟩
        · refine ⟨_, rfl, _, _, rfl, rfl, rfl, ?_⟩
          show [some (V.ref a), some (.ref l), some (.int (((k + 1 : Nat) : Int) - 1 - 1))] = _
          rw [show ((k + 1 : Nat) : Int) - 1 - 1 = (k : Int) - 1 by omega]
      · rw [hc, if_pos rfl, List.length_reverse, List.length_take, Nat.min_eq_left (by omega)] at e
        rw [e] at q
        refine iteF ⟨_, rfl, ?_⟩
        show Q (.int (((k + 1 : Nat) : Int) - 1)) H'
        rw [show ((k + 1 : Nat) : Int) - 1 = (k : Int) by omega]
        exact q
def spPlaceBehind (K : PySem.W.Frag) (F : Fld) : Sp := fun vs H Q _ => ∃ (l : Addr) (z : Int) (i : Nat) (nm : Str) (xs : List V) (row : List (Str × Int)), vs = [.ref l, .int z, .str nm] ∧ z + 1 = (i : Int) ∧ i ≤ row.length ∧ SqX K H l xs ∧ DpAll K H xs (row.map dStep) ∧ Q (.int ((i + XM.lead (OF F) nm (row.drop i) : Nat) : Int)) H
theorem c_place_behind (T : Tx K mg) (F : Fld) : Cl P w K mg base CX0 1 "place_behind" (spPlaceBehind K F) := by
  refine cl0 T.d_place_behind (ps := ["pieces", "at", "name"]) (fun _ _ _ _ _ _ us hl => match us, hl with | [_, _, _], _ => rfl) sc_place_behind (fun vs H Q E h => ?_) (fun f cdv A outer st H vs Q E hr h => ?_)
  · obtain ⟨l, z, i, nm, xs, row, rfl, _⟩ := h
    rfl
  · obtain ⟨l, z, i, nm, xs, row, rfl, ez, hi, hS, hD, q⟩ := h
    have nd := sc_place_behind.nd
    have hl := hD.len
    rw [List.length_map] at hl
    refine ⟨_, pss_cons (ps_set (i := 3) nd rfl (.inl rfl) (pe_op op_add (pv 1) pe_int))
      (pss_cons (ps_while PassesOwn.never (PW.pt (pw_and (pt_cmpR op_lt (pv 3) (pe_lenS (by rfl) T.b_len (pv 0)) (nomark _)) (pw_and1 (pt_cmpR op_lt_str (pe_ix ix_tup (pe_ix (ixk_row (K := K) rfl) (pv 0) (pv 3) (fun _ _ => rfl)) pe_int (fun _ _ => rfl)) (pv 2) (nomark _)))))
        (pss_one (ps_aug (i := 3) nd rfl (.inl rfl) pe_int ip_add)))
      (pss_one (ps_ret (pv 3)))), ?_⟩
    have ez : (V.int (z + 1)) = V.int (i : Int) := by rw [ez]
    refine ⟨_, rfl, _, _, rfl, rfl, ?_⟩
    refine ⟨fun m σ H' => H' = H ∧ ∃ k : Nat, m = row.length - k ∧ k ≤ row.length ∧ σ = [some (.ref l), some (.int z), some (.str nm), some (.int (k : Int))] ∧ i + XM.lead (OF F) nm (row.drop i) = k + XM.lead (OF F) nm (row.drop k),
      ⟨_, rfl, i, rfl, hi, by rw [← ez]; rfl, rfl⟩, ?_⟩
    rintro m σ H' ⟨rfl, k, rfl, hk, rfl, e⟩
    refine ⟨_, rfl, _, rfl, l, xs, rfl, hS, _, _, rfl, rfl, _, rfl, ?_⟩
    rw [hl]
    by_cases hlt : k < row.length
    · rw [show decide ((k : Int) < (row.length : Int)) = true from decide_eq_true (by omega)]
      have hs : row[k]? = some row[k] := List.getElem?_eq_getElem hlt
      generalize row[k] = s at hs
      obtain ⟨b, hb, cb⟩ := hD.step hs
      refine iteT ⟨_, rfl, _, rfl, _, _, _, _, rfl, rfl, hS, at_of (j := k) rfl hb, _, _, _, _, rfl, rfl, cb, rfl, _, rfl, _, _, rfl, rfl, _, rfl, ?_⟩
      rw [drop_at hs] at e
      have e : i + XM.lead (OF F) nm (row.drop i) = k + (if sLt s.1 nm then XM.lead (OF F) nm (row.drop (k + 1)) + 1 else 0) := e
      cases hc : sLt s.1 nm
      · rw [hc] at e
        rw [show decide (s.1.cps.toList < nm.cps.toList) = false from hc]
        refine iteF ⟨_, rfl, ?_⟩
        rw [e] at q
        exact q
      · rw [hc, if_pos rfl] at e
        rw [show decide (s.1.cps.toList < nm.cps.toList) = true from hc]
        refine iteT ⟨fun σ' H'' => H'' = H' ∧ σ' = [some (.ref l), some (.int z), some (.str nm), some (.int ((k + 1 : Nat) : Int))], fun σ' H'' h => ?_, ?_⟩
        · obtain ⟨rfl, rfl⟩ := h
          exact ⟨row.length - (k + 1), by omega, rfl, k + 1, rfl, hlt, rfl, by omega⟩
        · exact ⟨_, rfl, _, _, rfl, rfl, rfl, rfl⟩
    · rw [show decide ((k : Int) < (row.length : Int)) = false from decide_eq_false (by omega)]
      refine iteF (iteF ⟨_, rfl, ?_⟩)
      rw [e, show row.drop k = [] from List.drop_eq_nil_iff.mpr (by omega)] at q
      exact q
end
end XB
set_option Elab.async false
set_option linter.all false
set_option maxRecDepth 100000
set_option maxHeartbeats 4000000
namespace XB
open PySem PySem.Spec PyProof.Rows L2
theorem DpAll.set1 {K : PySem.W.Frag} {H : Hp} {v : V} {d : PyData} (hv : Dp K H v d) : ∀ {vs : List V} {ds : List PyData} (i : Nat), DpAll K H vs ds → DpAll K H (vs.set i v) (ds.set i d)
  | _, _, _, .nil => .nil
  | _, _, 0, .cons _ t => .cons hv t
  | _, _, i + 1, .cons h t => .cons h (DpAll.set1 hv i t)
theorem DpAll.er {K : PySem.W.Frag} {H : Hp} : ∀ {vs : List V} {ds : List PyData} (i : Nat), DpAll K H vs ds → DpAll K H (vs.eraseIdx i) (ds.eraseIdx i)
  | _, _, _, .nil => .nil
  | _, _, 0, .cons _ t => t
  | _, _, i + 1, .cons h t => .cons h (DpAll.er i t)
theorem map_er {α β : Type} (f : α → β) : ∀ (l : List α) (i : Nat), (l.eraseIdx i).map f = (l.map f).eraseIdx i
  | [], _ => rfl
  | _ :: _, 0 => rfl
  | x :: l, i + 1 => by
    show f x :: (l.eraseIdx i).map f = f x :: (l.map f).eraseIdx i
    rw [map_er f l i]
/-- a list of steps put in at a place -/
theorem DpAll.inI {K : PySem.W.Frag} {H : Hp} {vs : List V} {row : List (Str × Int)} {v : V} {s : Str × Int} (hv : Dp K H v (dStep s)) (i : Nat) (h : DpAll K H vs (row.map dStep)) :
    DpAll K H (vs.take i ++ [v] ++ vs.drop i) ((row.take i ++ s :: row.drop i).map dStep) := by
  rw [List.append_assoc, List.map_append, List.map_cons, List.map_take, List.map_drop]
  exact (h.take i).app (.cons hv (h.drop i))
section
variable {P : Program} {w : World} {K : PySem.W.Frag} {mg : Str → Option Value} {base : Heap}
/-- the row as the program changes it stands in a list of its own -/
def Row1 (K : PySem.W.Frag) (H : Hp) (D : Addr) (row : List (Str × Int)) : Prop := ∃ xs, H D = some (.lst xs) ∧ DpAll K H xs (row.map dStep)
theorem Row1.put {K : PySem.W.Frag} {H : Hp} {D : Addr} {xs ys : List V} {row : List (Str × Int)} (e : H D = some (.lst xs)) (h : DpAll K H ys (row.map dStep)) : Row1 K (upd H D (.lst ys)) D row :=
  ⟨ys, upd_same, DpAll.tk (Tk.refl.lst e) _ (flat_all_steps row) h⟩
theorem TouchAt.lst {K : PySem.W.Frag} {H : Hp} {t D : Addr} {F : Fld} {xs ys : List V} (h : TouchAt K H t F) (e : H D = some (.lst xs)) : TouchAt K (upd H D (.lst ys)) t F := by
  obtain ⟨kvs, e1, g⟩ := h
  have k : Tk H (upd H D (.lst ys)) := Tk.refl.lst e
  refine ⟨kvs, by rw [upd_ne (ne_of e1 e (fun q => nomatch q))]; exact e1, fun n hn => ?_⟩
  obtain ⟨a, e1, e2⟩ := g n hn
  exact ⟨a, e1, k.sqT e2⟩
theorem lastIx_congr {p q : Str → Bool} : ∀ {r : List (Str × Int)}, (∀ y ∈ r, p y.1 = q y.1) → XM.lastIx p r = XM.lastIx q r
  | [], _ => rfl
  | y :: r, h => by
    have ih := lastIx_congr (p := p) (q := q) (r := r) fun z hz => h z (List.mem_cons_of_mem _ hz)
    have hy := h y List.mem_cons_self
    unfold XM.lastIx
    rw [hy, ih]
def Names (F : Fld) (l : List (Str × Int)) : Prop := ∀ s ∈ l, s.1 ∈ F.names
theorem names_ins {F : Fld} {x : Str × Int} (hx : x.1 ∈ F.names) : ∀ {r : List (Str × Int)}, Names F r → Names F (XM.ins (OF F) x r)
  | [], _ => fun s hs => by
    have hs : s ∈ [x] := hs
    rw [List.mem_singleton.mp hs]
    exact hx
  | y :: r, h => by
    have ih := names_ins hx (r := r) fun z hz => h z (List.mem_cons_of_mem _ hz)
    have hy := h y List.mem_cons_self
    have h0 : Names F r := fun z hz => h z (List.mem_cons_of_mem _ hz)
    have c : ∀ {a : Str × Int} {l : List (Str × Int)}, a.1 ∈ F.names → Names F l → Names F (a :: l) := fun {a l} ha hl s hs => by
      rcases List.mem_cons.mp hs with rfl | hs
      · exact ha
      · exact hl s hs
    unfold XM.ins
    by_cases e1 : y.1 = x.1
    · rw [if_pos e1]
      by_cases e2 : y.2 + x.2 = 0
      · rw [if_pos e2]
        exact h0
      · rw [if_neg e2]
        exact c hx h0
    · rw [if_neg e1]
      by_cases e2 : (OF F).tc y.1 x.1 = true
      · rw [if_pos e2]
        exact c hx h
      · rw [if_neg e2]
        by_cases e3 : ((OF F).lt y.1 x.1 && XM.top (OF F) x.1 r) = true
        · rw [if_pos e3]
          exact c hx h
        · rw [if_neg e3]
          exact c hy ih
theorem names_act {F : Fld} : ∀ {l r : List (Str × Int)}, Names F l → Names F r → Names F (XM.act (OF F) l r)
  | [], _, _, h => h
  | x :: l, r, hl, h => by
    rw [XM.act_cons]
    exact names_act (fun z hz => hl z (List.mem_cons_of_mem _ hz)) (names_ins (hl x List.mem_cons_self) h)
def spPiled (K : PySem.W.Frag) (F : Fld) : Sp := fun vs H Q _ => ∃ (t d : Addr) (xs : List V) (steps : List (Str × Int)), vs = [.ref t, .ref d] ∧ TouchAt K H t F ∧ F.Ok ∧ SqT K H d xs ∧ DpAll K H xs (steps.map dStep) ∧ steps.length ≤ 500 ∧ Names F steps ∧
  ∀ H' r, Same H H' → Dp K H' (.ref r) (dSteps (XM.act (OF F) steps []).reverse) → Q (.ref r) H'
theorem c_piled (T : Tx K mg) (F : Fld) : Cl P w K mg base CX0 2 "piled" (spPiled K F) := by
  refine cl0 T.d_piled (ps := ["touch", "steps"]) (fun _ _ _ _ _ _ us hl => match us, hl with | [_, _], _ => rfl) sc_piled (fun vs H Q E h => ?_) (fun f cdv A outer st H vs Q E hr h => ?_)
  · obtain ⟨t, d, xs, steps, rfl, _⟩ := h
    rfl
  · obtain ⟨t, d, xs, steps, rfl, hT, ok, hS, hD, hlen, hN, q⟩ := h
    have nd := sc_piled.nd
    have hu : (A.deeper (envOfC "piled" (defScope s_piled) st.heap.objs.size f cdv)).units + 1 < cLine := by
      have := hr.un
      omega
    have hl := hD.len
    rw [List.length_map] at hl
    refine ⟨_, pss_cons (ps_set (i := 2) nd rfl (.inl rfl) (pe_lst pa_nil))
      (pss_cons (ps_for PassesOwn.never rfl (pi_tup (pv 1)) (pg_tup rfl (pgs_cons (pg_name (i := 3) nd rfl (.inl rfl)) (pgs_cons (pg_name (i := 4) nd rfl (.inl rfl)) pgs_nil)))
        (pss_cons (ps_set (i := 5) nd rfl (.inl rfl) (pe_k (c_last_touched T) hr (by decide) (by rfl) (pa_cons (pe_dget hu (pv 0) (pv 3) (fun _ _ => rfl)) (pa_cons (pv 2) pa_nil))))
        (pss_one (ps_if (PW.pt (pw_or (pt_cmpR op_lt (pv 5) pe_int (nomark _)) (pw_or1 (pt_cmpR op_ne (pe_ix ix_tup (pe_ix ix_list (pv 2) (pv 5) (fun _ _ => rfl)) pe_int (fun _ _ => rfl)) (pv 3) (nomark _)))))
          (pss_one (ps_expr (pe_bm PySem.F.plainAttrs_list PySem.F.slot_list_insert PySem.F.type_list_insert mt_insert (pv 2) (pa_cons (pe_k (c_place_behind T F) hr (by decide) (by rfl) (pa_cons (pv 2) (pa_cons (pv 5) (pa_cons (pv 3) pa_nil)))) (pa_cons (pe_tup (pa_cons (pv 3) (pa_cons (pv 4) pa_nil))) pa_nil)))))
          (pss_one (ps_if (pt_cmpR op_ne (pe_op op_add (pe_ix ix_tup (pe_ix ix_list (pv 2) (pv 5) (fun _ _ => rfl)) pe_int (fun _ _ => rfl)) (pv 4)) pe_int (nomark _))
            (pss_one (ps_asg (pe_tup (pa_cons (pv 3) (pa_cons (pe_op op_add (pe_ix ix_tup (pe_ix ix_list (pv 2) (pv 5) (fun _ _ => rfl)) pe_int (fun _ _ => rfl)) (pv 4)) pa_nil))) (pg_sub (pv 2) (pv 5) set_list)))
            (pss_one (ps_delL (pv 2) (pv 5)))))))))
      (pss_one (ps_ret (pe_tupleOf (by rfl) T.b_tuple (pv 2))))), ?_⟩
    refine ⟨by decide, fun D hD0 => ?_⟩
    refine ⟨_, rfl, d, rfl, ⟨_, (Tk.of (same_upd hD0)).sqT hS⟩, for_it (walk_tup (xs := xs)) (fun i σ H2 => ∃ (row : List (Str × Int)) (y3 y4 y5 : Option V), σ = [some (.ref t), some (.ref d), some (.ref D), y3, y4, y5] ∧ Same H H2 ∧ Row1 K H2 D row ∧ row.reverse = XM.act (OF F) (steps.take i) [])
      ⟨[], none, none, none, rfl, same_upd hD0, ⟨[], upd_same, .nil⟩, rfl⟩ (fun i σ H2 _ ⟨_, _, _, _, _, s', _⟩ => (Tk.of s').sqT hS) (fun i x σ H2 H3 hi ⟨row, y3, y4, y5, eσ, s2, ⟨ys, eD, hY⟩, er⟩ hy => ?_) (fun σ H2 ⟨row, y3, y4, y5, eσ, s2, ⟨ys, eD, hY⟩, er⟩ => ?_)⟩
    · obtain ⟨rfl, hx⟩ := hy
      subst eσ
      obtain ⟨dd, g1, p1⟩ := hD.get hx
      rw [List.getElem?_map] at g1
      obtain ⟨s, k1, rfl⟩ := Option.map_eq_some_iff.mp g1
      obtain ⟨b, rfl, cb⟩ := p1.step
      have cb := (Tk.of s2).sqT cb
      have ms := hN s (List.mem_of_getElem? k1)
      obtain ⟨kvs, e1, g⟩ := hT.same s2
      obtain ⟨r, e2, e3⟩ := g s.1 ms
      have dg : DGet H3 t (.str s.1) (some (.ref r)) := by
        have := DGet.k (k := .inr s.1) e1
        rwa [e2] at this
      have hly := hY.len
      rw [List.length_map] at hly
      have hnr : Names F row.reverse := by
        rw [er]
        exact names_act (fun z hz => hN z (List.mem_of_mem_take hz)) (fun _ h => nomatch h)
      have hlr : row.length ≤ 500 := by
        have := XM.act_len (O := OF F) (l := steps.take i) (r := [])
        rw [← er, List.length_reverse, List.length_take, List.length_nil] at this
        omega
      have hlt : i < steps.length := by omega
      have fin : ∀ row' : List (Str × Int), XM.ins (OF F) s row.reverse = row'.reverse → row'.reverse = XM.act (OF F) (steps.take (i + 1)) [] := fun row' e => by
        rw [take_snoc k1, XM.act_app, ← er, XM.act_cons, XM.act_nil, e]
      have hc : XM.lastIx (fun b => (touchL F s.1).contains b) row.reverse = XM.lastIx (fun b => (OF F).tc b s.1) row.reverse := lastIx_congr fun y hy => mem_touch ok (hnr y hy)
      refine ⟨b, _, rfl, cb, rfl, _, _, rfl, _, _, rfl, rfl, ?_⟩
      refine ⟨_, rfl, _, rfl, t, .ref r, rfl, dg, _, rfl, r, D, touchL F s.1, ys, row, rfl, e3, .inl (SqL.of eD), hY, ?_⟩
      have hin : ∀ (i0 : Nat) T, H3 T = none → Row1 K (upd (upd H3 T (.tup [.str s.1, .int s.2])) D (.lst (ys.take (((i0 + XM.lead (OF F) s.1 (row.drop i0) : Nat) : Int)).toNat ++ [.ref T] ++ ys.drop (((i0 + XM.lead (OF F) s.1 (row.drop i0) : Nat) : Int)).toNat))) D
          (row.take i0 ++ XM.among (OF F) s (row.drop i0)) := fun i0 T hT' => by
        rw [Int.toNat_natCast]
        have eD' : upd H3 T (.tup [.str s.1, .int s.2]) D = some (.lst ys) := by
          rw [upd_ne (ne_of_none eD hT')]
          exact eD
        have := DpAll.inI (row := row) (v := .ref T) (s := s) (Dp.of_step (SqT.of upd_same)) (i0 + XM.lead (OF F) s.1 (row.drop i0)) (DpAll.tk (Tk.of (same_upd (o := .tup [.str s.1, .int s.2]) hT')) _ (flat_all_steps row) hY)
        have := Row1.put eD' this
        have er1 : row.take i0 ++ XM.among (OF F) s (row.drop i0) = row.take (i0 + XM.lead (OF F) s.1 (row.drop i0)) ++ s :: row.drop (i0 + XM.lead (OF F) s.1 (row.drop i0)) := by
          unfold XM.among
          rw [List.take_add, List.append_assoc, List.drop_drop]
        rw [er1]
        exact this
      obtain ⟨k, hk⟩ : ∃ k, XM.lastIx (fun b => (touchL F s.1).contains b) row.reverse = k := ⟨_, rfl⟩
      rw [hk]
      rw [hc] at hk
      rcases XM.ins_code (O := OF F) hk with ⟨rfl, e⟩ | ⟨j, z, rfl, hz, h⟩
      · refine ⟨_, rfl, _, _, rfl, rfl, _, rfl, iteT (iteT ?_)⟩
        refine ⟨_, rfl, Or.inl ⟨rfl, _, SqL.of eD⟩, _, rfl, _, rfl, _, rfl, D, _, 0, s.1, ys, row, rfl, rfl, Nat.zero_le _, .inl (SqL.of eD), hY, ?_⟩
        have hle := XM.lead_le (O := OF F) (a := s.1) (row.drop (0))
        rw [List.length_drop] at hle
        have hb : (((0) + XM.lead (OF F) s.1 (row.drop (0)) : Nat) : Int) < 2 ^ 63 := by omega
        refine ⟨_, rfl, _, rfl, (show 2 ≤ sizeLine by decide), fun T hT' => ⟨D, ys, _, .ref T, rfl, rfl, by rw [upd_ne (ne_of_none eD hT')]; exact eD, small1000 (by omega), Int.natCast_nonneg _, hb, ?_⟩⟩
        exact ⟨_, _, _, _, rfl, same_put (same_new s2 hT') hD0, hin (0) T hT', fin _ (by simpa using e)⟩
      · have hj := (List.getElem?_eq_some_iff.mp hz).1
        obtain ⟨c, hc1, hc2⟩ := hY.step hz
        refine ⟨_, rfl, _, _, rfl, rfl, _, rfl, ?_⟩
        rw [show decide ((j : Int) < 0) = false from decide_eq_false (by omega)]
        refine iteF ⟨_, rfl, _, rfl, _, _, _, _, rfl, rfl, SqL.of eD, at_of (j := j) rfl hc1, _, _, _, _, rfl, rfl, hc2, rfl, _, rfl, rfl, _, rfl, ?_⟩
        rw [show decide (V.str z.1 = V.str s.1) = decide (z.1 = s.1) from decide_eq_decide.mpr ⟨fun h => V.str.inj h, fun h => congrArg _ h⟩]
        rcases h with ⟨n, e⟩ | ⟨n, n2, e⟩ | ⟨n, n2, e⟩
        · rw [decide_eq_false n]
          refine iteT ?_
          refine ⟨_, rfl, Or.inl ⟨rfl, _, SqL.of eD⟩, _, rfl, _, rfl, _, rfl, D, _, j + 1, s.1, ys, row, rfl, rfl, hj, .inl (SqL.of eD), hY, ?_⟩
          have hle := XM.lead_le (O := OF F) (a := s.1) (row.drop (j + 1))
          rw [List.length_drop] at hle
          have hb : (((j + 1) + XM.lead (OF F) s.1 (row.drop (j + 1)) : Nat) : Int) < 2 ^ 63 := by omega
          refine ⟨_, rfl, _, rfl, (show 2 ≤ sizeLine by decide), fun T hT' => ⟨D, ys, _, .ref T, rfl, rfl, by rw [upd_ne (ne_of_none eD hT')]; exact eD, small1000 (by omega), Int.natCast_nonneg _, hb, ?_⟩⟩
          exact ⟨_, _, _, _, rfl, same_put (same_new s2 hT') hD0, hin (j + 1) T hT', fin _ (by simpa using e)⟩
        · rw [decide_eq_true n]
          refine iteF ⟨_, rfl, _, rfl, _, _, _, _, rfl, rfl, SqL.of eD, at_of (j := j) rfl hc1, _, _, _, _, rfl, rfl, hc2, rfl, _, rfl, _, _, rfl, rfl, rfl, _, rfl, ?_⟩
          rw [dec_int, show (z.2 + s.2 == 0) = false by simp [n2]]
          refine iteT ⟨_, rfl, _, rfl, _, rfl, _, _, _, _, rfl, rfl, SqL.of eD, at_of (j := j) rfl hc1, _, _, _, _, rfl, rfl, hc2, rfl, _, rfl, _, _, rfl, rfl, (show 2 ≤ sizeLine by decide), fun T hT' => ?_⟩
          have eD' : upd H3 T (.tup [.str s.1, .int (z.2 + s.2)]) D = some (.lst ys) := by
            rw [upd_ne (ne_of_none eD hT')]
            exact eD
          refine ⟨_, rfl, _, rfl, D, ys, _, j, rfl, rfl, eD', ixN_of rfl (by omega), ?_⟩
          refine ⟨row.set j (s.1, z.2 + s.2), _, _, _, rfl, same_put (same_new s2 hT') hD0, Row1.put eD' ?_, fin _ e⟩
          rw [List.map_set]
          exact DpAll.set1 (d := dStep (s.1, z.2 + s.2)) (Dp.of_step (SqT.of upd_same)) j (DpAll.tk (Tk.of (same_upd hT')) _ (flat_all_steps row) hY)
        · rw [decide_eq_true n]
          refine iteF ⟨_, rfl, _, rfl, _, _, _, _, rfl, rfl, SqL.of eD, at_of (j := j) rfl hc1, _, _, _, _, rfl, rfl, hc2, rfl, _, rfl, _, _, rfl, rfl, rfl, _, rfl, ?_⟩
          rw [dec_int, show (z.2 + s.2 == 0) = true by simp [n2]]
          have hjb : (j : Int) < 2 ^ 63 := by omega
          refine iteF ⟨_, rfl, _, rfl, D, ys, _, j, rfl, rfl, eD, by omega, hjb, (ixN_seq (ixN_of rfl (by omega))).1, ?_⟩
          refine ⟨row.eraseIdx j, _, _, _, rfl, same_put s2 hD0, Row1.put eD ?_, fin _ e⟩
          rw [map_er]
          exact DpAll.er j hY
    · subst eσ
      refine ⟨_, rfl, .inl ⟨D, ys, rfl, SqL.of eD, fun r hr' => q _ r (same_new s2 hr') ?_⟩⟩
      rw [hl, List.take_length] at er
      rw [← er, List.reverse_reverse]
      exact .tup (SqT.of upd_same) (DpAll.tk (Tk.of (same_upd hr')) _ (flat_all_steps row) hY)
end
end XB
set_option Elab.async false
set_option linter.all false
set_option maxRecDepth 100000
set_option maxHeartbeats 4000000
namespace XB
open PySem PySem.Spec PyProof.Rows L2
section
variable {P : Program} {w : World} {K : PySem.W.Frag} {mg : Str → Option Value} {base : Heap}
theorem GoodScript.names {F : Fld} {l : List (Str × Int)} (g : GoodScript F l) : Names F l := fun s hs => (g.2 s hs).1
theorem GoodScript.nz {F : Fld} {l : List (Str × Int)} (g : GoodScript F l) : XM.NZ l := fun s hs => (g.2 s hs).2.1
/-- a field and a script -/
def FS (K : PySem.W.Frag) (F : Fld) (l : List (Str × Int)) (vs : List V) (H : Hp) : Prop := ∃ (a d : Addr), vs = [.ref a, .ref d] ∧ Dp K H (.ref a) (dField F) ∧ F.Ok ∧ Dp K H (.ref d) (dSteps l) ∧ GoodScript F l
def spLeastPile (K : PySem.W.Frag) (F : Fld) : Sp := fun vs H Q _ => ∃ l, FS K F l vs H ∧ ∀ H' r, Same H H' → Dp K H' (.ref r) (dSteps (XM.act (OF F) l []).reverse) → Q (.ref r) H'
def lenOf (l : List (Str × Int)) : Int := (l.map fun s => if s.2 < 0 then -s.2 else s.2).sum
def spLengthOf (K : PySem.W.Frag) : Sp := fun vs H Q _ => ∃ (a : Addr) (xs : List V) (l : List (Str × Int)), vs = [.ref a] ∧ SqT K H a xs ∧ DpAll K H xs (l.map dStep) ∧ l.length ≤ 500 ∧ ∀ H', Same H H' → Q (.int (lenOf l)) H'
theorem act_len0 {F : Fld} {l : List (Str × Int)} : (XM.act (OF F) l []).length ≤ l.length := by
  have := XM.act_len (O := OF F) (l := l) (r := [])
  rw [List.length_nil] at this
  omega
def spLength (K : PySem.W.Frag) (F : Fld) : Sp := fun vs H Q _ => ∃ l, FS K F l vs H ∧ ∀ H', Same H H' → Q (.int (lenOf (XM.act (OF F) l []).reverse)) H'
def spIsPile (K : PySem.W.Frag) (F : Fld) : Sp := fun vs H Q _ => ∃ l, FS K F l vs H ∧ ∀ H', Same H H' → Q (.bl (decide ((XM.act (OF F) l []).length = l.length))) H'
def spBack (K : PySem.W.Frag) : Sp := fun vs H Q _ => ∃ (a : Addr) (l : List (Str × Int)), vs = [.ref a] ∧ Dp K H (.ref a) (dSteps l) ∧ l.length ≤ 500 ∧ ∀ H' r, Same H H' → Dp K H' (.ref r) (dSteps (XM.back l)) → Q (.ref r) H'
theorem names_back {F : Fld} {l : List (Str × Int)} (h : Names F l) : Names F (XM.back l) := fun s hs => by
  unfold XM.back at hs
  obtain ⟨x, hx, rfl⟩ := List.mem_map.mp (List.mem_reverse.mp hs)
  exact h x hx
def spTakenBack (K : PySem.W.Frag) (F : Fld) : Sp := fun vs H Q _ => ∃ l, FS K F l vs H ∧ ∀ H' r, Same H H' → Dp K H' (.ref r) (dSteps (XM.act (OF F) (XM.back l) []).reverse) → Q (.ref r) H'
end
end XB
set_option Elab.async false
set_option linter.all false
set_option maxRecDepth 100000
set_option maxHeartbeats 4000000
namespace XM
theorem frs_snoc {α : Type} [DecidableEq α] {O : Ord α} {x : α × Int} : ∀ {l bar : Row α}, frs O bar (l ++ [x]) = frs O bar l ++ (if (bar ++ l).all (fun w => !O.tc w.1 x.1) then [x.1] else [])
  | [], bar => by
    show (if _ then _ else _) = _
    rw [List.append_nil]
    cases bar.all (fun w => !O.tc w.1 x.1) <;> rfl
  | y :: l, bar => by
    have ih := frs_snoc (O := O) (x := x) (l := l) (bar := bar ++ [y])
    rw [List.append_assoc, List.singleton_append] at ih
    show (if _ then y.1 :: frs O (bar ++ [y]) (l ++ [x]) else frs O (bar ++ [y]) (l ++ [x])) = (if _ then _ else _) ++ _
    rw [ih]
    cases bar.all (fun w => !O.tc w.1 y.1) <;> rfl
end XM
namespace XB
open PySem PySem.Spec PyProof.Rows L2
section
variable {P : Program} {w : World} {K : PySem.W.Frag} {mg : Str → Option Value} {base : Heap}
def SrtOf (ns zs : List Str) : Prop := zs.Perm ns ∧ sortedS zs = true
theorem frs_len {F : Fld} : ∀ {l bar : List (Str × Int)}, (XM.frs (OF F) bar l).length ≤ l.length
  | [], _ => Nat.le_refl _
  | x :: l, bar => by
    have ih := frs_len (F := F) (l := l) (bar := bar ++ [x])
    unfold XM.frs
    split
    · rw [List.length_cons, List.length_cons]
      omega
    · rw [List.length_cons]
      omega
theorem barred_all {F : Fld} (ok : F.Ok) {n : Str} (hn : n ∈ F.names) (l : List (Str × Int)) : (!(l.any fun w => (touchL F w.1).contains n)) = l.all fun w => !(OF F).tc w.1 n := by
  induction l with
  | nil => rfl
  | cons y r ih =>
    rw [List.any_cons, List.all_cons, Bool.not_or, ih, mem_touch ok hn, (OF F).symm]
def Bars (H : Hp) (B : Addr) (f : Str → Bool) (m : Nat) : Prop := ∃ kvs : List (Key × V), H B = some (.dK kvs) ∧ kvs.length ≤ m ∧ ∀ n, (valV kvs (.inr n)).isSome = f n
def spFrontNames (K : PySem.W.Frag) (F : Fld) : Sp := fun vs H Q _ => ∃ (t d : Addr) (xs : List V) (l : List (Str × Int)), vs = [.ref t, .ref d] ∧ TouchAt K H t F ∧ F.Ok ∧ SqT K H d xs ∧ DpAll K H xs (l.map dStep) ∧ l.length ≤ 60 ∧ Names F l ∧
  ∀ H' r zs, Same H H' → SrtOf (XM.frs (OF F) [] l) zs → SqT K H' r (zs.map V.str) → Q (.ref r) H'
def spFronts (K : PySem.W.Frag) (F : Fld) : Sp := fun vs H Q _ => ∃ l, FS K F l vs H ∧ ∀ H' r zs, Same H H' → SrtOf (XM.frs (OF F) [] (XM.act (OF F) l []).reverse) zs → SqT K H' r (zs.map V.str) → Q (.ref r) H'
theorem names_rev {F : Fld} {l : List (Str × Int)} (h : Names F l) : Names F l.reverse := fun s hs => h s (List.mem_reverse.mp hs)
def spEnds (K : PySem.W.Frag) (F : Fld) : Sp := fun vs H Q _ => ∃ l, FS K F l vs H ∧ ∀ H' r zs, Same H H' → SrtOf (XM.frs (OF F) [] (XM.act (OF F) l [])) zs → SqT K H' r (zs.map V.str) → Q (.ref r) H'
end
end XB
set_option Elab.async false
set_option linter.all false
set_option maxRecDepth 100000
set_option maxHeartbeats 4000000
/-! rules of rows, lists or tuples -/
namespace XB
open PySem PySem.Spec PyProof.Rows L2
section
variable {P : Program} {w : World} {K : PySem.W.Frag} {mg : Str → Option Value} {base : Heap}
def spLawApart (K : PySem.W.Frag) : Sp := fun vs H Q _ => ∃ (a : Addr) (F : Fld) (x y : Str), vs = [.ref a, .str x, .str y] ∧ Dp K H (.ref a) (dField F) ∧ F.Ok ∧ x ∈ F.names ∧ y ∈ F.names ∧ ∀ H', Same H H' → Q (.bl (apart F x y)) H'
def spLawLength (K : PySem.W.Frag) : Sp := fun vs H Q _ => ∃ (a : Addr) (xs : List V) (l : List (Str × Int)), vs = [.ref a] ∧ SqT K H a xs ∧ DpAll K H xs (l.map dStep) ∧ l.length ≤ 500 ∧ ∀ H', Same H H' → Q (.int (lenOf l)) H'
end
end XB
set_option Elab.async false
set_option linter.all false
set_option maxRecDepth 100000
set_option maxHeartbeats 4000000
namespace XB
open PySem PySem.Spec PyProof.Rows L2
section
variable {P : Program} {w : World} {K : PySem.W.Frag} {mg : Str → Option Value} {base : Heap}
def spLawBack (K : PySem.W.Frag) : Sp := fun vs H Q _ => ∃ (a : Addr) (l : List (Str × Int)), vs = [.ref a] ∧ Dp K H (.ref a) (dSteps l) ∧ l.length ≤ 500 ∧ ∀ H' r, Same H H' → Dp K H' (.ref r) (dSteps (XM.back l)) → Q (.ref r) H'
/-- whether the step there can stand first -/
def free1 (F : Fld) (l : List (Str × Int)) (k : Nat) : Bool := match l[k]? with
  | some s => (l.take k).all fun y => !(OF F).tc y.1 s.1
  | none => false
def firstsL (F : Fld) (l : List (Str × Int)) (n : Nat) : List Nat := (List.range n).filter (free1 F l)
theorem firsts_snoc {F : Fld} {l : List (Str × Int)} {n : Nat} : firstsL F l (n + 1) = firstsL F l n ++ (if free1 F l n then [n] else []) := by
  unfold firstsL
  rw [List.range_succ, List.filter_append]
  congr 1
  cases h : free1 F l n <;> simp [h]
theorem firsts_len {F : Fld} {l : List (Str × Int)} {n : Nat} : (firstsL F l n).length ≤ n := by
  have := List.length_filter_le (free1 F l) (List.range n)
  rw [List.length_range] at this
  exact this
def spLawFirst (K : PySem.W.Frag) : Sp := fun vs H Q _ => ∃ (a p : Addr) (F : Fld) (xs : List V) (l : List (Str × Int)), vs = [.ref a, .ref p] ∧ Dp K H (.ref a) (dField F) ∧ F.Ok ∧ SqX K H p xs ∧ DpAll K H xs (l.map dStep) ∧ Names F l ∧ l.length ≤ 60 ∧
  ∀ H' r, Same H H' → H' r = some (.lst ((firstsL F l l.length).map fun k => V.int (k : Nat))) → H r = none → Q (.ref r) H'
end
end XB
set_option Elab.async false
set_option linter.all false
set_option maxRecDepth 100000
set_option maxHeartbeats 4000000
namespace XB
open PySem PySem.Spec PyProof.Rows L2
def up (n : Nat) (o : Option (Nat × Nat)) : Option (Nat × Nat) := o.map fun p => (p.1 + n, p.2 + n)
theorem met_none {F : Fld} {l : List (Str × Int)} {k : Nat} {s : Str × Int} (hs : l[k]? = some s) (h : XM.near (OF F) s.1 (l.drop (k + 1)) = none) : up k (XM.met (OF F) (l.drop k)) = up (k + 1) (XM.met (OF F) (l.drop (k + 1))) := by
  rw [drop_at hs]
  show up k (match XM.near (OF F) s.1 (l.drop (k + 1)) with
    | some d => some (0, d + 1)
    | none => (XM.met (OF F) (l.drop (k + 1))).map fun p => (p.1 + 1, p.2 + 1)) = _
  rw [h]
  unfold up
  rw [Option.map_map]
  congr 1
  funext p
  show (p.1 + 1 + k, p.2 + 1 + k) = (p.1 + (k + 1), p.2 + (k + 1))
  rw [Nat.add_assoc, Nat.add_assoc, Nat.add_comm 1 k]
theorem met_here {F : Fld} {l : List (Str × Int)} {k d : Nat} {s : Str × Int} (hs : l[k]? = some s) (h : XM.near (OF F) s.1 (l.drop (k + 1)) = some d) : up k (XM.met (OF F) (l.drop k)) = some (k, k + 1 + d) := by
  rw [drop_at hs]
  show up k (match XM.near (OF F) s.1 (l.drop (k + 1)) with
    | some d => some (0, d + 1)
    | none => (XM.met (OF F) (l.drop (k + 1))).map fun p => (p.1 + 1, p.2 + 1)) = _
  rw [h]
  show some (0 + k, d + 1 + k) = _
  rw [Nat.zero_add, Nat.add_comm (d + 1) k, Nat.add_comm d 1, Nat.add_assoc]
section
variable {P : Program} {w : World} {K : PySem.W.Frag} {mg : Str → Option Value} {base : Heap}
def metV (K : PySem.W.Frag) (H : Hp) (Q : VK) : Option (Nat × Nat) → Prop
  | none => ∀ H', Same H H' → Q .non H'
  | some p => ∀ H' r, Same H H' → SqT K H' r [.int (p.1 : Nat), .int (p.2 : Nat)] → Q (.ref r) H'
def spLawMet (K : PySem.W.Frag) : Sp := fun vs H Q _ => ∃ (a p : Addr) (F : Fld) (xs : List V) (l : List (Str × Int)), vs = [.ref a, .ref p] ∧ Dp K H (.ref a) (dField F) ∧ F.Ok ∧ SqX K H p xs ∧ DpAll K H xs (l.map dStep) ∧ Names F l ∧ l.length ≤ 60 ∧
  metV K H Q (XM.met (OF F) l)
end
end XB
set_option Elab.async false
set_option linter.all false
set_option maxRecDepth 100000
set_option maxHeartbeats 4000000
namespace XB
open PySem PySem.Spec PyProof.Rows L2
theorem cut_mid (xs : List V) {i j : Nat} (h1 : i ≤ j) (h2 : j ≤ xs.length) : cutV xs (some (i : Int)) (some (j : Int)) = (xs.drop i).take (j - i) := by
  unfold cutV
  rw [HT.sIx_nat, HT.sIx_nat, Nat.min_eq_left h2, Nat.min_eq_left (Nat.le_trans h1 h2)]
def melt {α : Type} (l : List α) (x : List α) (i j : Nat) : List α := l.take i ++ x ++ ((l.drop (i + 1)).take (j - (i + 1)) ++ l.drop (j + 1))
theorem melt_step {F : Fld} {l : List (Str × Int)} {i j : Nat} (h : XM.met (OF F) l = some (i, j)) (hZ : XM.NZ l) (hN : Names F l) :
    ∃ a s t, l[i]? = some (a, s) ∧ l[j]? = some (a, t) ∧ i < j ∧ j < l.length ∧ ∀ x, x = (if s + t = 0 then [] else [(a, s + t)]) →
      XM.NZ (melt l x i j) ∧ Names F (melt l x i j) ∧ XM.act (OF F) (melt l x i j) [] = XM.act (OF F) l [] ∧ (melt l x i j).length < l.length := by
  obtain ⟨u, a, s, m, t, v, e, hi, hj, hm⟩ := XM.met_some h
  have z1 : s ≠ 0 := hZ (a, s) (by rw [e]; simp)
  have z2 : t ≠ 0 := hZ (a, t) (by rw [e]; simp)
  refine ⟨a, s, t, ?_, ?_, by omega, ?_, fun x hx => ?_⟩
  · rw [e, List.getElem?_append_right (by omega), hi, Nat.sub_self]
    rfl
  · rw [e, List.getElem?_append_right (by omega), show j - u.length = m.length + 1 by omega, List.getElem?_cons_succ, List.getElem?_append_right (by omega), Nat.sub_self]
    rfl
  · rw [e]
    simp
    omega
  · have em : melt l x i j = u ++ (x ++ (m ++ v)) := by
      unfold melt
      have e1 : l.take i = u := by
        rw [e, ← hi, List.take_left']
        rfl
      have e2 : l.drop (i + 1) = m ++ (a, t) :: v := by
        rw [e, ← hi, List.drop_append, List.drop_of_length_le (by omega)]
        rw [show u.length + 1 - u.length = 1 by omega]
        rfl
      have e3 : l.drop (j + 1) = v := by
        have : l.drop (j + 1) = (l.drop (i + 1)).drop (m.length + 1) := by
          rw [List.drop_drop]
          congr 1
          omega
        rw [this, e2, List.drop_append, List.drop_of_length_le (by omega), show m.length + 1 - m.length = 1 by omega]
        rfl
      rw [e1, e2, e3, show j - (i + 1) = m.length by omega, List.take_left' rfl, List.append_assoc]
    have nx : XM.NZ x := by
      rw [hx]
      intro y hy
      by_cases h0 : s + t = 0
      · rw [if_pos h0] at hy
        cases hy
      · rw [if_neg h0] at hy
        rw [List.mem_singleton.mp hy]
        exact h0
    have zl := hZ
    rw [e] at zl
    have zu : XM.NZ u := fun y hy => zl y (by simp [hy])
    have zm : XM.NZ m := fun y hy => zl y (by simp [hy])
    have zv : XM.NZ v := fun y hy => zl y (by simp [hy])
    have nl := hN
    rw [e] at nl
    rw [em]
    refine ⟨zu.app (nx.app (zm.app zv)), fun y hy => ?_, ?_, ?_⟩
    · rw [List.mem_append, List.mem_append, List.mem_append] at hy
      rcases hy with hy | hy | hy | hy
      · exact nl y (by simp [hy])
      · rw [hx] at hy
        by_cases h0 : s + t = 0
        · rw [if_pos h0] at hy
          cases hy
        · rw [if_neg h0] at hy
          rw [List.mem_singleton.mp hy]
          exact nl (a, s) (by simp)
      · exact nl y (by simp [hy])
      · exact nl y (by simp [hy])
    · rw [e, hx]
      exact (XM.act_meet (O := OF F) hm z1 z2 zu zm (show XM.NF (OF F) [] from trivial)).symm
    · rw [e, hx]
      by_cases h0 : s + t = 0
      · rw [if_pos h0]
        simp
        try omega
      · rw [if_neg h0]
        simp
        try omega
section
variable {P : Program} {w : World} {K : PySem.W.Frag} {mg : Str → Option Value} {base : Heap}
def spLawPile (K : PySem.W.Frag) (F : Fld) : Sp := fun vs H Q _ => ∃ (a p : Addr) (xs : List V) (l : List (Str × Int)), vs = [.ref a, .ref p] ∧ Dp K H (.ref a) (dField F) ∧ F.Ok ∧ SqT K H p xs ∧ DpAll K H xs (l.map dStep) ∧ Names F l ∧ XM.NZ l ∧ l.length ≤ 60 ∧
  ∀ H' r l', Same H H' → Row1 K H' r l' → H r = none → Names F l' → XM.NZ l' → XM.pl (OF F) l' = true → XM.act (OF F) l' [] = XM.act (OF F) l [] → l'.length ≤ l.length → Q (.ref r) H'
/-- what _law_met has answered -/
def SpotV (K : PySem.W.Frag) (H : Hp) (z : V) : Option (Nat × Nat) → Prop
  | none => z = .non
  | some p => ∃ t, z = .ref t ∧ SqT K H t [.int (p.1 : Nat), .int (p.2 : Nat)]
theorem metV_of {H : Hp} {Q : VK} {o : Option (Nat × Nat)} (h : ∀ H' z, Same H H' → SpotV K H' z o → Q z H') : metV K H Q o := by
  cases o with
  | none => exact fun H' s => h H' .non s rfl
  | some p => exact fun H' r s hs => h H' (.ref r) s ⟨r, rfl, hs⟩
def PileInv (K : PySem.W.Frag) (F : Fld) (H : Hp) (a p : Addr) (l : List (Str × Int)) : Nat → L2.St → Hp → Prop := fun m σ H2 => ∃ (D : Addr) (ys : List V) (l' : List (Str × Int)) (z : V) (y4 y5 y6 y7 : Option V), m = l'.length ∧ σ = [some (.ref a), some (.ref p), some (.ref D), some z, y4, y5, y6, y7] ∧ Same H H2 ∧ H2 D = some (.lst ys) ∧ DpAll K H2 ys (l'.map dStep) ∧ H D = none ∧
        Names F l' ∧ XM.NZ l' ∧ XM.act (OF F) l' [] = XM.act (OF F) l [] ∧ l'.length ≤ l.length ∧ SpotV K H2 z (XM.met (OF F) l')
end
end XB
set_option Elab.async false
set_option linter.all false
set_option maxRecDepth 100000
set_option maxHeartbeats 4000000
namespace XB
open PySem PySem.Spec PyProof.Rows L2
theorem rising_least : ∀ {r : List Str} {x : Str}, risingS x r = true → ∀ y ∈ r, sLt y x = false
  | [], _, _ => fun _ h => nomatch h
  | z :: r, x, h => by
    unfold risingS at h
    rw [Bool.and_eq_true] at h
    have h1 : sLt z x = false := by
      have := h.1
      rw [ltCps_eq] at this
      unfold sLt
      simpa using this
    intro y hy
    rcases List.mem_cons.mp hy with rfl | hy
    · exact h1
    · have h2 := rising_least h.2 y hy
      cases h3 : sLt y x
      · rfl
      · exfalso
        by_cases e : x = z
        · rw [e] at h3
          rw [h3] at h2
          cases h2
        · have h4 : sLt x z = true := sLt_tot z x (fun q => e q.symm) h1
          have := sLt_trans _ _ _ h3 h4
          rw [this] at h2
          cases h2
theorem sorted_head {y0 : Str} {ys : List Str} (h : sortedS (y0 :: ys) = true) : ∀ y ∈ y0 :: ys, sLt y y0 = false := fun y hy => by
  rcases List.mem_cons.mp hy with rfl | hy
  · exact sLt_irr _
  · exact rising_least h y hy
def nm1 (l : List (Str × Int)) (k : Nat) : Str := (l[k]?.map (·.1)).getD ""
theorem nm1_of {l : List (Str × Int)} {k : Nat} {s : Str × Int} (h : l[k]? = some s) : nm1 l k = s.1 := by
  unfold nm1
  rw [h]
  rfl
theorem mem_firsts {F : Fld} {l : List (Str × Int)} {n k : Nat} : k ∈ firstsL F l n ↔ k < n ∧ free1 F l k = true := by
  unfold firstsL
  rw [List.mem_filter, List.mem_range]
theorem firsts_at {F : Fld} {l : List (Str × Int)} {k : Nat} (h : k ∈ firstsL F l l.length) : ∃ s, l[k]? = some s ∧ ∀ y ∈ l.take k, (OF F).tc y.1 s.1 = false := by
  obtain ⟨h1, h2⟩ := mem_firsts.mp h
  have hs : l[k]? = some l[k] := List.getElem?_eq_getElem h1
  refine ⟨_, hs, fun y hy => ?_⟩
  unfold free1 at h2
  rw [hs] at h2
  have := List.all_eq_true.mp h2 y hy
  simpa using this
theorem least_first {F : Fld} {l : List (Str × Int)} {ys : List Str} {y0 : Str} (hP : (y0 :: ys).Perm ((firstsL F l l.length).map (nm1 l))) (hS : sortedS (y0 :: ys) = true) {k : Nat} (hk : k ∈ firstsL F l l.length) (hn : nm1 l k = y0) :
    ∃ s, l[k]? = some s ∧ s.1 = y0 ∧ l = l.take k ++ s :: l.drop (k + 1) ∧ XM.LeastFirst (OF F) (l.take k) s (l.drop (k + 1)) := by
  obtain ⟨s, hs, hf⟩ := firsts_at hk
  have e1 : s.1 = y0 := by rw [← hn, nm1_of hs]
  have e2 : l = l.take k ++ s :: l.drop (k + 1) := by
    rw [← drop_at hs, List.take_append_drop]
  refine ⟨s, hs, e1, e2, hf, fun p' z q' e hp hz => ?_⟩
  rw [← e2] at e
  have hz' : l[p'.length]? = some z := by
    rw [e, List.getElem?_append_right (Nat.le_refl _), Nat.sub_self]
    rfl
  have m : p'.length ∈ firstsL F l l.length := by
    refine mem_firsts.mpr ⟨(List.getElem?_eq_some_iff.mp hz').1, ?_⟩
    unfold free1
    rw [hz']
    show (l.take p'.length).all _ = true
    rw [e, List.take_left' rfl, List.all_eq_true]
    intro w hw
    rw [hp w hw]
    rfl
  have m2 : z.1 ∈ y0 :: ys := hP.symm.subset (List.mem_map.mpr ⟨_, m, nm1_of hz'⟩)
  have := sorted_head hS _ m2
  show sLt s.1 z.1 = true
  rw [e1]
  exact sLt_tot _ _ (fun q => hz (by rw [q, e1])) this
theorem firsts_some {F : Fld} {l : List (Str × Int)} (h : l ≠ []) : 0 ∈ firstsL F l l.length := by
  cases l with
  | nil => exact absurd rfl h
  | cons x r => exact mem_firsts.mpr ⟨by simp, rfl⟩
/-- what stands fast while the least pile is drawn from a pile -/
structure LInv (F : Fld) (l fl ll : List (Str × Int)) : Prop where
  srt : XM.Srt (OF F) fl ll
  pl : XM.pl (OF F) (fl ++ ll) = true
  nf : XM.NZ fl
  nl : XM.NZ ll
  act : XM.act (OF F) (fl ++ ll) [] = XM.act (OF F) l []
  nm : Names F ll
  len : fl.length + ll.length ≤ 60
theorem LInv.step {F : Fld} {l fl p q : List (Str × Int)} {s : Str × Int} (I : LInv F l fl (p ++ s :: q)) (L : XM.LeastFirst (OF F) p s q) : LInv F l (fl ++ [s]) (p ++ q) := by
  have zs : s.2 ≠ 0 := I.nl s (by simp)
  have zp : XM.NZ p := fun y hy => I.nl y (by simp [hy])
  have zq : XM.NZ q := fun y hy => I.nl y (by simp [hy])
  refine ⟨I.srt.step L, ?_, I.nf.app fun y hy => by rw [List.mem_singleton.mp hy]; exact zs, zp.app zq, ?_, fun y hy => I.nm y ?_, ?_⟩
  · rw [List.append_assoc, List.singleton_append, ← XM.pl_move L.free]
    exact I.pl
  · rw [List.append_assoc, List.singleton_append, ← XM.act_move L.free I.nf zp (show XM.NF (OF F) [] from trivial)]
    exact I.act
  · rw [List.mem_append] at hy
    rcases hy with h | h <;> simp [h]
  · have := I.len
    simp at this ⊢
    omega
theorem LInv.done {F : Fld} {l fl : List (Str × Int)} (I : LInv F l fl []) : (XM.act (OF F) l []).reverse = fl := by
  have h := I.pl
  have nf : XM.NF (OF F) fl.reverse := XM.nf_of (left := []) _ fl rfl I.srt h I.nf
  have a := XM.act_fix nf
  rw [List.reverse_reverse] at a
  have := I.act
  rw [List.append_nil, a] at this
  rw [← this, List.reverse_reverse]
theorem lay_steps : ∀ {l : List (Str × Int)}, (∀ s ∈ l, GoodName s.1) → PyData.canLayAll0 (l.map dStep) = true
  | [], _ => rfl
  | s :: l, h => by
    rw [List.map_cons, PyData.canLayAll0, lay_steps fun x hx => h x (List.mem_cons_of_mem _ hx)]
    show (PyData.canLay0 (.tuple [.str s.1, .int s.2]) && true) = true
    simp [PyData.canLay0, PyData.canLayAll0, strOk_of (h s List.mem_cons_self)]
theorem deep_steps : ∀ l : List (Str × Int), PyData.depthAll (l.map dStep) ≤ 2
  | [] => by decide
  | s :: l => by
    rw [List.map_cons, PyData.depthAll]
    have := deep_steps l
    have e : (dStep s).depth ≤ 2 := by
      show PyData.depth (.tuple [.str s.1, .int s.2]) ≤ 2
      simp [PyData.depth, PyData.depthAll]
    omega
theorem sh_steps {l : List (Str × Int)} (h : ∀ s ∈ l, GoodName s.1) : SeqAt.shaped (.list (l.map dStep)) = true := by
  have h2 := deep_steps l
  show (PyData.canLayAll0 (l.map dStep) && decide (PyData.depthAll (l.map dStep) + 1 ≤ 64)) = true
  rw [lay_steps h, Bool.true_and]
  exact decide_eq_true (by omega)
theorem ne_steps (l : List (Str × Int)) : PyData.eqv (.list (l.map dStep)) (.list []) = l.isEmpty := by
  cases l <;> rfl
end XB
set_option Elab.async false
set_option linter.all false
set_option maxRecDepth 100000
set_option maxHeartbeats 4000000
namespace XB
open PySem PySem.Spec PyProof.Rows L2
theorem fresh_of {H H1 : Hp} {p : Addr} (s : Same H H1) (h : H1 p = none) : H p = none := by
  cases e : H p with
  | none => rfl
  | some o =>
    rw [s _ _ e] at h
    cases h
theorem nat_at {ns : List Nat} {i : Nat} {x : V} (h : (ns.map fun k => V.int (k : Nat))[i]? = some x) : ∃ k, ns[i]? = some k ∧ x = V.int (k : Nat) := by
  rw [List.getElem?_map] at h
  obtain ⟨z, e, rfl⟩ := Option.map_eq_some_iff.mp h
  exact ⟨z, e, rfl⟩
section
variable {P : Program} {w : World} {K : PySem.W.Frag} {mg : Str → Option Value} {base : Heap}
def spLawLeast (K : PySem.W.Frag) (F : Fld) : Sp := fun vs H Q _ => ∃ (a p : Addr) (l : List (Str × Int)), vs = [.ref a, .ref p] ∧ Dp K H (.ref a) (dField F) ∧ F.Ok ∧ Dp K H (.ref p) (dSteps l) ∧ Names F l ∧ XM.NZ l ∧ l.length ≤ 60 ∧
  ∀ H' r, Same H H' → Dp K H' (.ref r) (dSteps (XM.act (OF F) l []).reverse) → Q (.ref r) H'
def LeastInv (K : PySem.W.Frag) (F : Fld) (H : Hp) (a p : Addr) (l : List (Str × Int)) : Nat → L2.St → Hp → Prop := fun m σ H2 => ∃ (D E : Addr) (xs ys : List V) (ll fl : List (Str × Int)) (y4 y5 y6 : Option V), m = ll.length ∧ σ = [some (.ref a), some (.ref p), some (.ref D), some (.ref E), y4, y5, y6] ∧ Same H H2 ∧
  H2 D = some (.lst xs) ∧ DpAll K H2 xs (ll.map dStep) ∧ H D = none ∧ H2 E = some (.lst ys) ∧ DpAll K H2 ys (fl.map dStep) ∧ H E = none ∧ D ≠ E ∧ LInv F l fl ll
end
end XB
set_option Elab.async false
set_option linter.all false
set_option maxRecDepth 100000
set_option maxHeartbeats 4000000
/-! tuples of which it is known that they have no dict of their own: their methods may be called -/
namespace XB
open PySem PySem.Spec PyProof.Rows L2
def SqF (H : Hp) (a : Addr) (xs : List V) : Prop := ∃ o : Obj, H a = some (.frz o (.tup xs)) ∧ o.cls = .type "tuple" ∧ o.dict = none
theorem SqF.sqT {K : PySem.W.Frag} {H : Hp} {a : Addr} {xs : List V} (h : SqF H a xs) : SqT K H a xs := by
  obtain ⟨o, e, _⟩ := h
  exact .inl (.inr ⟨o, e⟩)
theorem SqF.same {H H' : Hp} {a : Addr} {xs : List V} (h : SqF H a xs) (s : Same H H') : SqF H' a xs := by
  obtain ⟨o, e, r⟩ := h
  exact ⟨o, s _ _ e, r⟩
theorem SqF.tk {H H' : Hp} {a : Addr} {xs : List V} (h : SqF H a xs) (t : Tk H H') : SqF H' a xs := by
  obtain ⟨o, e, r⟩ := h
  exact ⟨o, t.z _ _ _ e, r⟩
/-- the names of a field stand so -/
def FNm (K : PySem.W.Frag) (H : Hp) (f : Addr) (F : Fld) : Prop := ∃ n p, SqT K H f [.ref n, .ref p] ∧ SqF H n (F.names.map V.str)
theorem FNm.tk {K : PySem.W.Frag} {H H' : Hp} {f : Addr} {F : Fld} (h : FNm K H f F) (t : Tk H H') : FNm K H' f F := by
  obtain ⟨n, p, h1, h2⟩ := h
  exact ⟨n, p, t.sqT h1, h2.tk t⟩
/-- (e, ..): a new tuple without a dict of its own -/
def tTupF (t : TA) : TE := fun σ H Q => t σ H fun xs H1 => xs.length ≤ sizeLine ∧ ∀ p o, o.cls = .type "tuple" → o.dict = none → H1 p = none → Q (.ref p) (upd H1 p (.frz o (.tup xs)))
def rSlF (K : PySem.W.Frag) : V → Option Int → Option Int → Hp → VK → Prop := fun x lo hi H Q => ∃ a xs, x = .ref a ∧ SqF H a xs ∧ ∀ H' p, Same H H' → SqF H' p (cutV xs lo hi) → Q (.ref p) H'
section
variable {X : Cx} {es : List Expr} {t : TA} {pos : Pos}
theorem pe_tupF {x1} (h : PA X es t) : PE X (.Tuple es x1 pos) (tTupF t) := by
  refine ⟨fun pins s σ H Q I hq => ?_⟩
  refine wpAny_Tuple_spliced (thn (h.run pos pins s σ H _ I hq) fun us s1 ⟨xs, H1, I1, r, z, q⟩ => ⟨by rw [← r.length]; exact z, ?_⟩)
  have hf : H1 s1.heap.objs.size = none := I1.hok.fresh (Nat.le_refl _)
  refine ⟨.ref s1.heap.objs.size, upd H1 s1.heap.objs.size (.frz { cls := .type "tuple", data := .seq us.toArray } (.tup xs)), I1.laid (t' := s1.toks) (fun b u e => Heap.get?_push_of_some _ e) (Nat.le_refl _) ?_, rfl, q _ _ rfl rfl hf⟩
  exact ⟨Heap.get?_push_size _ rfl, z, us, r, ⟨_, Heap.get?_push_size _ rfl, rfl, _, rfl⟩⟩
theorem sl_tupF {K : PySem.W.Frag} (hk : X.K = K) : SlR X (rSlF K) := by
  subst hk
  intro pins s σ H x v vl vu lo hi sl Q I rx hs pl pu h
  obtain ⟨a, xs, rfl, hF, q⟩ := h
  have hx : SqT X.K H a xs := hF.sqT
  cases rx
  obtain ⟨its, r, ht, hz⟩ := I.tuple hx
  have hlen : its.toArray.size = xs.length := by rw [List.size_toArray]; exact r.length.symm
  refine ⟨"tuple", _, PyProof.Rows.slot_tuple_getitem.lookup, ht.typeIs, ?_⟩
  by_cases hw : HT.sIx xs.length 0 lo = 0 ∧ HT.sIx xs.length xs.length hi = xs.length
  · refine getItem_tuple_whole ht hs pl pu (by rw [hlen]; exact hw) ⟨.ref a, H, I, rfl, q H a (Same.refl _) ?_⟩
    have e : cutV xs lo hi = xs := by
      unfold cutV
      rw [hw.1, hw.2]
      simp
    rw [e]
    exact hF
  · refine HT.getItem_tuple_cut ht hs pl pu (by rw [hlen]; exact hw) ?_ (by rw [hlen]; exact hz)
    rw [hlen]
    have hf : H s.heap.objs.size = none := I.hok.fresh (Nat.le_refl _)
    refine ⟨.ref s.heap.objs.size, _, I.laid (t' := s.toks) (o := .frz { cls := .type "tuple", data := .seq ((its.drop (HT.sIx xs.length 0 lo)).take (HT.sIx xs.length xs.length hi - HT.sIx xs.length 0 lo)).toArray } (.tup (cutV xs lo hi))) (fun b ob q => Heap.get?_push_of_some _ q) (Nat.le_refl _) ?_, rfl, q _ _ (same_upd hf) ⟨_, upd_same, rfl, rfl⟩⟩
    exact ⟨Heap.get?_push_size _ rfl, Nat.le_trans (cutV_length xs lo hi) hz, _, (r.drop (HT.sIx xs.length 0 lo)).take (HT.sIx xs.length xs.length hi - HT.sIx xs.length 0 lo), IsTup.new _ _⟩
/-- o.m(e, ..) of such a tuple -/
def tBMF (r : V → List V → Hp → VK → Prop) (to : TE) (t : TA) : TE := fun σ H Q => to σ H fun x H1 => (∃ a xs, x = .ref a ∧ SqF H1 a xs) ∧ t σ H1 fun xs H2 => r x xs H2 Q
variable {o e : Expr} {to : TE} {name : Str} {apos cpos : Pos} {id : String} {r : V → List V → Hp → VK → Prop}
theorem pe_bmF (slot : Slot "tuple" name id) (hty : typeOf (.builtin id) = pure (.type "method_descriptor")) (hm : MtR X id r) (ho : PE X o to) (ha : PA X (e :: es) t)
    (hbase : attributeBase o name X.env (eval o X.env) = eval o X.env := by rfl)
    (hfew : ((backTo cpos (starEach (e :: es) X.env)).all (fun x => !x.1) && (backToKw cpos (keywordEach [] X.env)).all (fun x => x.1.isSome)
      && decide ((e :: es).length + ([] : List Keyword).length + (if ([] : List Keyword).isEmpty then 0 else 1) < 30)) = true := by rfl)
    (hline : (apos.endLine == cpos.line) = true := by rfl) (hs : starEach (e :: es) X.env = (false, eval e X.env) :: starEach es X.env := by rfl) (hplain : (backTo cpos (starEach es X.env)).any (·.1) = false := by rfl) :
    PE X (.Call (.Attribute o name apos) (e :: es) [] cpos) (tBMF r to t) := by
  refine ⟨fun pins s σ H Q I h => ?_⟩
  refine wpAny_Call_method_late hbase hfew hline rfl (thn (ho.run pins s σ H _ I h) fun v s1 ⟨x, H1, I1, r1, ty, q1⟩ => ?_)
  obtain ⟨a, xs, rfl, ob, hH, hc, hd⟩ := ty
  cases r1
  obtain ⟨hg, _⟩ := I1.hok a _ hH
  refine ⟨"tuple", id, PySem.F.plainAttrs_tuple, slot, hty, ⟨ob, hg, hc⟩, fun b e => ?_, ?_⟩
  · cases e
    exact ⟨ob, hg, hd⟩
  · have hA := ha.run cpos pins s1 σ H1 _ I1 q1
    rw [hs] at hA ⊢
    refine Calls.callWith_builtin (by show (false || (backTo cpos (starEach es X.env)).any (·.1)) = false; rw [hplain] <;> rfl) (Calls.evalArgs_plain ?_)
    exact thn hA fun us s2 ⟨vs, H2, I2, r2, q2⟩ => hm pins s2 σ H2 (.ref a) vs _ us Q I2 rfl r2 q2
end
end XB
set_option Elab.async false
set_option linter.all false
set_option maxRecDepth 100000
set_option maxHeartbeats 4000000
namespace XB
open PySem PySem.Spec PyProof.Rows L2
def NL : List Str := ["a", "b", "c", "dd", "e", "f"]
def nmN (i : Nat) : Str := (NL[i]?).getD ""
def fP (n i : Nat) : List (Str × Str) := ((NL.take n).drop (i + 1)).map fun o => (nmN i, o)
def PP (n k : Nat) : List (Str × Str) := (List.range k).flatMap (fP n)
def ltP (p q : Str × Str) : Bool := if p.1 == q.1 then (if p.2 == q.2 then false else sLt p.2 q.2) else sLt p.1 q.1
def pwB {α : Type} (r : α → α → Bool) : List α → Bool
  | [] => true
  | x :: l => l.all (r x) && pwB r l
theorem pw_of {α : Type} {r : α → α → Bool} : ∀ {l : List α}, pwB r l = true → l.Pairwise fun a b => r a b = true
  | [], _ => .nil
  | x :: l, h => by
    unfold pwB at h
    rw [Bool.and_eq_true, List.all_eq_true] at h
    exact .cons h.1 (pw_of h.2)
def goodB (n : Str) : Bool := decide (1 ≤ n.length) && decide (n.length ≤ 6) && n.cps.toList.all fun c => decide (97 ≤ c) && decide (c ≤ 122)
theorem good_of {n : Str} (h : goodB n = true) : GoodName n := by
  unfold goodB at h
  simp only [Bool.and_eq_true, decide_eq_true_eq, List.all_eq_true] at h
  exact ⟨h.1.1, h.1.2, h.2⟩
def okB (n : Nat) : Bool := (PP n n).all (fun p => sLt p.1 p.2 && (NL.take n).contains p.1 && (NL.take n).contains p.2) && pwB ltP (PP n n) && pwB sLt (NL.take n) && (NL.take n).all goodB && decide ((PP n n).length ≤ 100) && decide ((NL.take n).length = n)
theorem okB_all : okB 1 = true ∧ okB 2 = true ∧ okB 3 = true ∧ okB 4 = true ∧ okB 5 = true ∧ okB 6 = true := by decide +kernel
theorem okB_of {n : Nat} (h0 : 1 ≤ n) (h6 : n ≤ 6) : okB n = true := by
  obtain ⟨a, b, c, d, e, f⟩ := okB_all
  rcases n with _ | _ | _ | _ | _ | _ | _ | n
  · omega
  · exact a
  · exact b
  · exact c
  · exact d
  · exact e
  · exact f
  · omega
theorem fld_ok {n : Nat} {ps : List (Str × Str)} (h0 : 1 ≤ n) (h6 : n ≤ 6) (hs : ps.Sublist (PP n n)) : (Fld.mk (NL.take n) ps).Ok := by
  have h := okB_of h0 h6
  unfold okB at h
  simp only [Bool.and_eq_true, decide_eq_true_eq, List.all_eq_true] at h
  obtain ⟨⟨⟨⟨⟨a, b⟩, c⟩, d⟩, e⟩, f⟩ := h
  refine ⟨by show 0 < (NL.take n).length; omega, by show (NL.take n).length ≤ 6; omega, fun p hp => (a p (hs.subset hp)).1.1, fun p hp => ⟨?_, ?_⟩, fun x hx => good_of (d x hx), pw_of c, (pw_of b).sublist hs, Nat.le_trans hs.length_le e⟩
  · have := (a p (hs.subset hp)).1.2
    simpa using this
  · have := (a p (hs.subset hp)).2
    simpa using this
theorem Dr.tk {H H' : Hp} {m c g : Addr} {s : Int} (D : Dr H m c g s) (k : Kp m g H H') : Tk H H' := by
  obtain ⟨⟨cs, gs, em, ec, eg, _⟩, _⟩ := D
  exact ⟨fun b xs e => k b _ (ne_of e em fun q => nomatch q) (ne_of e eg fun q => nomatch q) e, fun b o u e => k b _ (ne_of e em fun q => nomatch q) (ne_of e eg fun q => nomatch q) e⟩
theorem Dr.nm {H : Hp} {m c g : Addr} {s : Int} (D : Dr H m c g s) {p : Addr} (h : H p = none) : p ≠ m ∧ p ≠ c ∧ p ≠ g := by
  obtain ⟨⟨cs, gs, em, ec, eg, _⟩, _⟩ := D
  exact ⟨fun e => (by rw [e, em] at h; cases h), fun e => (by rw [e, ec] at h; cases h), fun e => (by rw [e, eg] at h; cases h)⟩
theorem Dr.same {H H' : Hp} {m c g : Addr} {s : Int} (D : Dr H m c g s) (t : Same H H') : Dr H' m c g s := by
  obtain ⟨⟨cs, gs, em, ec, eg, r⟩, a, b⟩ := D
  exact ⟨⟨cs, gs, t _ _ em, t _ _ ec, t _ _ eg, r⟩, a, b⟩
theorem Dr.put {H : Hp} {m c g D : Addr} {s : Int} {o : HO} (R : Dr H m c g s) (h : D ≠ m ∧ D ≠ c ∧ D ≠ g) : Dr (upd H D o) m c g s := by
  obtain ⟨⟨cs, gs, em, ec, eg, r⟩, a, b⟩ := R
  exact ⟨⟨cs, gs, by rw [upd_ne h.1.symm]; exact em, by rw [upd_ne h.2.1.symm]; exact ec, by rw [upd_ne h.2.2.symm]; exact eg, r⟩, a, b⟩
theorem Kp.put {m g D : Addr} {H H1 : Hp} {o : HO} (k : Kp m g H H1) (h : H D = none) : Kp m g H (upd H1 D o) := fun b u h1 h2 e => by
  rw [upd_ne (ne_of_none e h)]
  exact k b u h1 h2 e
theorem sl_pre {K : PySem.W.Frag} {H : Hp} {a : Addr} {xs : List V} {k : Nat} {Q : VK} (h : SqT K H a xs) (q : ∀ H' p, Same H H' → SqT K H' p (xs.take k) → Q (.ref p) H') : rSlA K (.ref a) none (some (k : Int)) H Q := by
  refine ⟨a, xs, rfl, h, fun hw => q H a (Same.refl _) ?_, fun _ p hp => q _ p (same_upd hp) ?_⟩
  · rw [← cut_init, cut_whole hw]
    exact h
  · rw [← cut_init]
    exact SqT.of upd_same
theorem sl_suf {K : PySem.W.Frag} {H : Hp} {a : Addr} {xs : List V} {k : Nat} {Q : VK} (h : SqT K H a xs) (q : ∀ H' p, Same H H' → SqT K H' p (xs.drop k) → Q (.ref p) H') : rSlA K (.ref a) (some (k : Int)) none H Q := by
  refine ⟨a, xs, rfl, h, fun hw => q H a (Same.refl _) ?_, fun _ p hp => q _ p (same_upd hp) ?_⟩
  · rw [← cut_from, cut_whole hw]
    exact h
  · rw [← cut_from]
    exact SqT.of upd_same
theorem PP_succ (n k : Nat) : PP n (k + 1) = PP n k ++ fP n k := by
  unfold PP
  rw [List.range_succ, List.flatMap_append]
  simp
theorem nl_at {n k : Nat} (h6 : n ≤ 6) (h : k < n) : ((NL.take n).map V.str)[k]? = some (.str (nmN k)) := by
  have hl : k < NL.length := by show k < 6; omega
  rw [List.getElem?_map, List.getElem?_take, if_pos h, List.getElem?_eq_getElem hl]
  unfold nmN
  rw [List.getElem?_eq_getElem hl]
  rfl
theorem nl_len {n : Nat} (h6 : n ≤ 6) : (NL.take n).length = n := by
  rw [List.length_take]
  show min n 6 = n
  omega
/-- pairs in a list of their own -/
def RowP (K : PySem.W.Frag) (H : Hp) (D : Addr) (ps : List (Str × Str)) : Prop := ∃ xs, H D = some (.lst xs) ∧ DpAll K H xs (ps.map dPair)
theorem flat_pairs (ps : List (Str × Str)) : flatAll (ps.map dPair) = true := flatAll_of fun d hd => by
  obtain ⟨y, _, rfl⟩ := List.mem_map.mp hd
  rfl
def FieldInv (K : PySem.W.Frag) (H : Hp) (m c g tn D : Addr) (most ch s : Int) (n : Nat) (all : List (Str × Str)) (b : Nat) (y5 : Option V) : L2.St → Hp → Prop := fun σ H2 => ∃ (y6 : Option V) (s2 : Int) (ps : List (Str × Str)), σ = [some (.ref m), some (.int most), some (.ref tn), some (.ref D), some (.int ch), y5, y6] ∧
  Kp m g H H2 ∧ Dr H2 m c g s2 ∧ s2 ≤ s + 2 + (b : Int) ∧ SqF H2 tn ((NL.take n).map V.str) ∧ RowP K H2 D ps ∧ ps.Sublist all ∧ ps.length ≤ b
section
variable {P : Program} {w : World} {K : PySem.W.Frag} {mg : Str → Option Value} {base : Heap}
def spLawField (K : PySem.W.Frag) : Sp := fun vs H Q _ => ∃ (m c g : Addr) (s most : Int), vs = [.ref m, .int most] ∧ Dr H m c g s ∧ 1 ≤ most ∧ most ≤ 6 ∧ s < 1000000000 ∧
  ∀ H' f F s', Dr H' m c g s' → s' ≤ s + 40 → Kp m g H H' → Dp K H' (.ref f) (dField F) → F.Ok → FNm K H' f F → Q (.ref f) H'
end
end XB
set_option Elab.async false
set_option linter.all false
set_option maxRecDepth 100000
set_option maxHeartbeats 4000000
namespace XB
open PySem PySem.Spec PyProof.Rows L2
def SL : List Int := [1, -1, 1, -1, 2, -2, 3, -3, 1, -1, 6, 10 ^ 30, -(10 ^ 30), 10 ^ 30 - 1]
theorem sl_good {i : Nat} {z : Int} (h : SL[i]? = some z) : GoodTimes z := by
  have : ∀ z ∈ SL, z ≠ 0 ∧ -(10 ^ 30) ≤ z ∧ z ≤ 10 ^ 30 := by decide +kernel
  exact this z (List.mem_of_getElem? h)
section
variable {P : Program} {w : World} {K : PySem.W.Frag} {mg : Str → Option Value} {base : Heap}
def spLawScript (K : PySem.W.Frag) : Sp := fun vs H Q _ => ∃ (m c g f : Addr) (s most : Int) (F : Fld), vs = [.ref m, .ref f, .int most] ∧ Dr H m c g s ∧ Dp K H (.ref f) (dField F) ∧ F.Ok ∧ 0 ≤ most ∧ most ≤ 60 ∧ s < 1000000000 ∧
  ∀ H' r l s', Dr H' m c g s' → s' ≤ s + 2 + 2 * most → Kp m g H H' → Dp K H' (.ref r) (dSteps l) → GoodScript F l → (l.length : Int) ≤ most → Q (.ref r) H'
def ScriptInv (K : PySem.W.Frag) (F : Fld) (H : Hp) (m c g f D S : Addr) (most many s : Int) (b : Nat) : L2.St → Hp → Prop := fun σ H2 => ∃ (y6 : Option V) (s2 : Int) (l : List (Str × Int)), σ = [some (.ref m), some (.ref f), some (.int most), some (.ref D), some (.ref S), some (.int many), y6] ∧
  Kp m g H H2 ∧ Dr H2 m c g s2 ∧ s2 ≤ s + 2 + 2 * (b : Int) ∧ Dp K H2 (.ref f) (dField F) ∧ H2 S = some (.lst (SL.map V.int)) ∧ Row1 K H2 D l ∧ (∀ x ∈ l, x.1 ∈ F.names ∧ GoodTimes x.2) ∧ l.length = b
end
end XB
set_option Elab.async false
set_option linter.all false
set_option maxRecDepth 100000
set_option maxHeartbeats 4000000
namespace XB
open PySem PySem.Spec PyProof.Rows L2
/-- what can be shown: how great it is -/
structure Sz (d : PyData) (n : Nat) : Prop where
  sh : d.showable = true
  nd : d.hasDict = false
  dp : d.depth ≤ 20
  lv : d.leavesShort 60 = true
  bk : d.bulk ≤ n
structure SzA (ds : List PyData) (n : Nat) : Prop where
  sh : PyData.showableAll ds = true
  nd : PyData.hasDictAll ds = false
  dp : PyData.depthAll ds ≤ 19
  lv : PyData.leavesShortAll 60 ds = true
  bk : PyData.bulkAll ds ≤ n
theorem Sz.fits {d : PyData} {n : Nat} (h : Sz d n) (hn : n ≤ 100000) : d.shown.length ≤ sizeLine := by
  have q := PyData.shown_le_bulk 60 (by decide) d h.lv
  have := h.bk
  rw [sizeLine_eq]
  omega
theorem SzA.nil : SzA [] 0 := ⟨rfl, rfl, by decide, rfl, Nat.le_refl _⟩
theorem SzA.cons {d : PyData} {ds : List PyData} {n k : Nat} (h : Sz d n) (hd : d.depth ≤ 19) (t : SzA ds k) : SzA (d :: ds) (n + 1 + k) := by
  refine ⟨?_, ?_, ?_, ?_, ?_⟩
  · rw [PyData.showableAll, h.sh, t.sh]
    rfl
  · rw [PyData.hasDictAll, h.nd, t.nd]
    rfl
  · rw [PyData.depthAll]
    have := t.dp
    omega
  · rw [PyData.leavesShortAll, h.lv, t.lv]
    rfl
  · rw [PyData.bulkAll]
    have := h.bk
    have := t.bk
    omega
theorem SzA.tup {ds : List PyData} {n : Nat} (h : SzA ds n) : Sz (.tuple ds) n := ⟨by rw [PyData.showable]; exact h.sh, by rw [PyData.hasDict]; exact h.nd, by rw [PyData.depth]; have := h.dp; omega, by rw [PyData.leavesShort]; exact h.lv, by rw [PyData.bulk]; exact h.bk⟩
theorem SzA.lst {ds : List PyData} {n : Nat} (h : SzA ds n) : Sz (.list ds) n := ⟨by rw [PyData.showable]; exact h.sh, by rw [PyData.hasDict]; exact h.nd, by rw [PyData.depth]; have := h.dp; omega, by rw [PyData.leavesShort]; exact h.lv, by rw [PyData.bulk]; exact h.bk⟩
theorem Sz.mono {d : PyData} {n k : Nat} (h : Sz d n) (e : n ≤ k) : Sz d k := ⟨h.sh, h.nd, h.dp, h.lv, Nat.le_trans h.bk e⟩
theorem sz_bool (b : Bool) : Sz (.bool b) 0 := ⟨rfl, rfl, by simp [PyData.depth], rfl, Nat.le_refl _⟩
theorem sz_int {z : Int} (h : z.natAbs < 10 ^ 50) : Sz (.int z) 0 := by
  refine ⟨decide_eq_true ?_, rfl, by simp [PyData.depth], decide_eq_true ?_, Nat.le_refl _⟩
  · by_cases h0 : z.natAbs = 0
    · rw [h0]
      decide
    · have : z.natAbs.log2 < 200 := (Nat.log2_lt h0).mpr (Nat.lt_of_lt_of_le h (by decide))
      omega
  · have e := int_text_length_le10 (k := 50) (by decide) h
    show (Str.ofString (toString z)).length ≤ 60
    rw [PySem.ofString_length]
    omega
theorem sz_str {n : Str} (h : GoodName n) : Sz (.str n) 6 := by
  refine ⟨rfl, rfl, by simp [PyData.depth], ?_, h.2.1⟩
  show (n.cps.toList.all fun c => decide (c < 16 ^ 8)) = true
  rw [List.all_eq_true]
  intro c hc
  have := h.2.2 c hc
  exact decide_eq_true (by omega)
theorem sz_step {s : Str × Int} (h : GoodName s.1) (g : s.2.natAbs < 10 ^ 50) : Sz (dStep s) 8 := (SzA.cons (sz_str h) (by simp [PyData.depth]) (SzA.cons (sz_int g) (by simp [PyData.depth]) SzA.nil)).tup.mono (by omega)
theorem sz_stepsA : ∀ {l : List (Str × Int)}, (∀ s ∈ l, GoodName s.1 ∧ s.2.natAbs < 10 ^ 50) → SzA (l.map dStep) (9 * l.length)
  | [], _ => SzA.nil
  | s :: l, h => by
    have t := sz_stepsA fun x hx => h x (List.mem_cons_of_mem _ hx)
    have hs := h s List.mem_cons_self
    have e : (dStep s).depth ≤ 19 := by
      show PyData.depth (.tuple [.str s.1, .int s.2]) ≤ 19
      simp [PyData.depth, PyData.depthAll]
    have q := SzA.cons (sz_step hs.1 hs.2) e t
    exact ⟨q.sh, q.nd, q.dp, q.lv, Nat.le_trans q.bk (by rw [List.length_cons]; omega)⟩
theorem sz_strsA : ∀ {l : List Str}, (∀ s ∈ l, GoodName s) → SzA (l.map .str) (7 * l.length)
  | [], _ => SzA.nil
  | s :: l, h => by
    have t := sz_strsA fun x hx => h x (List.mem_cons_of_mem _ hx)
    have q := SzA.cons (sz_str (h s List.mem_cons_self)) (by simp [PyData.depth]) t
    exact ⟨q.sh, q.nd, q.dp, q.lv, Nat.le_trans q.bk (by rw [List.length_cons]; omega)⟩
section
variable {P : Program} {w : World} {K : PySem.W.Frag} {mg : Str → Option Value} {base : Heap}
def spLike (K : PySem.W.Frag) : Sp := fun vs H Q _ => ∃ (u v : V) (d : PyData), vs = [u, v] ∧ Dp K H u d ∧ Dp K H v d ∧ Sz d 90000 ∧ Q (.bl true) H
theorem g__law_like (T : Tx K mg) : Cg P w K mg base CX0 1 "_law_like" (spLike K) := by
  refine cg0 T.d__law_like (ps := ["answer", "due"]) (fun _ _ _ _ _ _ us hl => match us, hl with | [_, _], _ => rfl) sc__law_like (fun vs H Q E h => ?_) (fun f cdv A outer st H vs Q E hgu hr h => ?_)
  · obtain ⟨u, v, d, rfl, _⟩ := h
    rfl
  · obtain ⟨u, v, d, rfl, h1, h2, z, q⟩ := h
    have hu : (A.deeper (envOfC "_law_like" (defScope s__law_like) st.heap.objs.size f cdv)).units + 70 < cLine := by
      have := hr.un
      omega
    refine ⟨_, pss_one (ps_ret (pe_cmpR op_eq (pe_callB (call_reprD hgu hu) (by rfl) T.b_repr (by decide +kernel) (pa_cons (pv 0) pa_nil)) (pe_callB (call_reprD hgu hu) (by rfl) T.b_repr (by decide +kernel) (pa_cons (pv 1) pa_nil)) (nomark _))), ?_⟩
    have dd := z.dp
    refine ⟨_, rfl, u, d, rfl, h1, z.sh, z.nd, by omega, z.fits (by decide), _, rfl, v, d, rfl, h2, z.sh, z.nd, by omega, z.fits (by decide), rfl, ?_⟩
    show Q (.bl (decide (V.str d.shown = V.str d.shown))) H
    rw [decide_eq_true rfl]
    exact q
end
end XB
set_option Elab.async false
set_option linter.all false
set_option maxRecDepth 100000
set_option maxHeartbeats 4000000
namespace XB
open PySem PySem.Spec PyProof.Rows L2
theorem firsts_frs {F : Fld} {l : List (Str × Int)} : ∀ n : Nat, n ≤ l.length → (firstsL F l n).map (nm1 l) = XM.frs (OF F) [] (l.take n)
  | 0, _ => rfl
  | n + 1, h => by
    have ih := firsts_frs (F := F) n (Nat.le_of_succ_le h)
    have hs : l[n]? = some l[n] := List.getElem?_eq_getElem h
    generalize l[n] = s at hs
    rw [firsts_snoc, List.map_append, ih, take_snoc hs, XM.frs_snoc, List.nil_append]
    congr 1
    have e : free1 F l n = (l.take n).all fun w => !(OF F).tc w.1 s.1 := by
      unfold free1
      rw [hs]
    rw [e]
    cases (l.take n).all fun w => !(OF F).tc w.1 s.1
    · rfl
    · rw [if_pos rfl, if_pos rfl, List.map_singleton, nm1_of hs]
theorem srt_unique : ∀ {zs ys : List Str}, zs.Perm ys → sortedS zs = true → sortedS ys = true → zs = ys
  | [], ys, p, _, _ => (List.Perm.nil_eq p)
  | z :: zs, [], p, _, _ => by
    have := p.length_eq
    simp at this
  | z :: zs, y :: ys, p, h1, h2 => by
    have m1 : y ∈ z :: zs := p.symm.subset List.mem_cons_self
    have m2 : z ∈ y :: ys := p.subset List.mem_cons_self
    have a1 := sorted_head h1 y m1
    have a2 := sorted_head h2 z m2
    have e : z = y := by
      by_cases e : z = y
      · exact e
      · have := sLt_tot z y e a2
        rw [a1] at this
        cases this
    subst e
    have t : ∀ {x : Str} {l : List Str}, sortedS (x :: l) = true → sortedS l = true := fun {x l} h => by
      cases l with
      | nil => rfl
      | cons y r =>
        have h : risingS x (y :: r) = true := h
        unfold risingS at h
        rw [Bool.and_eq_true] at h
        exact h.2
    rw [srt_unique (p.cons_inv) (t h1) (t h2)]
theorem srt_same {ns ms zs ys : List Str} (h1 : SrtOf ns zs) (h2 : SrtOf ms ys) (h : ns.Perm ms) : zs = ys := srt_unique (h1.1.trans (h.trans h2.1.symm)) h1.2 h2.2
theorem ins_bound {F : Fld} {x : Str × Int} {b c : Nat} (hx : x.2.natAbs ≤ c) : ∀ {r : List (Str × Int)}, (∀ y ∈ r, y.2.natAbs ≤ b) → ∀ y ∈ XM.ins (OF F) x r, y.2.natAbs ≤ b + c
  | [], _ => fun y hy => by
    have hy : y ∈ [x] := hy
    rw [List.mem_singleton.mp hy]
    omega
  | z :: r, h => by
    have ih := ins_bound (F := F) hx (r := r) fun y hy => h y (List.mem_cons_of_mem _ hy)
    have hz := h z List.mem_cons_self
    have h0 : ∀ y ∈ r, y.2.natAbs ≤ b + c := fun y hy => by
      have := h y (List.mem_cons_of_mem _ hy)
      omega
    have k : ∀ {a : Str × Int} {l : List (Str × Int)}, a.2.natAbs ≤ b + c → (∀ y ∈ l, y.2.natAbs ≤ b + c) → ∀ y ∈ a :: l, y.2.natAbs ≤ b + c := fun {a l} ha hl y hy => by
      rcases List.mem_cons.mp hy with rfl | hy
      · exact ha
      · exact hl y hy
    unfold XM.ins
    by_cases e1 : z.1 = x.1
    · rw [if_pos e1]
      by_cases e2 : z.2 + x.2 = 0
      · rw [if_pos e2]
        exact h0
      · rw [if_neg e2]
        exact k (by show (z.2 + x.2).natAbs ≤ b + c; omega) h0
    · rw [if_neg e1]
      by_cases e2 : (OF F).tc z.1 x.1 = true
      · rw [if_pos e2]
        exact k (by omega) (k (by omega) h0)
      · rw [if_neg e2]
        by_cases e3 : ((OF F).lt z.1 x.1 && XM.top (OF F) x.1 r) = true
        · rw [if_pos e3]
          exact k (by omega) (k (by omega) h0)
        · rw [if_neg e3]
          exact k (by omega) ih
theorem act_bound {F : Fld} {c : Nat} : ∀ {l r : List (Str × Int)} {b : Nat}, (∀ y ∈ l, y.2.natAbs ≤ c) → (∀ y ∈ r, y.2.natAbs ≤ b) → ∀ y ∈ XM.act (OF F) l r, y.2.natAbs ≤ b + l.length * c
  | [], r, b, _, h => fun y hy => by
    have := h y hy
    omega
  | x :: l, r, b, hl, h => fun y hy => by
    rw [XM.act_cons] at hy
    have := act_bound (F := F) (b := b + c) (fun z hz => hl z (List.mem_cons_of_mem _ hz)) (ins_bound (hl x List.mem_cons_self) h) y hy
    rw [List.length_cons, Nat.succ_mul]
    omega
theorem len_bound {c : Nat} : ∀ {l : List (Str × Int)}, (∀ y ∈ l, y.2.natAbs ≤ c) → (lenOf l).natAbs ≤ l.length * c
  | [], _ => by
    show (0 : Int).natAbs ≤ _
    omega
  | x :: l, h => by
    have t := len_bound (l := l) fun y hy => h y (List.mem_cons_of_mem _ hy)
    have hx := h x List.mem_cons_self
    have e : lenOf (x :: l) = (if x.2 < 0 then -x.2 else x.2) + lenOf l := by
      unfold lenOf
      rw [List.map_cons, List.sum_cons]
    rw [e, List.length_cons, Nat.succ_mul]
    split <;> omega
/-- the data of a good script's pile -/
structure PileD (F : Fld) (A : List (Str × Int)) : Prop where
  nm : Names F A
  ln : A.length ≤ 60
  bd : ∀ y ∈ A, y.2.natAbs < 10 ^ 40
theorem times_c {t : Int} (g : GoodTimes t) : t.natAbs ≤ 10 ^ 30 := by
  obtain ⟨_, a, b⟩ := g
  omega
theorem pileD {F : Fld} {l : List (Str × Int)} (hN : Names F l) (h60 : l.length ≤ 60) (hb : ∀ y ∈ l, y.2.natAbs ≤ 10 ^ 30) : PileD F (XM.act (OF F) l []).reverse := by
  refine ⟨names_rev (names_act hN (fun _ h => nomatch h)), ?_, fun y hy => ?_⟩
  · rw [List.length_reverse]
    exact Nat.le_trans act_len0 h60
  · have := act_bound (F := F) (r := []) (b := 0) hb (fun _ h => nomatch h) y (List.mem_reverse.mp hy)
    have h2 : l.length * 10 ^ 30 ≤ 60 * 10 ^ 30 := Nat.mul_le_mul_right _ h60
    exact Nat.lt_of_le_of_lt this (Nat.lt_of_le_of_lt (by omega) (show 60 * 10 ^ 30 < 10 ^ 40 by decide))
theorem PileD.szA {F : Fld} (ok : F.Ok) {A : List (Str × Int)} (h : PileD F A) : Sz (dSteps A) 540 := (sz_stepsA fun s hs => ⟨ok.sgn _ (h.nm s hs), Nat.lt_trans (h.bd s hs) (by decide)⟩).tup.mono (by have := h.ln; omega)
theorem PileD.szL {F : Fld} {A : List (Str × Int)} (h : PileD F A) : Sz (.int (lenOf A)) 0 := by
  refine sz_int (Nat.lt_of_le_of_lt (len_bound (c := 10 ^ 40) fun y hy => Nat.le_of_lt (h.bd y hy)) ?_)
  have : A.length * 10 ^ 40 ≤ 60 * 10 ^ 40 := Nat.mul_le_mul_right _ h.ln
  exact Nat.lt_of_le_of_lt this (by decide)
theorem frs_mem {F : Fld} : ∀ {l bar : List (Str × Int)} {n : Str}, n ∈ XM.frs (OF F) bar l → ∃ s ∈ l, s.1 = n
  | [], _, _, h => by cases h
  | x :: l, bar, n, h => by
    unfold XM.frs at h
    split at h
    · rcases List.mem_cons.mp h with rfl | h
      · exact ⟨x, List.mem_cons_self, rfl⟩
      · obtain ⟨s, hs, e⟩ := frs_mem h
        exact ⟨s, List.mem_cons_of_mem _ hs, e⟩
    · obtain ⟨s, hs, e⟩ := frs_mem h
      exact ⟨s, List.mem_cons_of_mem _ hs, e⟩
theorem sz_names {F : Fld} (ok : F.Ok) {A : List (Str × Int)} (hn : Names F A) (h60 : A.length ≤ 60) {zs : List Str} (h : SrtOf (XM.frs (OF F) [] A) zs) : Sz (dNames zs) 420 := by
  refine (sz_strsA fun s hs => ?_).tup.mono ?_
  · obtain ⟨x, hx, rfl⟩ := frs_mem (h.1.subset hs)
    exact ok.sgn _ (hn x hx)
  · have e := h.1.length_eq
    have := frs_len (F := F) (l := A) (bar := [])
    omega
theorem deep_dsteps (A : List (Str × Int)) : (dSteps A).depth ≤ 19 := by
  have := deep_steps A
  show PyData.depth (.tuple _) ≤ 19
  rw [PyData.depth]
  omega
theorem deep_strs : ∀ zs : List Str, PyData.depthAll (zs.map .str) ≤ 1
  | [] => by decide
  | z :: zs => by
    have := deep_strs zs
    rw [List.map_cons, PyData.depthAll]
    have e : (PyData.str z).depth = 0 := by simp [PyData.depth]
    omega
theorem deep_dnames (zs : List Str) : (dNames zs).depth ≤ 19 := by
  have := deep_strs zs
  show PyData.depth (.tuple _) ≤ 19
  rw [PyData.depth]
  omega
end XB
set_option Elab.async false
set_option linter.all false
set_option maxRecDepth 100000
set_option maxHeartbeats 8000000
namespace XB
open PySem PySem.Spec PyProof.Rows L2
section
variable {P : Program} {w : World} {K : PySem.W.Frag} {mg : Str → Option Value} {base : Heap}
theorem fg0 {x : Str} {st : Stmt} {N ps : List Str} {k : Nat} {sp : Sp} {fl : Addr} {fd : FuncData} (F : Fun K x x st fl fd) (S : FnScope N ps (defScope st)) (len : ∀ vs H Q E, sp vs H Q E → vs.length = ps.length)
    (body : ∀ (f : Addr) (cdv : Value) (A : Around) (outer : List Env) (s : Shared) (H : Hp) (vs : List V) (Q : VK) (E : XK), (A.deeper (envOfC x (defScope st) s.heap.objs.size f cdv)).guards = some [] → Room k (A.deeper (envOfC x (defScope st) s.heap.objs.size f cdv)) → sp vs H Q E →
      ∃ t, PSs (cxOf CX0 P w K mg base N x (defScope st) f cdv A outer s H E).nox (defBody st) t ∧ t { nx := fun _ H' => Q .non H', rt := Q } (start N vs) H) : FnG P w K mg base CX0 (k + 1) fl fd ps sp := by
  obtain ⟨oc, od, kV, doc, pm, an, cdv, ct, osl, rfl, lk, hcd⟩ := id F.ex
  refine fng_of lk hcd S len fun A outer s H vs Q E hg hr h => ?_
  obtain ⟨t, ht, q⟩ := body fl cdv A outer s H vs Q E hg hr h
  exact ⟨t, ht.nox, q⟩
end
section
variable {X : Cx} {k j : Nat} {x : Str} {sp : Fld → Sp} {p pos : Pos} {e : Expr} {es : List Expr} {t : TA}
/-- a def's promises for each field -/
theorem pe_gF (c : ∀ F, Cg X.prog X.w X.K X.mg X.base CX0 k x (sp F)) (hgu : X.A.guards = some []) (hr : Room j X.A) (hk : k ≤ j) (hg : Gl X x) (ha : PA X (e :: es) t)
    (hdb : (x == ("__debug__" : Str)) = false := by decide) (he : starEach (e :: es) X.env = (false, eval e X.env) :: starEach es X.env := by rfl) (hpl : (backTo pos (starEach es X.env)).any (·.1) = false := by rfl) :
    PE X (.Call (.Name x p) (e :: es) [] pos) (tCall (fun vs H Q E => ∃ F, sp F vs H Q E) [] E0 t) := by
  obtain ⟨f, _, _, _, hm, kp, _⟩ := (c ⟨[], []⟩).ex
  constructor
  intro pins s σ H Q I h
  refine wpAny_Call_Name_kw (ld_glob I hg hm ?_ hdb)
  refine PySem.W.callWith_K (h₀ := X.base) I.ok.mod.kin kp (thn (ha.run pos pins s σ H _ I h) ?_) he hpl
  rintro us s1 ⟨vs, H1, I1, r, G, q⟩
  obtain ⟨f', fd, ps, F, hm', _, b⟩ := (c G).ex
  have ef : f = f' := Value.ref.inj (Option.some.inj (hm.symm.trans hm'))
  subst ef
  have q' : sp G vs H1 Q E0 := by
    rw [List.append_nil] at q
    exact q
  have hl : us.length = ps.length := by
    rw [← r.length]
    exact F.many _ _ _ _ q'
  have bb := b s1 us I1.kIn (by rw [List.append_nil]; exact hl)
  rw [List.append_nil] at bb
  refine ⟨I1.kIn, wpAny_call (codeAny_mono (F.goes (outer := X.stack) (Q := Q) (E := E0) hgu (hr.mono hk) I1.env0 bb r q') ?_)⟩
  rintro (er | fl) s' hq
  · exact hq.elim
  · rcases fl with u | _ | _ | _ <;> first
      | exact I1.after hq
      | exact False.elim hq
end
section
variable {P : Program} {w : World} {K : PySem.W.Frag} {mg : Str → Option Value} {base : Heap}
def spLaw (K : PySem.W.Frag) : Sp := fun vs H Q _ => ∃ (a : Addr) (ns : List Int), vs = [.ref a] ∧ SqL K H a (ns.map V.int) ∧ ns.length ≤ 1000 ∧ ∀ H', Q (.bl true) H'
theorem sp_law_len {vs : List V} {H : Hp} {Q : VK} {E : XK} (h : spLaw K vs H Q E) : vs.length = ["script"].length := by
  obtain ⟨a, ns, rfl, _⟩ := h
  rfl
theorem same_t {H H1 H2 : Hp} (a : Same H H1) (b : Same H1 H2) : Same H H2 := a.trans b
theorem tS {K : PySem.W.Frag} {H H' : Hp} {v : V} {l : List (Str × Int)} (h : Dp K H v (dSteps l)) (s : Same H H') : Dp K H' v (dSteps l) := Dp.tk (Tk.of s) _ (flat_steps l) h
theorem tF {K : PySem.W.Frag} {H H' : Hp} {v : V} {F : Fld} (h : Dp K H v (dField F)) (s : Same H H') : Dp K H' v (dField F) := Dp.tk (Tk.of s) _ (flat_field F) h
theorem tN {K : PySem.W.Frag} {H H' : Hp} {v : V} {l : List Str} (h : Dp K H v (dNames l)) (s : Same H H') : Dp K H' v (dNames l) := Dp.tk (Tk.of s) _ (flat_names l) h
theorem dpN {K : PySem.W.Frag} {H : Hp} {a : Addr} {l : List Str} (h : SqT K H a (l.map V.str)) : Dp K H (.ref a) (dNames l) := .tup h (DpAll.strs l)
end
end XB
set_option Elab.async false
set_option linter.all false
set_option maxRecDepth 100000
set_option maxHeartbeats 4000000
/-! closers for readings of lists and tuples -/
namespace XB
open PySem PySem.Spec PyProof.Rows L2
theorem one_sz : 1 ≤ sizeLine := by decide
theorem two_sz : 2 ≤ sizeLine := by decide
theorem three_sz : 3 ≤ sizeLine := by decide
theorem slL {K : PySem.W.Frag} {H : Hp} {D : Addr} {ys : List V} {lo hi : Option Int} {Q : VK} (h : H D = some (.lst ys)) (q : ∀ H' p, Same H H' → H p = none → H' p = some (.lst (cutV ys lo hi)) → Q (.ref p) H') : rSlL K (.ref D) lo hi H Q :=
  ⟨D, ys, rfl, SqL.of h, fun p hp => q _ p (same_upd hp) hp upd_same⟩
theorem catL {H : Hp} {a b : Addr} {xs ys : List V} {Q : VK} (h1 : H a = some (.lst xs)) (h2 : H b = some (.lst ys)) (hl : xs.length + ys.length ≤ sizeLine) (q : ∀ H' p, Same H H' → H p = none → H' p = some (.lst (xs ++ ys)) → Q (.ref p) H') : rCat (.ref a) (.ref b) H Q :=
  ⟨a, b, xs, ys, rfl, rfl, h1, h2, hl, fun p hp => q _ p (same_upd hp) hp upd_same⟩
/-- a new object's heap as any heap that keeps what stood -/
@[elab_as_elim] theorem upd_gen {H : Hp} {p : Addr} {o : HO} {motive : Hp → Prop} (hp : H p = none) (q : ∀ H', Same H H' → H' p = some o → motive H') : motive (upd H p o) := q _ (same_upd hp) upd_same
theorem at_nil {α : Type} {x : α} {xs : List α} : atI (x :: xs) 0 = some x := atI_nat (j := 0) rfl
theorem ix0 {K : PySem.W.Frag} {σ : L2.St} {H : Hp} {b : Addr} {x : V} {xs : List V} {Q : VK} (h : SqT K H b (x :: xs)) (q : Q x H) : tC (.int 0) σ H (fun y H2 => rIxT K (.ref b) y H2 Q) := ⟨b, _, 0, x, rfl, rfl, h, at_nil, q⟩
theorem at_one {α : Type} {x y : α} {xs : List α} : atI (x :: y :: xs) 1 = some y := atI_nat (j := 1) rfl
theorem ix1 {K : PySem.W.Frag} {σ : L2.St} {H : Hp} {b : Addr} {x y : V} {xs : List V} {Q : VK} (h : SqT K H b (x :: y :: xs)) (q : Q y H) : tC (.int 1) σ H (fun z H2 => rIxT K (.ref b) z H2 Q) := ⟨b, _, 1, y, rfl, rfl, h, at_one, q⟩
theorem op_catAk {X : Cx} {K : PySem.W.Frag} (hk : X.K = K) : OpR X (binaryOp .Add) (rCatA K) := by
  subst hk
  exact op_catA
theorem catA {K : PySem.W.Frag} {H : Hp} {a b : Addr} {xs ys : List V} {Q : VK} (ha : SqT K H a xs) (hb : SqT K H b ys) (hl : xs.length + ys.length ≤ sizeLine) (q : ∀ H' p, Same H H' → SqT K H' p (xs ++ ys) → Q (.ref p) H') : rCatA K (.ref a) (.ref b) H Q :=
  ⟨a, b, xs, ys, rfl, rfl, ha, hb, hl, fun e => q H b (Same.refl _) (by rw [e]; exact hb), fun _ e => q H a (Same.refl _) (by rw [e, List.append_nil]; exact ha), fun _ _ p hp => q _ p (same_upd hp) (SqT.of upd_same)⟩
/-- an if whose else is shown once -/
theorem ifS_by {c : TT} {t u : TS} {D : Ends} {σ : L2.St} {H : Hp} (he : ∀ H', Same H H' → u D σ H') (hc : (∀ H', Same H H' → u D σ H') → c σ H (fun b H1 => if b = true then t D σ H1 else u D σ H1)) : tIfS c t u D σ H := hc he
theorem ix0L {K : PySem.W.Frag} {σ : L2.St} {H : Hp} {b : Addr} {x : V} {xs : List V} {Q : VK} (h : H b = some (.lst (x :: xs))) (q : Q x H) : tC (.int 0) σ H (fun y H2 => rIxL K (.ref b) y H2 Q) := ⟨b, _, 0, x, rfl, rfl, SqL.of h, at_nil, q⟩
theorem four_sz : 4 ≤ sizeLine := by decide
theorem by_q {t : TE} {σ : L2.St} {H : Hp} {Q : VK} (C : V → Hp → Prop) (h : ∀ Qx : VK, (∀ v H', C v H' → Qx v H') → t σ H Qx) (hq : ∀ v H', C v H' → Q v H') : t σ H Q := h Q hq
theorem Paired.get {α β : Type} {R : α → β → Prop} : ∀ {l : List α} {l' : List β} {i : Nat} {x : α}, Paired R l l' → l[i]? = some x → ∃ y, l'[i]? = some y ∧ R x y
  | _, _, _, _, .nil, e => by simp at e
  | _, _, 0, _, .cons h _, e => by
    cases e
    exact ⟨_, rfl, h⟩
  | _, _, i + 1, _, .cons _ t, e => Paired.get (i := i) t (by simpa using e)
end XB
set_option Elab.async false
set_option linter.all false
set_option maxRecDepth 100000
set_option maxHeartbeats 4000000
namespace XB
open PySem PySem.Spec PyProof.Rows L2
theorem sh_dsteps {l : List (Str × Int)} (h : ∀ s ∈ l, GoodName s.1) : SeqAt.shaped (dSteps l) = true := by
  have h2 := deep_steps l
  show (PyData.canLayAll0 (l.map dStep) && decide (PyData.depthAll (l.map dStep) + 1 ≤ 64)) = true
  rw [lay_steps h, Bool.true_and]
  exact decide_eq_true (by omega)
theorem eqv_step (s t : Str × Int) : PyData.eqv (dStep s) (dStep t) = decide (s = t) := by
  obtain ⟨a, i⟩ := s
  obtain ⟨b, j⟩ := t
  show (PyData.eqv (.str a) (.str b) && (PyData.eqv (.int i) (.int j) && true)) = _
  rw [Bool.and_true]
  show ((a == b) && (i == j)) = _
  by_cases h1 : a = b
  · by_cases h2 : i = j
    · simp [h1, h2]
    · simp [h2]
  · simp [h1]
theorem eqv_all_steps : ∀ l m : List (Str × Int), PyData.eqvAll (l.map dStep) (m.map dStep) = decide (l = m)
  | [], [] => rfl
  | [], b :: m => rfl
  | a :: l, [] => rfl
  | a :: l, b :: m => by
    rw [List.map_cons, List.map_cons, PyData.eqvAll, eqv_step, eqv_all_steps l m]
    by_cases h1 : a = b
    · by_cases h2 : l = m
      · simp [h1, h2]
      · simp [h2]
    · simp [h1]
theorem eqv_steps (l m : List (Str × Int)) : PyData.eqv (dSteps l) (dSteps m) = decide (l = m) := by
  show PyData.eqv (.tuple (l.map dStep)) (.tuple (m.map dStep)) = _
  rw [PyData.eqv]
  exact eqv_all_steps l m
theorem good_pile {F : Fld} (ok : F.Ok) {l : List (Str × Int)} (hN : Names F l) : ∀ s ∈ (XM.act (OF F) l []).reverse, GoodName s.1 := fun s hs => ok.sgn _ (names_act (r := []) hN (fun _ h => (nomatch h)) s (List.mem_reverse.mp hs))
/-- a row of a yard, and the yard -/
def GoodAll (F : Fld) (l : List (Str × Int)) : Prop := ∀ x ∈ l, x.1 ∈ F.names ∧ GoodTimes x.2
theorem GoodAll.nz {F : Fld} {l : List (Str × Int)} (h : GoodAll F l) : XM.NZ l := fun x hx => (h x hx).2.1
theorem GoodAll.names {F : Fld} {l : List (Str × Int)} (h : GoodAll F l) : Names F l := fun x hx => (h x hx).1
theorem GoodAll.app {F : Fld} {l m : List (Str × Int)} (h : GoodAll F l) (g : GoodAll F m) : GoodAll F (l ++ m) := fun x hx => (List.mem_append.mp hx).elim (h x) (g x)
theorem GoodAll.take {F : Fld} {l : List (Str × Int)} (h : GoodAll F l) (k : Nat) : GoodAll F (l.take k) := fun x hx => h x (List.mem_of_mem_take hx)
theorem GoodAll.drop {F : Fld} {l : List (Str × Int)} (h : GoodAll F l) (k : Nat) : GoodAll F (l.drop k) := fun x hx => h x (List.mem_of_mem_drop hx)
theorem GoodAll.one {F : Fld} {x : Str × Int} (h : x.1 ∈ F.names ∧ GoodTimes x.2) : GoodAll F [x] := fun y hy => by
  rw [List.mem_singleton.mp hy]
  exact h
/-- the same to every pile -/
theorem good_neg {t : Int} (h : GoodTimes t) : GoodTimes (-t) := by
  obtain ⟨a, b, c⟩ := h
  exact ⟨by omega, by omega, by omega⟩
theorem good_back {F : Fld} {l : List (Str × Int)} (h : GoodAll F l) : GoodAll F (XM.back l) := fun s hs => by
  unfold XM.back at hs
  obtain ⟨x, hx, rfl⟩ := List.mem_map.mp (List.mem_reverse.mp hs)
  exact ⟨(h x hx).1, good_neg (h x hx).2⟩
theorem len_back {l : List (Str × Int)} : (XM.back l).length = l.length := by
  unfold XM.back
  rw [List.length_reverse, List.length_map]
section
variable {K : PySem.W.Frag}
theorem slTo {H : Hp} {a : Addr} {l : List (Str × Int)} {k : Nat} {Q : VK} (h : Dp K H (.ref a) (dSteps l)) (q : ∀ H' p, Same H H' → Dp K H' (.ref p) (dSteps (l.take k)) → Q (.ref p) H') : rSlA K (.ref a) none (some (k : Int)) H Q := by
  obtain ⟨_, xs, e, hS, hV⟩ := h.steps
  cases e
  have hl := hV.len
  rw [List.length_map] at hl
  have e2 : HT.sIx xs.length xs.length (some (k : Int)) = min k xs.length := HT.sIx_nat xs.length xs.length k
  refine ⟨a, xs, rfl, hS, fun hw => ?_, fun _ p hp => ?_⟩
  · rw [e2] at hw
    have : l.take k = l := List.take_of_length_le (by omega)
    refine q _ _ (Same.refl _) ?_
    rw [this]
    exact h
  · refine q _ p (same_upd hp) (.tup (SqT.of upd_same) ?_)
    rw [cut_init, List.map_take]
    exact (DpAll.tk (Tk.of (same_upd hp)) _ (flat_all_steps l) hV).take k
theorem slFrom {H : Hp} {a : Addr} {l : List (Str × Int)} {k : Nat} {Q : VK} (h : Dp K H (.ref a) (dSteps l)) (q : ∀ H' p, Same H H' → Dp K H' (.ref p) (dSteps (l.drop k)) → Q (.ref p) H') : rSlA K (.ref a) (some (k : Int)) none H Q := by
  obtain ⟨_, xs, e, hS, hV⟩ := h.steps
  cases e
  have hl := hV.len
  rw [List.length_map] at hl
  have e2 : HT.sIx xs.length 0 (some (k : Int)) = min k xs.length := HT.sIx_nat xs.length 0 k
  refine ⟨a, xs, rfl, hS, fun hw => ?_, fun _ p hp => ?_⟩
  · rw [e2] at hw
    refine q _ _ (Same.refl _) ?_
    rcases Nat.eq_zero_or_pos k with h0 | h0
    · rw [h0, List.drop_zero]
      exact h
    · have : l = [] := List.length_eq_zero_iff.mp (by omega)
      rw [this] at h ⊢
      rw [List.drop_nil]
      exact h
  · refine q _ p (same_upd hp) (.tup (SqT.of upd_same) ?_)
    rw [cut_from, List.map_drop]
    exact (DpAll.tk (Tk.of (same_upd hp)) _ (flat_all_steps l) hV).drop k
theorem catD {H : Hp} {a b : Addr} {l m : List (Str × Int)} {Q : VK} (h1 : Dp K H (.ref a) (dSteps l)) (h2 : Dp K H (.ref b) (dSteps m)) (hl : l.length + m.length ≤ 500) (q : ∀ H' p, Same H H' → Dp K H' (.ref p) (dSteps (l ++ m)) → Q (.ref p) H') : rCatA K (.ref a) (.ref b) H Q := by
  obtain ⟨_, xs, e, hS, hV⟩ := h1.steps
  cases e
  obtain ⟨_, ys, e, hS2, hV2⟩ := h2.steps
  cases e
  have l1 := hV.len
  have l2 := hV2.len
  rw [List.length_map] at l1 l2
  refine catA hS hS2 (Nat.le_of_lt (small1000 (by omega))) fun H' p s h => q H' p s (.tup h ?_)
  rw [List.map_append]
  exact (DpAll.tk (Tk.of s) _ (flat_all_steps l) hV).app (DpAll.tk (Tk.of s) _ (flat_all_steps m) hV2)
end
end XB
set_option Elab.async false
set_option linter.all false
set_option maxRecDepth 100000
set_option maxHeartbeats 4000000
namespace XB
open PySem PySem.Spec PyProof.Rows L2
def ML : List Str := ["a", "b", "c", "d", "e", "f"]
def nmM (i : Nat) : Str := (ML[i]?).getD ""
def fM (n i : Nat) : List (Str × Str) := ((ML.take n).drop (i + 1)).map fun o => (nmM i, o)
def PM (n k : Nat) : List (Str × Str) := (List.range k).flatMap (fM n)
def okM (n : Nat) : Bool := (PM n n).all (fun p => sLt p.1 p.2 && (ML.take n).contains p.1 && (ML.take n).contains p.2) && pwB ltP (PM n n) && pwB sLt (ML.take n) && (ML.take n).all goodB && decide ((PM n n).length ≤ 100) && decide ((ML.take n).length = n)
theorem okM_all : okM 1 = true ∧ okM 2 = true ∧ okM 3 = true ∧ okM 4 = true ∧ okM 5 = true ∧ okM 6 = true := by decide +kernel
theorem okM_of {n : Nat} (h0 : 1 ≤ n) (h6 : n ≤ 6) : okM n = true := by
  obtain ⟨a, b, c, d, e, f⟩ := okM_all
  rcases n with _ | _ | _ | _ | _ | _ | _ | n
  · omega
  · exact a
  · exact b
  · exact c
  · exact d
  · exact e
  · exact f
  · omega
theorem fld_okM {n : Nat} {ps : List (Str × Str)} (h0 : 1 ≤ n) (h6 : n ≤ 6) (hs : ps.Sublist (PM n n)) : (Fld.mk (ML.take n) ps).Ok := by
  have h := okM_of h0 h6
  unfold okM at h
  simp only [Bool.and_eq_true, decide_eq_true_eq, List.all_eq_true] at h
  obtain ⟨⟨⟨⟨⟨a, b⟩, c⟩, d⟩, e⟩, f⟩ := h
  refine ⟨by show 0 < (ML.take n).length; omega, by show (ML.take n).length ≤ 6; omega, fun p hp => (a p (hs.subset hp)).1.1, fun p hp => ⟨?_, ?_⟩, fun x hx => good_of (d x hx), pw_of c, (pw_of b).sublist hs, Nat.le_trans hs.length_le e⟩
  · have := (a p (hs.subset hp)).1.2
    simpa using this
  · have := (a p (hs.subset hp)).2
    simpa using this
theorem PM_succ (n k : Nat) : PM n (k + 1) = PM n k ++ fM n k := by
  unfold PM
  rw [List.range_succ, List.flatMap_append]
  simp
theorem ml_at {n k : Nat} (h6 : n ≤ 6) (h : k < n) : ((ML.take n).map V.str)[k]? = some (.str (nmM k)) := by
  have hl : k < ML.length := by show k < 6; omega
  rw [List.getElem?_map, List.getElem?_take, if_pos h, List.getElem?_eq_getElem hl]
  unfold nmM
  rw [List.getElem?_eq_getElem hl]
  rfl
theorem ml_len {n : Nat} (h6 : n ≤ 6) : (ML.take n).length = n := by
  rw [List.length_take]
  show min n 6 = n
  omega
theorem fM_len {n k : Nat} : (fM n k).length ≤ 6 := by
  unfold fM
  rw [List.length_map, List.length_drop, List.length_take]
  have : ML.length = 6 := rfl
  omega
theorem PM_len' {n : Nat} : ∀ k, (PM n k).length ≤ 6 * k
  | 0 => Nat.le_refl _
  | k + 1 => by
    rw [PM_succ, List.length_append]
    have := PM_len' (n := n) k
    have := fM_len (n := n) (k := k)
    omega
theorem PM_len {n k : Nat} (h6 : n ≤ 6) (hk : k ≤ n) : (PM n k).length ≤ 36 := by
  have := PM_len' (n := n) k
  omega
theorem rowCatP {K : PySem.W.Frag} {H : Hp} {a b : Addr} {l m : List (Str × Str)} {Q : VK} (h1 : RowP K H a l) (h2 : RowP K H b m) (hl : l.length + m.length ≤ 900) (q : ∀ H' p, Same H H' → H p = none → RowP K H' p (l ++ m) → Q (.ref p) H') : rCat (.ref a) (.ref b) H Q := by
  obtain ⟨xs, e1, v1⟩ := h1
  obtain ⟨ys, e2, v2⟩ := h2
  have l1 := v1.len
  have l2 := v2.len
  rw [List.length_map] at l1 l2
  refine catL e1 e2 (Nat.le_of_lt (small1000 (by omega))) fun H' p s hp e => q H' p s hp ⟨_, e, ?_⟩
  rw [List.map_append]
  exact (DpAll.tk (Tk.of s) _ (flat_pairs l) v1).app (DpAll.tk (Tk.of s) _ (flat_pairs m) v2)
theorem RowP.same {K : PySem.W.Frag} {H H' : Hp} {a : Addr} {l : List (Str × Str)} (h : RowP K H a l) (s : Same H H') : RowP K H' a l := by
  obtain ⟨xs, e, v⟩ := h
  exact ⟨xs, s _ _ e, DpAll.tk (Tk.of s) _ (flat_pairs l) v⟩
end XB
set_option Elab.async false
set_option linter.all false
set_option maxRecDepth 100000
set_option maxHeartbeats 4000000
namespace XB
open PySem PySem.Spec PyProof.Rows L2
section
variable {P : Program} {w : World} {K : PySem.W.Frag} {mg : Str → Option Value} {base : Heap}
def TL : List Int := [1, -1, 1, -1, 2, -2, 3, -1]
def GL : List Int := [7, -12, 10 ^ 29, -10 ^ 29, 1 - 10 ^ 30, 10 ^ 30]
theorem tl_good : ∀ z ∈ TL, z ≠ 0 ∧ -(10 ^ 30) ≤ z ∧ z ≤ 10 ^ 30 := by decide +kernel
theorem gl_good : ∀ z ∈ GL, z ≠ 0 ∧ -(10 ^ 30) ≤ z ∧ z ≤ 10 ^ 30 := by decide +kernel
def Row2 (K : PySem.W.Frag) (H : Hp) (D : Addr) (l : List (Str × Int)) : Prop := ∃ xs, H D = some (.lst xs) ∧ DpAll K H xs (l.map dStep)
def spSteps (K : PySem.W.Frag) : Sp := fun vs H Q _ => ∃ (m c g f : Addr) (s most : Int) (b : Bool) (F : Fld), vs = [.ref m, .ref f, .int most, .bl b] ∧ Dr H m c g s ∧ Dp K H (.ref f) (dField F) ∧ F.Ok ∧ 0 ≤ most ∧ most ≤ 60 ∧ s < 900000000 ∧
  ∀ H' r l s', Dr H' m c g s' → s' ≤ s + 1 + 4 * most → Kp m g H H' → Dp K H' (.ref r) (dSteps l) → GoodAll F l → (l.length : Int) ≤ most → Q (.ref r) H'
def StepsInv (K : PySem.W.Frag) (F : Fld) (H : Hp) (m c g f D : Addr) (most : Int) (gb : Bool) (s : Int) (b : Nat) : L2.St → Hp → Prop := fun σ H2 => ∃ (y5 y6 : Option V) (s2 : Int) (l : List (Str × Int)), σ = [some (.ref m), some (.ref f), some (.int most), some (.bl gb), some (.ref D), y5, y6] ∧
  Kp m g H H2 ∧ Dr H2 m c g s2 ∧ s2 ≤ s + 1 + 4 * (b : Int) ∧ Row2 K H2 D l ∧ GoodAll F l ∧ l.length = b
theorem c__law_steps (T : Tx K mg) : Cl P w K mg base CX0 3 "_law_steps" (spSteps K) := by
  refine cl0 T.d__law_steps (ps := ["m", "field", "most", "great"]) (fun _ _ _ _ _ _ us hl => match us, hl with | [_, _, _, _], _ => rfl) sc__law_steps (fun vs H Q E h => ?_) (fun fa cdv A outer st H vs Q E hr h => ?_)
  · obtain ⟨m, c, g, f, s, most, b, F, rfl, _⟩ := h
    rfl
  · obtain ⟨m, c, g, f, s, most, gb, F, rfl, R, hF, ok, m0, m60, hs, q⟩ := h
    have nd := sc__law_steps.nd
    have hu := hu_of hr
    refine ⟨_, (pss_cons (ps_set (i := 4) nd rfl (.inl rfl) (pe_lst pa_nil))
    (pss_cons (ps_for PassesOwn.never rfl (pi_range1 (by rfl) T.b_range (pa_cons (pe_k (c_draw T) hr (by decide) (by rfl) (pa_cons (pv 0) (pa_cons (pe_op op_add (pv 2) pe_int) pa_nil))) pa_nil)) (pg_name (i := 5) nd rfl (.inl rfl))
    (pss_cons (ps_set (i := 6) nd rfl (.inl rfl) (pe_ix (ixk_list (K := K) rfl) (pe_lst (pa_cons pe_int (pa_cons (pe_un un_neg pe_int) (pa_cons pe_int (pa_cons (pe_un un_neg pe_int) (pa_cons pe_int (pa_cons (pe_un un_neg pe_int) (pa_cons pe_int (pa_cons (pe_un un_neg pe_int) pa_nil))))))))) (pe_k (c_draw T) hr (by decide) (by rfl) (pa_cons (pv 0) (pa_cons pe_int pa_nil))) (fun _ _ => rfl)))
    (C8.pss_cut (ps_if (PW.pt (pw_and (pt_val (pv 3)) (pw_and1 (pt_cmpR op_eq (pe_k (c_draw T) hr (by decide) (by rfl) (pa_cons (pv 0) (pa_cons pe_int pa_nil))) pe_int (nomark _))))) (pss_one (ps_set (i := 6) nd rfl (.inl rfl) (pe_ix (ixk_list (K := K) rfl) (pe_lst (pa_cons pe_int (pa_cons (pe_un un_neg pe_int) (pa_cons (pe_op op_pow pe_int pe_int) (pa_cons (pe_un un_neg (pe_op op_pow pe_int pe_int)) (pa_cons (pe_op op_sub pe_int (pe_op op_pow pe_int pe_int)) (pa_cons (pe_op op_pow pe_int pe_int) pa_nil))))))) (pe_k (c_draw T) hr (by decide) (by rfl) (pa_cons (pv 0) (pa_cons pe_int pa_nil))) (fun _ _ => rfl)))) pss_nil)
    (pss_one (ps_expr (pe_bm PySem.F.plainAttrs_list PySem.F.slot_list_append PySem.F.type_list_append mt_append (pv 4) (pa_cons (pe_tup (pa_cons (pe_ix (ixk_tup (K := K) rfl) (pe_ix (ixk_tup (K := K) rfl) (pv 1) pe_int (fun _ _ => rfl)) (pe_k (c_draw T) hr (by decide) (by rfl) (pa_cons (pv 0) (pa_cons (pe_lenS (by rfl) T.b_len (pe_ix (ixk_tup (K := K) rfl) (pv 1) pe_int (fun _ _ => rfl))) pa_nil))) (fun _ _ => rfl)) (pa_cons (pv 6) pa_nil))) pa_nil)))))))
    (pss_one (ps_ret (pe_tupleOf (by rfl) T.b_tuple (pv 4)))))), ?_⟩
    have C30 : CPow 10 30 := ⟨by decide, by decide, by decide⟩
    have C29 : CPow 10 29 := ⟨by decide, by decide, by decide⟩
    refine ⟨Nat.zero_le _, fun D hD => upd_gen hD fun H1 s1 e1 => ?_⟩
    have nD := R.nm hD
    have R1 := R.same s1
    refine ⟨_, rfl, _, rfl, _, _, rfl, rfl, m, c, g, s, most + 1, rfl, R1, by omega, by omega, by omega, fun cnt H5 c0 c1 R5 k5 => ?_⟩
    obtain ⟨nc, hnc⟩ : ∃ n : Nat, cnt = (n : Int) := ⟨cnt.toNat, by omega⟩
    subst hnc
    have t5 := (Tk.of s1).trans (R1.tk k5)
    have eD5 := k5 _ _ nD.1 nD.2.2 e1
    have k5 : Kp m g H H5 := (Kp.of s1).trans k5
    obtain ⟨_, n', p', ps, e, hA, hN, hP, hDp⟩ := (Dp.tk t5 _ (flat_field F) hF).field
    cases e
    have hlN : (F.names.map V.str).length = F.names.length := List.length_map ..
    have f0 := ok.n0
    have f6 := ok.n6
    refine ⟨_, rfl, by omega, by omega, ?_⟩
    refine for_range (lo := 0) (n := nc) (fun i σ H2 => StepsInv K F H m c g f D most gb s i σ H2 ∧ Tk H5 H2)
      ⟨⟨none, none, s + 1, [], rfl, k5, R5, by omega, ⟨[], eD5, .nil⟩, (fun _ h => nomatch h), rfl⟩, Tk.refl⟩ (fun i σ H6 hi ⟨⟨y5, y6, s2, l, eσ, k6, R6, hs6, ⟨ys, eD6, hY⟩, hg, hlen⟩, t6⟩ => ?_) (fun σ H6 ⟨⟨y5, y6, s2, l, eσ, k6, R6, hs6, ⟨ys, eD6, hY⟩, hg, hlen⟩, t6⟩ => ?_)
    · subst eσ
      have hly := hY.len
      rw [List.length_map] at hly
      refine ⟨_, rfl, _, rfl, _, rfl, _, rfl, (show 8 ≤ sizeLine by decide), fun S hS => upd_gen hS fun H7 s7 e7 => ?_⟩
      have e7 : H7 S = some (.lst (TL.map V.int)) := e7
      have nS := R6.nm hS
      refine ⟨_, rfl, m, c, g, s2, 8, rfl, R6.same s7, by omega, by omega, by omega, fun r H8 r0 r1 R8 k8 => ?_⟩
      obtain ⟨a, rfl⟩ : ∃ i : Nat, r = (i : Int) := ⟨r.toNat, by omega⟩
      have ha : a < TL.length := by show a < 8; omega
      have hz : TL[a]? = some TL[a] := List.getElem?_eq_getElem ha
      have gz := tl_good _ (List.getElem_mem ha)
      generalize TL[a] = z at hz gz
      refine ⟨S, _, a, .int z, rfl, rfl, SqL.of (k8 _ _ nS.1 nS.2.2 e7), at_of (j := a) rfl (by rw [List.getElem?_map, hz]; rfl), ?_⟩
      have k68 : Kp m g H6 H8 := (Kp.of s7).trans k8
      refine ⟨fun σ H' => ∃ (z : Int) (s3 : Int), σ = [some (.ref m), some (.ref f), some (.int most), some (.bl gb), some (.ref D), some (.int (0 + (i : Int))), some (.int z)] ∧ GoodTimes z ∧ Kp m g H6 H' ∧ Dr H' m c g s3 ∧ s3 ≤ s2 + 3, ?_, ?_⟩
      · refine ⟨_, rfl, gb, rfl, ?_⟩
        cases gb
        · exact iteF (iteF ⟨z, s2 + 1, rfl, gz, k68, R8, by omega⟩)
        · refine iteT ⟨_, rfl, m, c, g, s2 + 1, 4, rfl, R8, by omega, by omega, by omega, fun r H9 r0 r1 R9 k9 => ⟨rfl, _, rfl, ?_⟩⟩
          have k69 := k68.trans k9
          refine ite2 (fun _ => ?_) (fun _ => ⟨z, s2 + 1 + 1, rfl, gz, k69, R9, by omega⟩)
          refine ⟨_, rfl, _, _, rfl, rfl, C29, _, _, rfl, rfl, C29, _, rfl, _, _, rfl, rfl, C30, _, _, rfl, rfl, _, _, rfl, rfl, C30, (show 6 ≤ sizeLine by decide), fun S2 hS2 => upd_gen hS2 fun H10 s10 e10 => ?_⟩
          have e10 : H10 S2 = some (.lst (GL.map V.int)) := e10
          have nS2 := R9.nm hS2
          refine ⟨_, rfl, m, c, g, s2 + 1 + 1, 6, rfl, R9.same s10, by omega, by omega, by omega, fun r H11 r0 r1 R11 k11 => ?_⟩
          obtain ⟨b, rfl⟩ : ∃ i : Nat, r = (i : Int) := ⟨r.toNat, by omega⟩
          have hb : b < GL.length := by show b < 6; omega
          have hz : GL[b]? = some GL[b] := List.getElem?_eq_getElem hb
          have gz := gl_good _ (List.getElem_mem hb)
          exact ⟨S2, _, b, .int GL[b], rfl, rfl, SqL.of (k11 _ _ nS2.1 nS2.2.2 e10), at_of (j := b) rfl (by rw [List.getElem?_map, hz]; rfl), ⟨GL[b], s2 + 1 + 1 + 1, rfl, gz, (k69.trans (Kp.of s10)).trans k11, R11, by omega⟩⟩
      · rintro σ' H12 ⟨z, s3, rfl, gz, k12, R12, hs3⟩
        have t12 := R6.tk k12
        have t512 := t6.trans t12
        have eD12 := k12 _ _ nD.1 nD.2.2 eD6
        refine ⟨_, rfl, Or.inl ⟨rfl, _, SqL.of eD12⟩, ?_⟩
        refine ⟨_, rfl, ix0 (t512.sqT hA) ⟨_, rfl, _, rfl, ix0 (t512.sqT hA) ⟨n', _, rfl, .inr (t512.sqT hN), m, c, g, s3, _, rfl, R12, by rw [hlN]; omega, by rw [hlN]; omega, by omega, fun r13 H13 r0 r1 R13 k13 => ?_⟩⟩⟩
        rw [hlN] at r1
        obtain ⟨ja, hja⟩ : ∃ a : Nat, r13 = (a : Int) := ⟨r13.toNat, by omega⟩
        have hx : F.names[ja]? = some F.names[ja] := List.getElem?_eq_getElem (by omega)
        have hxm := List.mem_of_getElem? hx
        generalize F.names[ja] = x at hx hxm
        have t13 := t12.trans (R12.tk k13)
        have eD13 := k13 _ _ nD.1 nD.2.2 eD12
        refine ⟨_, _, _, .str x, rfl, rfl, (t6.trans t13).sqT hN, at_of hja (by rw [List.getElem?_map, hx]; rfl), _, rfl, ⟨two_sz, fun p nb => upd_gen nb fun H14 s14 e14 => ?_⟩⟩
        have eD14 := s14 _ _ eD13
        have tT : Tk H13 (upd H14 D (.lst (ys ++ [.ref p]))) := (Tk.of s14).lst eD14
        refine ⟨D, ys, .ref p, rfl, rfl, eD14, small1000 (by omega), ?_⟩
        refine ⟨⟨_, _, s3 + 1, l ++ [(x, z)], rfl, (((k6.trans k12).trans k13).trans (Kp.of s14)).put hD, (R13.same s14).put nD, by omega, ⟨ys ++ [.ref p], upd_same, ?_⟩, fun y hy => ?_, by rw [List.length_append, hlen]; rfl⟩, (t6.trans t13).trans tT⟩
        · rw [List.map_append]
          exact (DpAll.tk (t13.trans tT) _ (flat_all_steps l) hY).app (.cons (Dp.of_step (s := (x, z)) ((Tk.refl.lst eD14).sqT (SqT.of e14))) .nil)
        · rcases List.mem_append.mp hy with h | h
          · exact hg y h
          · rw [List.mem_singleton.mp h]
            exact ⟨hxm, gz⟩
    · subst eσ
      have hly := hY.len
      rw [List.length_map] at hly
      refine ⟨_, rfl, .inl ⟨D, ys, rfl, SqL.of eD6, fun r hr' => upd_gen hr' fun H7 s7 e7 => ?_⟩⟩
      exact q _ r l s2 (R6.same s7) (by omega) (k6.trans (Kp.of s7)) (.tup (SqT.of e7) (DpAll.tk (Tk.of s7) _ (flat_all_steps l) hY)) hg (by omega)
end
end XB
set_option Elab.async false
set_option linter.all false
set_option maxRecDepth 100000
set_option maxHeartbeats 4000000
namespace XB
open PySem PySem.Spec PyProof.Rows L2
section
variable {P : Program} {w : World} {K : PySem.W.Frag} {mg : Str → Option Value} {base : Heap}
def spApart2 (K : PySem.W.Frag) (F : Fld) : Sp := fun vs H Q _ => ∃ (a : Addr) (x y : Str), vs = [.ref a, .str x, .str y] ∧ Dp K H (.ref a) (dField F) ∧ F.Ok ∧ x ∈ F.names ∧ y ∈ F.names ∧ ∀ H', Same H H' → Q (.bl (apart F x y)) H'
theorem c__law_apart2 (T : Tx K mg) (F : Fld) : Cl P w K mg base CX0 1 "_law_apart" (spApart2 K F) := by
  refine cl0 T.d__law_apart (ps := ["field", "one", "other"]) (fun _ _ _ _ _ _ us hl => match us, hl with | [_, _, _], _ => rfl) sc__law_apart (fun vs H Q E h => ?_) (fun f cdv A outer st H vs Q E hr h => ?_)
  · obtain ⟨a, x, y, rfl, _⟩ := h
    rfl
  · obtain ⟨a, x, y, rfl, hF, ok, ma, mb, q⟩ := h
    have nd := sc__law_apart.nd
    have hu := u65 hr
    obtain ⟨_, n, p, ps, e, hA, hN, hP, hD⟩ := hF.field
    cases e
    refine ⟨_, (pss_one (ps_ret (pe_cmpR (op_inDTk (K := K) rfl hu) (pe_tup (pa_cons (pe_callB (call_min2S rfl) (by rfl) T.b_min (by decide +kernel) (pa_cons (pv 1) (pa_cons (pv 2) pa_nil))) (pa_cons (pe_callB (call_max2S rfl) (by rfl) T.b_max (by decide +kernel) (pa_cons (pv 1) (pa_cons (pv 2) pa_nil))) pa_nil))) (pe_ix (ixk_tup (K := K) rfl) (pv 0) pe_int (fun _ _ => rfl)) (by rfl)))), ?_⟩
    refine ⟨_, rfl, _, rfl, _, _, rfl, _, rfl, _, rfl, _, _, rfl, (show 2 ≤ sizeLine by decide), fun t ht => ?_⟩
    have s1 := same_upd (o := .tup [.str (if sLt y x then y else x), .str (if sLt x y then y else x)]) ht
    refine ⟨_, rfl, _, _, _, _, rfl, rfl, (Tk.of s1).sqT hA, rfl, ?_⟩
    refine ⟨dPair ((if sLt y x then y else x), (if sLt x y then y else x)), F.pairs.map dPair, .tup (SqT.of upd_same) (.cons (.str _) (.cons (.str _) .nil)), .tup ((Tk.of s1).sqT hP) (DpAll.tk (Tk.of s1) _ (flat_pairs _) hD), sh_pair ?_ ?_, sh_pairs ok.good, ?_⟩
    · show GoodName (if sLt y x then y else x)
      split <;> first | exact ok.sgn _ ma | exact ok.sgn _ mb
    · show GoodName (if sLt x y then y else x)
      split <;> first | exact ok.sgn _ ma | exact ok.sgn _ mb
    · rw [any_pairs, apart_min ok]
      exact q _ s1
def spMeet (K : PySem.W.Frag) (F : Fld) : Sp := fun vs H Q _ => ∃ (a p : Addr) (xs : List V) (l : List (Str × Int)), vs = [.ref a, .ref p] ∧ Dp K H (.ref a) (dField F) ∧ F.Ok ∧ SqX K H p xs ∧ DpAll K H xs (l.map dStep) ∧ Names F l ∧ l.length ≤ 200 ∧
  metV K H Q (XM.met (OF F) l)
theorem c__law_meet (T : Tx K mg) (F : Fld) : Cl P w K mg base CX0 2 "_law_meet" (spMeet K F) := by
  refine cl0 T.d__law_meet (ps := ["field", "steps"]) (fun _ _ _ _ _ _ us hl => match us, hl with | [_, _], _ => rfl) sc__law_meet (fun vs H Q E h => ?_) (fun f cdv A outer st H vs Q E hr h => ?_)
  · obtain ⟨a, p, xs, l, rfl, _⟩ := h
    rfl
  · obtain ⟨a, p, xs, l, rfl, hF, ok, hS, hD, hN, hl60, q⟩ := h
    have nd := sc__law_meet.nd
    have hlx := hD.len
    rw [List.length_map] at hlx
    refine ⟨_, (pss_cons (ps_for PassesOwn.never rfl (pi_range1 (by rfl) T.b_range (pa_cons (pe_lenS (by rfl) T.b_len (pv 1)) pa_nil)) (pg_name (i := 2) nd rfl (.inl rfl))
    (pss_one (ps_for PassesOwn.never rfl (pi_range2 (by rfl) T.b_range (pa_cons (pe_op op_add (pv 2) pe_int) (pa_cons (pe_lenS (by rfl) T.b_len (pv 1)) pa_nil))) (pg_name (i := 3) nd rfl (.inl rfl))
    (pss_cons (ps_if (pt_cmpR op_eq (pe_ix (ixk_tup (K := K) rfl) (pe_ix (ixk_row (K := K) rfl) (pv 1) (pv 3) (fun _ _ => rfl)) pe_int (fun _ _ => rfl)) (pe_ix (ixk_tup (K := K) rfl) (pe_ix (ixk_row (K := K) rfl) (pv 1) (pv 2) (fun _ _ => rfl)) pe_int (fun _ _ => rfl)) (nomark _)) (pss_one (ps_ret (pe_tup (pa_cons (pv 2) (pa_cons (pv 3) pa_nil))))) pss_nil)
    (pss_one (ps_if (pt_not (pt_val (pe_k (c__law_apart2 T F) hr (by decide) (by rfl) (pa_cons (pv 0) (pa_cons (pe_ix (ixk_tup (K := K) rfl) (pe_ix (ixk_row (K := K) rfl) (pv 1) (pv 2) (fun _ _ => rfl)) pe_int (fun _ _ => rfl)) (pa_cons (pe_ix (ixk_tup (K := K) rfl) (pe_ix (ixk_row (K := K) rfl) (pv 1) (pv 3) (fun _ _ => rfl)) pe_int (fun _ _ => rfl)) pa_nil)))))) (pss_one ps_break) pss_nil))))))
    (pss_one (ps_ret pe_non))), ?_⟩
    refine ⟨_, rfl, p, xs, rfl, hS, xs.length, rfl, by omega, by omega, ?_⟩
    refine for_range (lo := 0) (n := xs.length) (fun k σ H2 => ∃ (y2 y3 : Option V), σ = [some (.ref a), some (.ref p), y2, y3] ∧ Same H H2 ∧ XM.met (OF F) l = up k (XM.met (OF F) (l.drop k)))
      ⟨none, none, rfl, Same.refl _, by rw [List.drop_zero]; unfold up; simp⟩ (fun k σ H2 hk ⟨y2, y3, eσ, s2, em⟩ => ?_) (fun σ H2 ⟨y2, y3, eσ, s2, em⟩ => ?_)
    · subst eσ
      have hs : l[k]? = some l[k] := List.getElem?_eq_getElem (by omega)
      have ms := hN _ (List.mem_of_getElem? hs)
      generalize l[k] = s at hs ms
      rw [Int.zero_add]
      refine ⟨_, rfl, (k : Int), 1, rfl, rfl, _, rfl, p, xs, rfl, hS.same s2, _, _, rfl, by omega, ?_⟩
      have hn : ((xs.length : Int) - ((k : Int) + 1)).toNat = l.length - (k + 1) := by omega
      refine for_range (lo := (k : Int) + 1) (n := ((xs.length : Int) - ((k : Int) + 1)).toNat) (fun j σ H3 => ∃ (y3 : Option V), σ = [some (.ref a), some (.ref p), some (.int (k : Int)), y3] ∧ Same H H3 ∧ XM.near (OF F) s.1 (l.drop (k + 1)) = (XM.near (OF F) s.1 (l.drop (k + 1 + j))).map (· + j))
        ⟨y3, rfl, s2, by simp⟩ (fun j σ H3 hj ⟨y3, eσ, s3, en⟩ => ?_) (fun σ H3 ⟨y3, eσ, s3, en⟩ => ?_)
      · subst eσ
        have hy : l[k + 1 + j]? = some l[k + 1 + j] := List.getElem?_eq_getElem (by omega)
        have my := hN _ (List.mem_of_getElem? hy)
        generalize l[k + 1 + j] = y at hy my
        obtain ⟨c, hc, cc⟩ := (DpAll.tk (Tk.of s3) _ (flat_all_steps l) hD).step hy
        obtain ⟨b, hb, cb⟩ := (DpAll.tk (Tk.of s3) _ (flat_all_steps l) hD).step hs
        have ej : (k : Int) + 1 + (j : Int) = ((k + 1 + j : Nat) : Int) := by omega
        rw [ej]
        refine ⟨_, rfl, _, rfl, _, _, _, _, rfl, rfl, hS.same s3, at_of (j := k + 1 + j) rfl hc, _, _, _, _, rfl, rfl, cc, rfl, _, rfl, _, rfl, _, _, _, _, rfl, rfl, hS.same s3, at_of (j := k) rfl hb, _, _, _, _, rfl, rfl, cb, rfl, rfl, _, rfl, ?_⟩
        rw [drop_at hy] at en
        have en : _ = ((if y.1 = s.1 then some 0 else if (OF F).tc y.1 s.1 then none else (XM.near (OF F) s.1 (l.drop (k + 1 + j + 1))).map (· + 1)) : Option Nat).map (· + j) := en
        rw [show decide (V.str y.1 = V.str s.1) = decide (y.1 = s.1) from decide_eq_decide.mpr ⟨fun h => V.str.inj h, fun h => congrArg _ h⟩]
        by_cases e : y.1 = s.1
        · rw [decide_eq_true e]
          rw [if_pos e] at en
          have en : XM.near (OF F) s.1 (l.drop (k + 1)) = some (0 + j) := en
          rw [Nat.zero_add] at en
          rw [met_here hs en] at em
          rw [em] at q
          refine iteT ⟨_, rfl, _, rfl, (show 2 ≤ sizeLine by decide), fun T hT => q _ T (same_new s3 hT) (SqT.of upd_same)⟩
        · rw [decide_eq_false e]
          rw [if_neg e] at en
          refine iteF ?_
          refine ⟨_, rfl, _, rfl, _, rfl, _, _, _, _, rfl, rfl, hS.same s3, at_of (j := k) rfl hb, _, _, _, _, rfl, rfl, cb, rfl, _, rfl, _, rfl, _, _, _, _, rfl, rfl, hS.same s3, at_of (j := k + 1 + j) rfl hc, _, _, _, _, rfl, rfl, cc, rfl, ?_⟩
          refine ⟨a, s.1, y.1, rfl, Dp.tk (Tk.of s3) _ (flat_field F) hF, ok, ms, my, fun H4 s4 => ⟨_, rfl, ?_⟩⟩
          rw [(OF F).symm, tc_eq ok] at en
          cases ha : apart F s.1 y.1
          · rw [ha] at en
            have en : XM.near (OF F) s.1 (l.drop (k + 1)) = none := en
            rw [met_none hs en] at em
            exact iteT ⟨_, _, rfl, s3.trans s4, em⟩
          · rw [ha] at en
            refine iteF ⟨_, rfl, s3.trans s4, ?_⟩
            rw [en]
            show ((XM.near (OF F) s.1 (l.drop (k + 1 + j + 1))).map (· + 1)).map (· + j) = _
            rw [Option.map_map, ← Nat.add_assoc]
            congr 1
            funext n
            show n + 1 + j = n + (j + 1)
            omega
      · subst eσ
        rw [hn, show l.drop (k + 1 + (l.length - (k + 1))) = [] from List.drop_eq_nil_iff.mpr (by omega)] at en
        rw [met_none hs en] at em
        exact ⟨_, _, rfl, s3, em⟩
    · subst eσ
      rw [hlx, List.drop_length] at em
      rw [em] at q
      exact q _ s2
theorem c__law_back3 (T : Tx K mg) : Cl P w K mg base CX0 1 "_law_back" (spBack K) := by
  refine cl0 T.d__law_back (ps := ["steps"]) (fun _ _ _ _ _ _ us hl => match us, hl with | [_], _ => rfl) sc__law_back (fun vs H Q E h => ?_) (fun f cdv A outer st H vs Q E hr h => ?_)
  · obtain ⟨a, l, rfl, _⟩ := h
    rfl
  · obtain ⟨a, l, rfl, hL, hl, q⟩ := h
    have nd := sc__law_back.nd
    obtain ⟨_, xs, e, hS, hD⟩ := hL.steps
    cases e
    have hlx := hD.len
    rw [List.length_map] at hlx
    refine ⟨_, pss_one (ps_ret (pe_tupleOf (by rfl) T.b_tuple (pe_lc (own := [("name", 1), ("times", 2)]) (g := gTup K 2 (gCons (gName 1) (gCons (gName 2) gNil))) (tt := tYes) (by rfl) nd (pi_tup (pe_revT (pv 0)))
      (blkOk_by (own := [("name", 1), ("times", 2)]) (N := ["steps", "name", "times"]) (sc := defScope s__law_back) (by decide +kernel))
      (fun _ _ _ _ _ => pg_tup rfl (pgs_cons (pg_name (i := 1) nd rfl (Or.inl rfl)) (pgs_cons (pg_name (i := 2) nd rfl (Or.inl rfl)) pgs_nil))) (fun _ _ _ _ _ => pts_nil)
      (fun _ _ _ _ _ => pe_tup (pa_cons (pv 1) (pa_cons (pe_un un_neg (pv 2)) pa_nil)))))), ?_⟩
    refine ⟨_, rfl, a, xs, rfl, hS, fun p hp => ⟨p, rfl, ⟨_, SqT.of upd_same⟩, fun D hD' => ?_⟩⟩
    have s0 : Same H (upd H p (.tup xs.reverse)) := same_upd hp
    have hB : SqT K (upd H p (.tup xs.reverse)) p xs.reverse := SqT.of upd_same
    have hR : DpAll K (upd H p (.tup xs.reverse)) xs.reverse (l.reverse.map dStep) := by
      rw [List.map_reverse]
      exact (DpAll.tk (Tk.of s0) _ (flat_all_steps l) hD).rev
    generalize upd H p (.tup xs.reverse) = H1 at s0 hB hR hD' ⊢
    refine lc_it (walk_tup (xs := xs.reverse)) (fun i H' => Row1 K H' D ((l.reverse.take i).map fun x => (x.1, -x.2)) ∧ Same H1 H') ⟨⟨[], upd_same, .nil⟩, same_upd hD'⟩ (fun _ _ _ ⟨_, s'⟩ => (Tk.of s').sqT hB) (fun i x H2 H3 hi ⟨⟨ys, eD, hY⟩, s'⟩ hy => ?_) (fun H2 ⟨⟨ys, eD, hY⟩, s'⟩ => ?_)
    · obtain ⟨rfl, hx⟩ := hy
      obtain ⟨dd, g1, p1⟩ := hR.get hx
      rw [List.getElem?_map] at g1
      obtain ⟨s, k1, rfl⟩ := Option.map_eq_some_iff.mp g1
      obtain ⟨b, rfl, cb⟩ := p1.step
      have hly := hY.len
      rw [List.length_map, List.length_map, List.length_take, List.length_reverse] at hly
      refine ⟨b, _, rfl, (Tk.of s').sqT cb, rfl, _, _, rfl, _, _, rfl, rfl, rfl, yes_ ?_⟩
      refine ⟨_, rfl, _, rfl, s.2, rfl, (show 2 ≤ sizeLine by decide), fun T hT => ⟨ys, ?_, small1000 (by omega), ?_, same_put (same_new s' hT) hD'⟩⟩
      · rw [upd_ne (ne_of_none eD hT)]
        exact eD
      · refine Row1.put (xs := ys) (by rw [upd_ne (ne_of_none eD hT)]; exact eD) ?_
        rw [take_snoc k1, List.map_append, List.map_append]
        exact (DpAll.tk (Tk.of (same_upd hT)) _ (flat_all_steps _) hY).app (.cons (Dp.of_step (s := (s.1, -s.2)) (SqT.of upd_same)) .nil)
    · rw [List.length_reverse, hlx, show l.length = l.reverse.length from (List.length_reverse).symm, List.take_length] at hY
      refine .inl ⟨D, ys, rfl, SqL.of eD, fun r hr' => q _ r (same_new (s0.trans s') hr') ?_⟩
      unfold XM.back
      rw [← List.map_reverse]
      exact .tup (SqT.of upd_same) (DpAll.tk (Tk.of (same_upd hr')) _ (flat_all_steps _) hY)
end
end XB
set_option Elab.async false
set_option linter.all false
set_option maxRecDepth 100000
set_option maxHeartbeats 4000000
namespace XB
open PySem PySem.Spec PyProof.Rows L2
theorem Row2.same {K : PySem.W.Frag} {H H' : Hp} {D : Addr} {l : List (Str × Int)} (h : Row2 K H D l) (s : Same H H') : Row2 K H' D l := by
  obtain ⟨xs, e, v⟩ := h
  exact ⟨xs, s _ _ e, DpAll.tk (Tk.of s) _ (flat_all_steps l) v⟩
theorem Row2.get {K : PySem.W.Frag} {H : Hp} {D : Addr} {l : List (Str × Int)} {k : Nat} {s : Str × Int} (h : Row2 K H D l) (e : l[k]? = some s) : ∃ xs b, SqL K H D xs ∧ atI xs (k : Int) = some (.ref b) ∧ SqT K H b [.str s.1, .int s.2] := by
  obtain ⟨xs, e1, v⟩ := h
  obtain ⟨b, hb, cb⟩ := v.step e
  exact ⟨xs, b, SqL.of e1, at_of (j := k) rfl hb, cb⟩
/-- two that come together, by two cuts -/
theorem melt_eq {α : Type} {l x : List α} {i j : Nat} (h1 : i < j) (h2 : j < l.length) : ((l.take j ++ l.drop (j + 1)).take i ++ x) ++ (l.take j ++ l.drop (j + 1)).drop (i + 1) = melt l x i j := by
  have l1 : (l.take j).length = j := by rw [List.length_take]; omega
  unfold melt
  rw [List.take_append_of_le_length (by omega), List.take_take, Nat.min_eq_left (by omega), List.drop_append_of_le_length (by omega), List.drop_take]
theorem dp_rep {K : PySem.W.Frag} {H : Hp} {xs : List V} {ds : List PyData} (h : DpAll K H xs ds) : ∀ n : Nat, DpAll K H (List.replicate n xs).flatten (List.replicate n ds).flatten
  | 0 => .nil
  | n + 1 => by
    rw [List.replicate_succ, List.replicate_succ, List.flatten_cons, List.flatten_cons]
    exact h.app (dp_rep h n)
def PileInv3 (K : PySem.W.Frag) (F : Fld) (H : Hp) (a p : Addr) (l : List (Str × Int)) : Nat → L2.St → Hp → Prop := fun m σ H2 => ∃ (D : Addr) (l' : List (Str × Int)) (z : V) (y4 y5 : Option V), m = l'.length ∧ σ = [some (.ref a), some (.ref p), some (.ref D), some z, y4, y5] ∧ Same H H2 ∧ Row2 K H2 D l' ∧ H D = none ∧
        Names F l' ∧ XM.NZ l' ∧ XM.act (OF F) l' [] = XM.act (OF F) l [] ∧ l'.length ≤ l.length ∧ SpotV K H2 z (XM.met (OF F) l')
section
variable {P : Program} {w : World} {K : PySem.W.Frag} {mg : Str → Option Value} {base : Heap}
theorem rowCat {H : Hp} {a b : Addr} {l m : List (Str × Int)} {Q : VK} (h1 : Row2 K H a l) (h2 : Row2 K H b m) (hl : l.length + m.length ≤ 900) (q : ∀ H' p, Same H H' → H p = none → Row2 K H' p (l ++ m) → Q (.ref p) H') : rCat (.ref a) (.ref b) H Q := by
  obtain ⟨xs, e1, v1⟩ := h1
  obtain ⟨ys, e2, v2⟩ := h2
  have l1 := v1.len
  have l2 := v2.len
  rw [List.length_map] at l1 l2
  refine catL e1 e2 (Nat.le_of_lt (small1000 (by omega))) fun H' p s hp e => q H' p s hp ⟨_, e, ?_⟩
  rw [List.map_append]
  exact (DpAll.tk (Tk.of s) _ (flat_all_steps l) v1).app (DpAll.tk (Tk.of s) _ (flat_all_steps m) v2)
theorem rowTake {H : Hp} {a : Addr} {l : List (Str × Int)} {k : Nat} {Q : VK} (h : Row2 K H a l) (q : ∀ H' p, Same H H' → H p = none → Row2 K H' p (l.take k) → Q (.ref p) H') : rSlL K (.ref a) none (some (k : Int)) H Q := by
  obtain ⟨xs, e, v⟩ := h
  refine slL e fun H' p s hp e' => q H' p s hp ⟨xs.take k, ?_, ?_⟩
  · rw [cut_init] at e'
    exact e'
  · rw [List.map_take]
    exact (DpAll.tk (Tk.of s) _ (flat_all_steps l) v).take k
theorem rowDrop {H : Hp} {a : Addr} {l : List (Str × Int)} {k : Nat} {Q : VK} (h : Row2 K H a l) (q : ∀ H' p, Same H H' → H p = none → Row2 K H' p (l.drop k) → Q (.ref p) H') : rSlL K (.ref a) (some (k : Int)) none H Q := by
  obtain ⟨xs, e, v⟩ := h
  refine slL e fun H' p s hp e' => q H' p s hp ⟨xs.drop k, ?_, ?_⟩
  · rw [cut_from] at e'
    exact e'
  · rw [List.map_drop]
    exact (DpAll.tk (Tk.of s) _ (flat_all_steps l) v).drop k
def spPile3 (K : PySem.W.Frag) (F : Fld) : Sp := fun vs H Q _ => ∃ (a p : Addr) (xs : List V) (l : List (Str × Int)), vs = [.ref a, .ref p] ∧ Dp K H (.ref a) (dField F) ∧ F.Ok ∧ SqX K H p xs ∧ DpAll K H xs (l.map dStep) ∧ Names F l ∧ XM.NZ l ∧ l.length ≤ 200 ∧
  ∀ H' r l', Same H H' → Row2 K H' r l' → H r = none → Names F l' → XM.NZ l' → XM.pl (OF F) l' = true → XM.act (OF F) l' [] = XM.act (OF F) l [] → l'.length ≤ l.length → Q (.ref r) H'
theorem c__law_pile3 (T : Tx K mg) (F : Fld) : Cl P w K mg base CX0 3 "_law_pile" (spPile3 K F) := by
  refine cl0 T.d__law_pile (ps := ["field", "steps"]) (fun _ _ _ _ _ _ us hl => match us, hl with | [_, _], _ => rfl) sc__law_pile (fun vs H Q E h => ?_) (fun f cdv A outer st H vs Q E hr h => ?_)
  · obtain ⟨a, p, xs, l, rfl, _⟩ := h
    rfl
  · obtain ⟨a, p, xs, l, rfl, hF, ok, hS, hV, hN, hZ, hl, q⟩ := h
    have nd := sc__law_pile.nd
    refine ⟨_, (pss_cons (ps_set (i := 2) nd rfl (.inl rfl) (pe_callTy call_list_of (by rfl) T.b_list (by decide +kernel) (pa_cons (pv 1) pa_nil)))
    (pss_cons (ps_set (i := 3) nd rfl (.inl rfl) (pe_k (c__law_meet T F) hr (by decide) (by rfl) (pa_cons (pv 0) (pa_cons (pv 2) pa_nil))))
    (pss_cons (ps_while PassesOwn.never (pt_cmpR op_notN (pv 3) pe_non (nomark _))
    (pss_cons (ps_par (i := 4) (j := 5) rfl nd rfl rfl (by decide) rfl rfl (pa_cons (pe_ix (ixk_tup (K := K) rfl) (pe_ix (ixk_list (K := K) rfl) (pv 2) (pe_ix (ixk_tup (K := K) rfl) (pv 3) pe_int (fun _ _ => rfl)) (fun _ _ => rfl)) pe_int (fun _ _ => rfl)) (pa_cons (pe_op op_add (pe_ix (ixk_tup (K := K) rfl) (pe_ix (ixk_list (K := K) rfl) (pv 2) (pe_ix (ixk_tup (K := K) rfl) (pv 3) pe_int (fun _ _ => rfl)) (fun _ _ => rfl)) pe_int (fun _ _ => rfl)) (pe_ix (ixk_tup (K := K) rfl) (pe_ix (ixk_list (K := K) rfl) (pv 2) (pe_ix (ixk_tup (K := K) rfl) (pv 3) pe_int (fun _ _ => rfl)) (fun _ _ => rfl)) pe_int (fun _ _ => rfl))) pa_nil)) rfl)
    (pss_cons (ps_set (i := 2) nd rfl (.inl rfl) (pe_op op_cat (pe_slice sl_list (pv 2) po_none (po_some (pe_ix (ixk_tup (K := K) rfl) (pv 3) pe_int (fun _ _ => rfl)))) (pe_slice sl_list (pv 2) (po_some (pe_op op_add (pe_ix (ixk_tup (K := K) rfl) (pv 3) pe_int (fun _ _ => rfl)) pe_int)) po_none)))
    (pss_cons (ps_set (i := 2) nd rfl (.inl rfl) (pe_op op_cat (pe_op op_cat (pe_slice sl_list (pv 2) po_none (po_some (pe_ix (ixk_tup (K := K) rfl) (pv 3) pe_int (fun _ _ => rfl)))) (pe_op op_rep (pe_lst (pa_cons (pe_tup (pa_cons (pv 4) (pa_cons (pv 5) pa_nil))) pa_nil)) (pe_callTy call_int1 (by rfl) T.b_int (by decide +kernel) (pa_cons (pe_cmpR op_ne (pv 5) pe_int (nomark _)) pa_nil)))) (pe_slice sl_list (pv 2) (po_some (pe_op op_add (pe_ix (ixk_tup (K := K) rfl) (pv 3) pe_int (fun _ _ => rfl)) pe_int)) po_none)))
    (pss_one (ps_set (i := 3) nd rfl (.inl rfl) (pe_k (c__law_meet T F) hr (by decide) (by rfl) (pa_cons (pv 0) (pa_cons (pv 2) pa_nil)))))))))
    (pss_one (ps_ret (pv 2)))))), ?_⟩
    have K1 : ∀ {H2 : Hp}, Same H H2 → Dp K H2 (.ref a) (dField F) := fun s => Dp.tk (Tk.of s) _ (flat_field F) hF
    refine ⟨_, rfl, p, xs, rfl, hS, fun D hD0 => upd_gen hD0 fun H1 s1 e1 => ?_⟩
    have hD1 : Row2 K H1 D l := ⟨xs, e1, DpAll.tk (Tk.of s1) _ (flat_all_steps l) hV⟩
    obtain ⟨xs1, eD1, hV1⟩ := id hD1
    refine ⟨_, rfl, _, rfl, a, D, xs1, l, rfl, K1 s1, ok, .inl (SqL.of eD1), hV1, hN, hl, metV_of fun H2 z s2 hz => ?_⟩
    refine ⟨PileInv3 K F H a p l, ⟨_, D, l, z, none, none, rfl, rfl, s1.trans s2, hD1.same s2, hD0, hN, hZ, rfl, Nat.le_refl _, hz⟩, ?_⟩
    rintro m σ H3 ⟨D, l', z, y4, y5, rfl, rfl, s3, hD, hD0, hN', hZ', ea, hle, hz⟩
    refine ⟨_, rfl, rfl, _, rfl, ?_⟩
    cases hm : XM.met (OF F) l' with
    | none =>
      rw [hm] at hz
      have hz : z = .non := hz
      subst hz
      refine iteF ⟨_, rfl, q _ D l' s3 hD hD0 hN' hZ' (XM.met_pl.mp hm) ea hle⟩
    | some ij =>
      obtain ⟨i, j⟩ := ij
      rw [hm] at hz
      obtain ⟨t, rfl, ht⟩ := hz
      obtain ⟨nm, s, u, hi, hj, hij, hjl, hx⟩ := melt_step hm hZ' hN'
      obtain ⟨xs3, b1, q1, q2, q3⟩ := hD.get hi
      obtain ⟨xs4, b2, q4, q5, q6⟩ := hD.get hj
      refine iteT ⟨fun σ' H' => ∃ m', m' < l'.length ∧ PileInv3 K F H a p l m' σ' H', fun _ _ h => h, ?_⟩
      refine ⟨_, rfl, _, rfl, _, _, _, _, rfl, rfl, ht, rfl, _, _, _, _, rfl, rfl, q1, q2, _, _, _, _, rfl, rfl, q3, rfl, ?_⟩
      refine ⟨_, rfl, _, rfl, _, _, _, _, rfl, rfl, ht, rfl, _, _, _, _, rfl, rfl, q1, q2, _, _, _, _, rfl, rfl, q3, rfl, ?_⟩
      refine ⟨_, rfl, _, rfl, _, _, _, _, rfl, rfl, ht, rfl, _, _, _, _, rfl, rfl, q4, q5, _, _, _, _, rfl, rfl, q6, rfl, s, u, rfl, rfl, _, _, rfl, ?_⟩
      refine ⟨_, rfl, ?_⟩
      refine noPart ⟨_, rfl, _, _, _, _, rfl, rfl, ht, rfl, (j : Int), rfl, rowTake hD fun H4 p4 s4 n4 r4 => ?_⟩
      refine ⟨_, rfl, _, rfl, _, _, _, _, rfl, rfl, (Tk.of s4).sqT ht, rfl, _, _, rfl, rfl, ((j + 1 : Nat) : Int), rfl, ?_⟩
      refine noPart (rowDrop (hD.same s4) fun H5 p5 s5 n5 r5 => ?_)
      refine rowCat (r4.same s5) r5 (by rw [List.length_take, List.length_drop]; omega) fun H6 p6 s6 n6 r6 => ?_
      have s36 := (s4.trans s5).trans s6
      refine ⟨_, rfl, ?_⟩
      refine noPart ⟨_, rfl, _, _, _, _, rfl, rfl, (Tk.of s36).sqT ht, rfl, (i : Int), rfl, rowTake r6 fun H7 p7 s7 n7 r7 => ?_⟩
      refine ⟨_, rfl, _, rfl, two_sz, fun T hT => upd_gen hT fun H8 s8 e8 => ⟨one_sz, fun L hL => upd_gen hL fun H9 s9 e9 => ?_⟩⟩
      have rL : Row2 K H9 L [(nm, s + u)] := ⟨_, e9, .cons (Dp.of_step (s := (nm, s + u)) ((Tk.of s9).sqT (SqT.of e8))) .nil⟩
      have s79 := s8.trans s9
      refine ⟨_, rfl, rfl, .inr ⟨_, rfl, ?_⟩⟩
      obtain ⟨xsL, eL, vL⟩ := id rL
      obtain ⟨k, hk, k1, hkX⟩ : ∃ k : Nat, (if (!decide (V.int (s + u) = V.int 0)) = true then (1 : Int) else 0) = (k : Int) ∧ k ≤ 1 ∧ (if s + u = 0 then [] else [(nm, s + u)]) = (List.replicate k [(nm, s + u)]).flatten := by
        rw [dec_int]
        by_cases h0 : s + u = 0
        · exact ⟨0, by simp [h0], by omega, by rw [if_pos h0]; rfl⟩
        · exact ⟨1, by simp [h0], by omega, by rw [if_neg h0]; rfl⟩
      have lL := vL.len
      rw [List.length_map, List.length_singleton] at lL
      have lX : (if s + u = 0 then [] else [(nm, s + u)]).length ≤ 1 := by split <;> simp
      obtain ⟨f1, f2, f3, f4⟩ := hx _ rfl
      generalize (if s + u = 0 then [] else [(nm, s + u)]) = X at hkX lX f1 f2 f3 f4
      refine ⟨L, (k : Int), xsL, rfl, congrArg V.int hk, eL, by omega, by omega, Nat.le_trans (show xsL.length * (k : Int).toNat ≤ 1 * 1 from Nat.mul_le_mul (by omega) (by omega)) (by decide), fun p10 n10 => upd_gen n10 fun H10 s10 e10 => ?_⟩
      have rX : Row2 K H10 p10 X := ⟨_, e10, by
        rw [hkX, List.map_flatten, List.map_replicate]
        exact dp_rep (DpAll.tk (Tk.of s10) _ (flat_all_steps _) vL) _⟩
      have s710 := s79.trans s10
      refine rowCat (r7.same s710) rX (by rw [List.length_take, List.length_append, List.length_take, List.length_drop]; omega) fun H11 p11 s11 n11 r11 => ?_
      have s711 := s710.trans s11
      have s611 := s7.trans s711
      have s311 := s36.trans s611
      refine ⟨_, rfl, _, rfl, _, _, _, _, rfl, rfl, (Tk.of s311).sqT ht, rfl, _, _, rfl, rfl, ((i + 1 : Nat) : Int), rfl, ?_⟩
      refine noPart (rowDrop (r6.same s611) fun H12 p12 s12 n12 r12 => ?_)
      have s312 := s311.trans s12
      refine rowCat (r11.same s12) r12 (by simp only [List.length_take, List.length_append, List.length_drop]; omega) fun H13 p13 s13 n13 r13 => ?_
      have s313 := s312.trans s13
      rw [melt_eq hij hjl] at r13
      obtain ⟨xs13, e13, v13⟩ := id r13
      have n13 : H p13 = none := by
        cases e : H p13 with
        | none => rfl
        | some o =>
          rw [s312 _ _ (s3 _ _ e)] at n13
          cases n13
      refine ⟨_, rfl, _, rfl, a, p13, xs13, _, rfl, K1 (s3.trans s313), ok, .inl (SqL.of e13), v13, f2, by omega, metV_of fun H14 z s14 hz => ?_⟩
      exact ⟨_, f4, p13, _, z, _, _, rfl, rfl, (s3.trans s313).trans s14, r13.same s14, n13, f2, f1, f3.trans ea, by omega, hz⟩
end
end XB
set_option Elab.async false
set_option linter.all false
set_option maxRecDepth 100000
set_option maxHeartbeats 4000000
namespace XB
open PySem PySem.Spec PyProof.Rows L2
section
variable {P : Program} {w : World} {K : PySem.W.Frag} {mg : Str → Option Value} {base : Heap}
def spFirsts3 (K : PySem.W.Frag) (F : Fld) : Sp := fun vs H Q _ => ∃ (a p : Addr) (xs : List V) (l : List (Str × Int)), vs = [.ref a, .ref p] ∧ Dp K H (.ref a) (dField F) ∧ F.Ok ∧ SqX K H p xs ∧ DpAll K H xs (l.map dStep) ∧ Names F l ∧ l.length ≤ 200 ∧
  ∀ H' r, Same H H' → H' r = some (.lst ((firstsL F l l.length).map fun k => V.int (k : Nat))) → H r = none → Q (.ref r) H'
theorem c__law_firsts3 (T : Tx K mg) (F : Fld) : Cl P w K mg base CX0 2 "_law_firsts" (spFirsts3 K F) := by
  refine cl0 T.d__law_firsts (ps := ["field", "steps"]) (fun _ _ _ _ _ _ us hl => match us, hl with | [_, _], _ => rfl) sc__law_firsts (fun vs H Q E h => ?_) (fun f cdv A outer st H vs Q E hr h => ?_)
  · obtain ⟨a, p, xs, l, rfl, _⟩ := h
    rfl
  · obtain ⟨a, p, xs, l, rfl, hF, ok, hS, hD, hN, hl60, q⟩ := h
    have nd := sc__law_firsts.nd
    have hlx := hD.len
    rw [List.length_map] at hlx
    refine ⟨_, (pss_cons (ps_set (i := 2) nd rfl (.inl rfl) (pe_lst pa_nil))
    (pss_cons (ps_for PassesOwn.never rfl (pi_range1 (by rfl) T.b_range (pa_cons (pe_lenS (by rfl) T.b_len (pv 1)) pa_nil)) (pg_name (i := 3) nd rfl (.inr rfl))
    (pss_one (ps_if (pt_cmpR (op_eqD hr.units) (pe_lc (own := [("step", 4)]) (g := (gName 4)) (tt := _) (by rfl) nd (pi_row (pe_slice (slk_row (K := K) rfl) (pv 1) po_none (po_some (pv 3)))) (blkOk_by (own := [("step", 4)]) (N := ["field", "steps", "found", "k", "step"]) (sc := defScope s__law_firsts) (by decide +kernel)) (fun _ _ _ _ _ => (pg_name (i := 4) nd rfl (by first | exact Or.inl rfl | exact Or.inr rfl))) (fun _ _ _ _ _ => pts_one (pt_not (pt_val (pe_k (c__law_apart2 T F) hr (by decide) (by rfl) (pa_cons (pv 0) (pa_cons (pe_ix (ixk_tup (K := K) rfl) (pv 4) pe_int (fun _ _ => rfl)) (pa_cons (pe_ix (ixk_tup (K := K) rfl) (pe_ix (ixk_row (K := K) rfl) (pv 1) (pv 3) (fun _ _ => rfl)) pe_int (fun _ _ => rfl)) pa_nil))))))) (fun _ _ _ _ _ => (pv 4))) (pe_lst pa_nil) (nomark _)) (pss_one (ps_expr (pe_bm PySem.F.plainAttrs_list PySem.F.slot_list_append PySem.F.type_list_append mt_append (pv 2) (pa_cons (pv 3) pa_nil)))) pss_nil)))
    (pss_one (ps_ret (pv 2))))), ?_⟩
    refine ⟨by decide, fun D hD0 => upd_gen hD0 fun H1 s1 e1 => ?_⟩
    refine ⟨_, rfl, p, xs, rfl, hS.same s1, xs.length, rfl, by omega, by omega, ?_⟩
    refine for_range (lo := 0) (n := xs.length) (fun k σ H2 => ∃ (y3 y4 : Option V), σ = [some (.ref a), some (.ref p), some (.ref D), y3, y4] ∧ Same H H2 ∧ H2 D = some (.lst ((firstsL F l k).map fun k => V.int (k : Nat))))
      ⟨none, none, rfl, s1, e1⟩ (fun k σ H2 hk ⟨y3, y4, eσ, s2, eD⟩ => ?_) (fun σ H2 ⟨y3, y4, eσ, s2, eD⟩ => ?_)
    · subst eσ
      have hs : l[k]? = some l[k] := List.getElem?_eq_getElem (by omega)
      have ms := hN _ (List.mem_of_getElem? hs)
      generalize l[k] = s at hs ms
      obtain ⟨b, hb, cb⟩ := (DpAll.tk (Tk.of s2) _ (flat_all_steps l) hD).step hs
      rw [Int.zero_add]
      refine ⟨_, rfl, ?_⟩
      refine noPart ?_
      refine ⟨_, rfl, (k : Int), rfl, p, xs, rfl, hS.same s2, fun H3 r s3 hr3 => ?_⟩
      rw [cut_init] at hr3
      have hlk : (xs.take k).length = k := by
        rw [List.length_take]
        omega
      have hDk : DpAll K H (xs.take k) ((l.take k).map dStep) := by
        rw [List.map_take]
        exact hD.take k
      refine ⟨r, _, rfl, hr3, fun J G hG W => fun D2 hD2 => ?_⟩
      refine lc_it W (fun i H' => Row2 K H' D2 (((l.take k).take i).filter fun y => (OF F).tc y.1 s.1) ∧ Same H3 H') ⟨⟨[], upd_same, .nil⟩, same_upd hD2⟩ (fun _ _ _ ⟨_, s'⟩ => hG _ s') (fun i x H4 H5 hi ⟨⟨ys, eD2, hY⟩, s'⟩ hy => ?_) (fun H4 ⟨⟨ys, eD2, hY⟩, s'⟩ => ?_)
      · obtain ⟨rfl, hx⟩ := hy
        obtain ⟨dd, g1, p1⟩ := hDk.get hx
        rw [List.getElem?_map] at g1
        obtain ⟨y, k1, rfl⟩ := Option.map_eq_some_iff.mp g1
        obtain ⟨c, rfl, cc⟩ := p1.step
        have my : y.1 ∈ F.names := hN _ (List.mem_of_mem_take (List.mem_of_getElem? k1))
        have s5 := (s2.trans s3).trans s'
        have hly := hY.len
        rw [List.length_map] at hly
        have hlf := List.length_filter_le (fun y => (OF F).tc y.1 s.1) ((l.take k).take i)
        rw [List.length_take, List.length_take] at hlf
        refine ⟨rfl, _, rfl, _, rfl, _, _, _, _, rfl, rfl, (Tk.of s5).sqT cc, rfl, _, rfl, _, rfl, _, _, _, _, rfl, rfl, hS.same s5, at_of (j := k) rfl hb, _, _, _, _, rfl, rfl, (Tk.of (s3.trans s')).sqT cb, rfl, ?_⟩
        refine ⟨a, y.1, s.1, rfl, Dp.tk (Tk.of s5) _ (flat_field F) hF, ok, my, ms, fun H6 s6 => ⟨_, rfl, ?_⟩⟩
        rw [take_snoc k1, List.filter_append]
        have et := tc_eq ok y.1 s.1
        cases ha : apart F y.1 s.1
        · rw [ha] at et
          have et : (OF F).tc y.1 s.1 = true := et
          have eD6 := s6 _ _ eD2
          refine iteT ⟨_, rfl, ys, eD6, small1000 (by omega), ?_, same_put (s'.trans s6) hD2⟩
          refine ⟨_, upd_same, ?_⟩
          rw [show List.filter (fun y => (OF F).tc y.1 s.1) [y] = [y] by simp [et], List.map_append]
          have t6 : Tk H5 (upd H6 D2 (.lst (ys ++ [.ref c]))) := (Tk.of s6).lst eD6
          exact (DpAll.tk t6 _ (flat_all_steps _) hY).app (.cons (Dp.of_step (s := y) (t6.sqT ((Tk.of s5).sqT cc))) .nil)
        · rw [ha] at et
          have et : (OF F).tc y.1 s.1 = false := et
          refine iteF ⟨?_, s'.trans s6⟩
          refine ⟨ys, s6 _ _ eD2, ?_⟩
          rw [show List.filter (fun y => (OF F).tc y.1 s.1) [y] = [] by simp [et], List.append_nil]
          exact DpAll.tk (Tk.of s6) _ (flat_all_steps _) hY
      · rw [hlk, List.take_of_length_le (by rw [List.length_take]; omega)] at hY
        refine ⟨by decide, fun E hE => upd_gen hE fun H5 s6 eE => ?_⟩
        have s26 := (s2.trans s3).trans (s'.trans s6)
        have eDD := (s3.trans (s'.trans s6)) _ _ eD
        have hYE := DpAll.tk (Tk.of s6) _ (flat_all_steps _) hY
        refine ⟨.list (((l.take k).filter fun y : Str × Int => (OF F).tc y.1 s.1).map dStep), .list [], .lst (SqL.of (s6 _ _ eD2)) hYE, .lst (SqL.of eE) .nil, sh_steps (fun y hy => ok.sgn _ (hN y (List.mem_of_mem_take (List.mem_filter.mp hy).1))), rfl, _, rfl, ?_⟩
        rw [ne_steps, firsts_snoc]
        have ef : free1 F l k = ((l.take k).filter fun y => (OF F).tc y.1 s.1).isEmpty := by
          unfold free1
          rw [hs]
          show (l.take k).all _ = _
          rw [Bool.eq_iff_iff, List.all_eq_true, List.isEmpty_iff, List.filter_eq_nil_iff]
          simp
        rw [← ef]
        cases hfr : free1 F l k
        · refine iteF ⟨_, _, rfl, s26, ?_⟩
          rw [eDD, if_neg Bool.false_ne_true, List.append_nil]
        · refine iteT ⟨_, rfl, Or.inl ⟨rfl, _, SqL.of eDD⟩, _, rfl, D, _, _, rfl, rfl, eDD, ?_, ?_⟩
          · rw [List.length_map]
            have := firsts_len (F := F) (l := l) (n := k)
            exact small1000 (by omega)
          · refine ⟨_, _, rfl, same_put s26 hD0, ?_⟩
            rw [upd_same, if_pos rfl, List.map_append]
            rfl
    · subst eσ
      rw [hlx] at eD
      exact ⟨_, rfl, q _ D s2 eD hD0⟩
end
end XB
set_option Elab.async false
set_option linter.all false
set_option maxRecDepth 100000
set_option maxHeartbeats 4000000
/-! min of a list of alike data -/
namespace XB
open PySem PySem.Spec PyProof.Rows L2
theorem cr_minD {X : Cx} {K : PySem.W.Frag} (hk : X.K = K) (hc : X.calm = true) (hu : X.A.units + 65 < cLine) : CallR X (.builtin "min") (fun vs H Q => ∃ (a : Addr) (ys : List V) (x : PyData) (xs : List PyData), vs = [.ref a] ∧ SqL K H a ys ∧ DpAll K H ys (x :: xs) ∧ PySem.W.AlikeAll (x :: xs) ∧ PyData.depthAll (x :: xs) < 64 ∧
    ∀ (i : Nat) v, ys[i]? = some v → (x :: xs)[i]? = some (PySem.W.minD x xs) → Q v H) := by
  subst hk
  intro pins s σ H vs us Q I r h
  obtain ⟨a, ys, x, xs, rfl, hs, hD, ha, hdp, q⟩ := h
  obtain ⟨its, rv, hl, _⟩ := I.list hs
  rw [Vals.ref1 r]
  obtain ⟨as, rs⟩ := Dp.readsAll I (x :: xs) ys its hD rv
  refine PySem.W.min_list_data (I.ok.hd hc) hl.isList rs ha (by omega) fun i v h' tk bs hi r hk => ?_
  have hi' : its[i]? = some v := by simpa using hi
  obtain ⟨cs, r2, hlt, _, _⟩ := PySem.W.readsAll_at rs i v hi'
  have e := (PyProof.Rows.reads_det (fun b o e _ => hk b o e) r2 r).1
  have hyl : i < ys.length := by
    rw [rv.length]
    exact (List.getElem?_eq_some_iff.mp hi').1
  obtain ⟨u, h1, h2⟩ := Vals.get rv (List.getElem?_eq_getElem hyl)
  rw [hi'] at h1
  cases h1
  refine ⟨_, H, I.kept hk, h2, q i _ (List.getElem?_eq_getElem hyl) ?_⟩
  rw [e, List.getElem?_eq_getElem hlt, List.getD_eq_getElem?_getD, List.getElem?_eq_getElem hlt]
  rfl
theorem lt_step (a b : Str) (i j : Int) : PySem.W.dataLt (.tuple [.str a, .int i]) (.tuple [.str b, .int j]) = if a = b then decide (i < j) else sLt a b := by
  unfold PySem.W.dataLt
  have e : ∀ (a : Str) (i : Int), PySem.W.keyToks (.tuple [.str a, .int i]) = [.inl 1, .inr a.cps.toList, .inl 1, .inl i, .inl 0] := fun a i => by
    simp [PySem.W.keyToks, PySem.W.keyToksAll]
  rw [e, e, lex_self]
  by_cases h : a = b
  · rw [if_pos h, h, lex_self, lex_self]
    by_cases h2 : i = j
    · rw [h2, lex_self, lex_self]
      simp
      rfl
    · rw [lex_diff (O := itemOrd) (fun q => h2 (Sum.inl.inj q))]
      rfl
  · rw [if_neg h, lex_diff (O := itemOrd) (fun q => h (PySem.W.str_of_cps (Sum.inr.inj q)))]
    rfl
end XB
set_option Elab.async false
set_option linter.all false
set_option maxRecDepth 100000
set_option maxHeartbeats 4000000
namespace XB
open PySem PySem.Spec PyProof.Rows L2
/-- the least pile of steps -/
def lpile (F : Fld) (l : List (Str × Int)) : List (Str × Int) := (XM.act (OF F) l []).reverse
/-- what stands fast while the least pile is drawn from a pile -/
structure LJ (F : Fld) (l fl ll : List (Str × Int)) : Prop where
  srt : XM.Srt (OF F) fl ll
  pl : XM.pl (OF F) (fl ++ ll) = true
  nf : XM.NZ fl
  nl : XM.NZ ll
  act : XM.act (OF F) (fl ++ ll) [] = XM.act (OF F) l []
  nm : Names F ll
  len : fl.length + ll.length ≤ 200
theorem LJ.step {F : Fld} {l fl p q : List (Str × Int)} {s : Str × Int} (I : LJ F l fl (p ++ s :: q)) (L : XM.LeastFirst (OF F) p s q) : LJ F l (fl ++ [s]) (p ++ q) := by
  have zs : s.2 ≠ 0 := I.nl s (by simp)
  have zp : XM.NZ p := fun y hy => I.nl y (by simp [hy])
  have zq : XM.NZ q := fun y hy => I.nl y (by simp [hy])
  refine ⟨I.srt.step L, ?_, I.nf.app fun y hy => by rw [List.mem_singleton.mp hy]; exact zs, zp.app zq, ?_, fun y hy => I.nm y ?_, ?_⟩
  · rw [List.append_assoc, List.singleton_append, ← XM.pl_move L.free]
    exact I.pl
  · rw [List.append_assoc, List.singleton_append, ← XM.act_move L.free I.nf zp (show XM.NF (OF F) [] from trivial)]
    exact I.act
  · rw [List.mem_append] at hy
    rcases hy with h | h <;> simp [h]
  · have := I.len
    simp at this ⊢
    omega
theorem LJ.done {F : Fld} {l fl : List (Str × Int)} (I : LJ F l fl []) : lpile F l = fl := by
  have h := I.pl
  have nf : XM.NF (OF F) fl.reverse := XM.nf_of (left := []) _ fl rfl I.srt h I.nf
  have a := XM.act_fix nf
  rw [List.reverse_reverse] at a
  have := I.act
  rw [List.append_nil, a] at this
  unfold lpile
  rw [← this, List.reverse_reverse]
/-- the pair of a first piece -/
def pr (l : List (Str × Int)) (k : Nat) : Str × Int := (nm1 l k, (k : Int))
theorem min_mem {x : PyData} : ∀ {xs : List PyData}, PySem.W.minD x xs ∈ x :: xs
  | [] => List.mem_cons_self
  | y :: xs => by
    show PySem.W.minD (if PySem.W.dataLt y x then y else x) xs ∈ _
    have := min_mem (x := if PySem.W.dataLt y x then y else x) (xs := xs)
    rcases List.mem_cons.mp this with h | h
    · rw [h]
      split <;> simp
    · exact List.mem_cons_of_mem _ (List.mem_cons_of_mem _ h)
theorem min_steps {x : Str × Int} : ∀ {xs : List (Str × Int)}, ∃ m ∈ x :: xs, PySem.W.minD (dStep x) (xs.map dStep) = dStep m ∧ ∀ y ∈ x :: xs, y.1 = m.1 ∨ sLt m.1 y.1 = true
  | [] => ⟨x, List.mem_cons_self, rfl, fun y hy => .inl (by rw [List.mem_singleton.mp hy])⟩
  | y :: xs => by
    have hd : PySem.W.dataLt (dStep y) (dStep x) = if y.1 = x.1 then decide (y.2 < x.2) else sLt y.1 x.1 := lt_step y.1 x.1 y.2 x.2
    show ∃ m ∈ x :: y :: xs, PySem.W.minD (if PySem.W.dataLt (dStep y) (dStep x) then dStep y else dStep x) (xs.map dStep) = dStep m ∧ _
    by_cases h : PySem.W.dataLt (dStep y) (dStep x) = true
    · rw [if_pos h]
      obtain ⟨m, h1, h2, h3⟩ := min_steps (x := y) (xs := xs)
      refine ⟨m, List.mem_cons_of_mem _ h1, h2, fun z hz => ?_⟩
      rcases List.mem_cons.mp hz with e | hz
      · rw [e]
        rw [hd] at h
        have hy := h3 y List.mem_cons_self
        by_cases e2 : y.1 = x.1
        · rw [← e2]
          exact hy
        · rw [if_neg e2] at h
          rcases hy with q | q
          · right
            rw [← q]
            exact h
          · exact .inr (sLt_trans _ _ _ q h)
      · exact h3 z hz
    · rw [if_neg h]
      obtain ⟨m, h1, h2, h3⟩ := min_steps (x := x) (xs := xs)
      refine ⟨m, ?_, h2, fun z hz => ?_⟩
      · rcases List.mem_cons.mp h1 with q | q
        · rw [q]
          exact List.mem_cons_self
        · exact List.mem_cons_of_mem _ (List.mem_cons_of_mem _ q)
      · rcases List.mem_cons.mp hz with e | hz
        · rw [e]
          exact h3 x List.mem_cons_self
        · rcases List.mem_cons.mp hz with e | hz
          · rw [e]
            rw [hd] at h
            have hx := h3 x List.mem_cons_self
            by_cases e2 : y.1 = x.1
            · rw [e2]
              exact hx
            · rw [if_neg e2] at h
              have : sLt x.1 y.1 = true := sLt_tot _ _ (fun q => e2 q) (by simpa using h)
              rcases hx with q | q
              · right
                rw [← q]
                exact this
              · exact .inr (sLt_trans _ _ _ q this)
          · exact h3 z (List.mem_cons_of_mem _ hz)
theorem least_of {F : Fld} {l : List (Str × Int)} {k : Nat} (hk : k ∈ firstsL F l l.length) (hm : ∀ j ∈ firstsL F l l.length, nm1 l j = nm1 l k ∨ sLt (nm1 l k) (nm1 l j) = true) :
    ∃ s, l[k]? = some s ∧ l = l.take k ++ s :: l.drop (k + 1) ∧ XM.LeastFirst (OF F) (l.take k) s (l.drop (k + 1)) := by
  obtain ⟨s, hs, hf⟩ := firsts_at hk
  have e2 : l = l.take k ++ s :: l.drop (k + 1) := by
    rw [← drop_at hs, List.take_append_drop]
  refine ⟨s, hs, e2, hf, fun p' z q' e hp hz => ?_⟩
  rw [← e2] at e
  have hz' : l[p'.length]? = some z := by
    rw [e, List.getElem?_append_right (Nat.le_refl _), Nat.sub_self]
    rfl
  have m : p'.length ∈ firstsL F l l.length := by
    refine mem_firsts.mpr ⟨(List.getElem?_eq_some_iff.mp hz').1, ?_⟩
    unfold free1
    rw [hz']
    show (l.take p'.length).all _ = true
    rw [e, List.take_left' rfl, List.all_eq_true]
    intro w hw
    rw [hp w hw]
    rfl
  have := hm _ m
  rw [nm1_of hz', nm1_of hs] at this
  exact this.resolve_left hz
def LJInv3 (K : PySem.W.Frag) (F : Fld) (H : Hp) (a p : Addr) (l : List (Str × Int)) : Nat → L2.St → Hp → Prop := fun m σ H2 => ∃ (D E : Addr) (ll fl : List (Str × Int)) (y4 y5 : Option V), m = ll.length ∧ σ = [some (.ref a), some (.ref p), some (.ref D), some (.ref E), y4, y5] ∧ Same H H2 ∧
  Row2 K H2 D ll ∧ Dp K H2 (.ref E) (dSteps fl) ∧ LJ F l fl ll
section
variable {P : Program} {w : World} {K : PySem.W.Frag} {mg : Str → Option Value} {base : Heap}
def spLawLeast3 (K : PySem.W.Frag) (F : Fld) : Sp := fun vs H Q _ => ∃ (a p : Addr) (xs : List V) (l : List (Str × Int)), vs = [.ref a, .ref p] ∧ Dp K H (.ref a) (dField F) ∧ F.Ok ∧ SqX K H p xs ∧ DpAll K H xs (l.map dStep) ∧ Names F l ∧ XM.NZ l ∧ l.length ≤ 200 ∧
  ∀ H' r, Same H H' → Dp K H' (.ref r) (dSteps (lpile F l)) → Q (.ref r) H'
theorem c__law_least3 (T : Tx K mg) (F : Fld) : Cl P w K mg base CX0 4 "_law_least" (spLawLeast3 K F) := by
  refine cl0 T.d__law_least (ps := ["field", "steps"]) (fun _ _ _ _ _ _ us hl => match us, hl with | [_, _], _ => rfl) sc__law_least (fun vs H Q E h => ?_) (fun fa cdv A outer st H vs Q E hr h => ?_)
  · obtain ⟨a, p, xs, l, rfl, _⟩ := h
    rfl
  · obtain ⟨a, p, xs, l, rfl, hF, ok, hS, hV, hN, hZ, hl, q⟩ := h
    have nd := sc__law_least.nd
    have hu := u65 hr
    refine ⟨_, (pss_cons (ps_asg (pe_tup (pa_cons (pe_k (c__law_pile3 T F) hr (by decide) (by rfl) (pa_cons (pv 0) (pa_cons (pv 1) pa_nil))) (pa_cons (pe_tup pa_nil) pa_nil))) (pg_tup rfl (pgs_cons (pg_name (i := 2) nd rfl (.inr rfl)) (pgs_cons (pg_name (i := 3) nd rfl (.inl rfl)) pgs_nil))))
    (pss_cons (ps_while PassesOwn.never (pt_cmpR (op_neD hr.units) (pv 2) (pe_lst pa_nil) (nomark _))
    (pss_cons (ps_set (i := 4) nd rfl (.inl rfl) (pe_ix (ixk_tup (K := K) rfl) (pe_callB (cr_minD (K := K) rfl rfl hu) (by rfl) T.b_min (by decide +kernel) (pa_cons (pe_lc (own := [("far", 5)]) (g := (gName 5)) (tt := tYes) (by rfl) nd (pi_list (pe_k (c__law_firsts3 T F) hr (by decide) (by rfl) (pa_cons (pv 0) (pa_cons (pv 2) pa_nil)))) (blkOk_by (own := [("far", 5)]) (N := ["field", "steps", "left", "found", "k", "far"]) (sc := defScope s__law_least) (by decide +kernel)) (fun _ _ _ _ _ => (pg_name (i := 5) nd rfl (by first | exact Or.inl rfl | exact Or.inr rfl))) (fun _ _ _ _ _ => pts_nil) (fun _ _ _ _ _ => (pe_tup (pa_cons (pe_ix (ixk_tup (K := K) rfl) (pe_ix (ixk_list (K := K) rfl) (pv 2) (pv 5) (fun _ _ => rfl)) pe_int (fun _ _ => rfl)) (pa_cons (pv 5) pa_nil))))) pa_nil)) pe_int (fun _ _ => rfl)))
    (pss_one (ps_asg (pe_tup (pa_cons (pe_op (op_catAk (K := K) rfl) (pv 3) (pe_tup (pa_cons (pe_ix (ixk_list (K := K) rfl) (pv 2) (pv 4) (fun _ _ => rfl)) pa_nil))) (pa_cons (pe_op op_cat (pe_slice sl_list (pv 2) po_none (po_some (pv 4))) (pe_slice sl_list (pv 2) (po_some (pe_op op_add (pv 4) pe_int)) po_none)) pa_nil))) (pg_tup rfl (pgs_cons (pg_name (i := 3) nd rfl (.inl rfl)) (pgs_cons (pg_name (i := 2) nd rfl (.inr rfl)) pgs_nil)))))))
    (pss_one (ps_ret (pv 3))))), ?_⟩
    refine ⟨_, rfl, _, rfl, a, p, xs, l, rfl, hF, ok, hS, hV, hN, hZ, hl, fun H1 D f s1 hR hD0 nf zf pf af lf => ⟨Nat.zero_le _, fun E hE => upd_gen hE fun H2 s2 e2 => ⟨two_sz, fun TT hT => upd_gen hT fun H3 s3 e3 => ⟨TT, _, rfl, SqT.of e3, rfl, _, _, rfl, _, _, rfl, rfl, ?_⟩⟩⟩⟩
    have s13 := (s1.trans s2).trans s3
    refine ⟨LJInv3 K F H a p l, ⟨_, D, E, f, [], none, none, rfl, rfl, s13, hR.same (s2.trans s3), .tup ((Tk.of s3).sqT (SqT.of e2)) .nil, XM.Srt.nil _, pf, (fun _ h => nomatch h), zf, af, nf, by simp; omega⟩, ?_⟩
    rintro m σ H4 ⟨D, E, ll, fl, y4, y5, rfl, rfl, s4, hR, hE, I⟩
    refine ⟨_, rfl, Nat.zero_le _, fun p0 h0 => upd_gen h0 fun H5 s5 e5 => ?_⟩
    have s05 := s4.trans s5
    have hR5 := hR.same s5
    have hE5 := tS hE s5
    obtain ⟨xs5, eD5, hX⟩ := id hR5
    have lI := I.len
    refine ⟨.list (ll.map dStep), .list [], .lst (SqL.of eD5) hX, .lst (SqL.of e5) .nil, sh_steps (fun s hs => ok.sgn _ (I.nm s hs)), rfl, _, rfl, ?_⟩
    rw [ne_steps]
    by_cases hne : ll = []
    · subst hne
      refine iteF ⟨_, rfl, q _ E s05 ?_⟩
      rw [I.done]
      exact hE5
    · rw [show (!ll.isEmpty) = true by cases ll with | nil => exact absurd rfl hne | cons _ _ => rfl]
      refine iteT ⟨fun σ' H' => ∃ m', m' < ll.length ∧ LJInv3 K F H a p l m' σ' H', fun _ _ h => h, ?_⟩
      have hlen0 := firsts_len (F := F) (l := ll) (n := ll.length)
      refine ⟨_, rfl, _, rfl, a, D, xs5, ll, rfl, Dp.tk (Tk.of s05) _ (flat_field F) hF, ok, .inl (SqL.of eD5), hX, I.nm, by omega, fun H6 r1 s6 e6 h6 => ⟨r1, rfl, ⟨_, SqL.of e6⟩, fun D2 hD2 => ?_⟩⟩
      refine lc_it (walk_list (xs := (firstsL F ll ll.length).map fun k => V.int (k : Nat))) (fun i H' => Row2 K H' D2 (((firstsL F ll ll.length).take i).map (pr ll)) ∧ Same H6 H') ⟨⟨[], upd_same, .nil⟩, same_upd hD2⟩ (fun _ H' _ ⟨_, s'⟩ => SqL.of (s' _ _ e6)) (fun i x H7o H7 hi ⟨r7, s7⟩ hy => ?_) (fun H7 ⟨r7, s7⟩ => ?_)
      · obtain ⟨rfl, hx⟩ := hy
        rw [List.getElem?_map] at hx
        obtain ⟨k, hk, rfl⟩ := Option.map_eq_some_iff.mp hx
        obtain ⟨s, hs, _⟩ := firsts_at (List.mem_of_getElem? hk)
        obtain ⟨xs7, b, q1, q2, q3⟩ := (hR5.same (s6.trans s7)).get hs
        obtain ⟨ys, e7, hY⟩ := id r7
        have lY := hY.len
        rw [List.length_map, List.length_map, List.length_take] at lY
        refine ⟨rfl, yes_ ⟨_, rfl, _, rfl, _, _, _, _, rfl, rfl, q1, q2, _, _, _, _, rfl, rfl, q3, rfl, _, rfl, two_sz, fun T hT => upd_gen hT fun H8 s8 e8 => ⟨ys, s8 _ _ e7, small1000 (by omega), ⟨_, upd_same, ?_⟩, same_put (s7.trans s8) hD2⟩⟩⟩
        have t8 : Tk H8 (upd H8 D2 (.lst (ys ++ [.ref T]))) := Tk.refl.lst (s8 _ _ e7)
        rw [take_snoc hk, List.map_append, List.map_append]
        refine (DpAll.tk ((Tk.of s8).trans t8) _ (flat_all_steps _) hY).app (.cons (Dp.of_step (s := pr ll k) (t8.sqT ?_)) .nil)
        show SqT K H8 T [.str (nm1 ll k), .int (k : Int)]
        rw [nm1_of hs]
        exact SqT.of e8
      · rw [List.length_map, List.take_length] at r7
        obtain ⟨ys, e7, hY⟩ := id r7
        obtain ⟨k0, kr, ef⟩ : ∃ k0 kr, firstsL F ll ll.length = k0 :: kr := by
          cases e : firstsL F ll ll.length with
          | nil =>
            have := firsts_some (F := F) hne
            rw [e] at this
            cases this
          | cons x r => exact ⟨x, r, rfl⟩
        rw [ef, List.map_cons, List.map_cons] at hY
        obtain ⟨mm, m1, m2, m3⟩ := min_steps (x := pr ll k0) (xs := kr.map (pr ll))
        have mf : mm ∈ (firstsL F ll ll.length).map (pr ll) := by
          rw [ef, List.map_cons]
          exact m1
        obtain ⟨k, mk, rfl⟩ := List.mem_map.mp mf
        obtain ⟨s, hs, esp, hL⟩ := least_of mk fun j hj => by
          have : pr ll j ∈ pr ll k0 :: kr.map (pr ll) := by
            rw [← List.map_cons, ← ef]
            exact List.mem_map_of_mem hj
          exact m3 _ this
        have dep : ∀ {l : List (Str × Int)}, PyData.depthAll (l.map dStep) < 64 := fun {l} => by
          have := deep_steps l
          omega
        refine ⟨D2, ys, dStep (pr ll k0), (kr.map (pr ll)).map dStep, rfl, SqL.of e7, hY, ⟨fun x hx y hy => ?_, fun x hx => ?_⟩, by rw [← List.map_cons (f := dStep)]; exact dep, fun i v hv hm => ?_⟩
        · rw [← List.map_cons (f := dStep)] at hx hy
          obtain ⟨u, _, rfl⟩ := List.mem_map.mp hx
          obtain ⟨w, _, rfl⟩ := List.mem_map.mp hy
          rfl
        · rw [← List.map_cons (f := dStep)] at hx
          obtain ⟨u, _, rfl⟩ := List.mem_map.mp hx
          intro q
          cases q
        · obtain ⟨d, g1, p1⟩ := hY.get hv
          rw [hm, m2] at g1
          cases g1
          obtain ⟨b, rfl, cb⟩ := p1.step
          refine ix1 cb ?_
          have s07 := (s05.trans s6).trans s7
          have hR7 := hR5.same (s6.trans s7)
          have hE7 := tS hE5 (s6.trans s7)
          obtain ⟨xs8, c, q1, q2, q3⟩ := hR7.get hs
          have kl : k < ll.length := (mem_firsts.mp mk).1
          refine ⟨_, rfl, _, rfl, _, rfl, _, _, _, _, rfl, rfl, q1, q2, one_sz, fun T8 n8 => upd_gen n8 fun H8 s8 e8 => ?_⟩
          refine catD (m := [s]) (tS hE7 s8) (.tup (SqT.of e8) (.cons (Dp.of_step (s := s) ((Tk.of s8).sqT q3)) .nil)) (by rw [List.length_singleton]; omega) fun H9 p9 s9 h9 => ?_
          have s79 := s8.trans s9
          refine ⟨_, rfl, ?_⟩
          refine noPart ?_
          refine ⟨_, rfl, (k : Int), rfl, rowTake (hR7.same s79) fun H10 p10 s10 h10 r10 => ?_⟩
          have s710 := s79.trans s10
          refine ⟨_, rfl, _, rfl, _, _, rfl, rfl, ((k + 1 : Nat) : Int), rfl, ?_⟩
          refine noPart ?_
          refine rowDrop (hR7.same s710) fun H11 p11 s11 h11 r11 => ?_
          refine rowCat (r10.same s11) r11 (by rw [List.length_take, List.length_drop]; omega) fun H12 p12 s12 h12 r12 => ?_
          have s912 := (s10.trans s11).trans s12
          refine ⟨two_sz, fun T13 n13 => upd_gen n13 fun H13 s13 e13 => ⟨T13, _, rfl, SqT.of e13, rfl, _, _, rfl, _, _, rfl, rfl, ?_⟩⟩
          have I2 : LJ F l fl (ll.take k ++ s :: ll.drop (k + 1)) := by
            rw [← esp]
            exact I
          exact ⟨_, by rw [List.length_append, List.length_take, List.length_drop]; omega, p12, p9, _, _, _, _, rfl, rfl, (s07.trans s79).trans (s912.trans s13), r12.same s13, tS h9 (s912.trans s13), I2.step hL⟩
end
end XB
set_option Elab.async false
set_option linter.all false
set_option maxRecDepth 100000
set_option maxHeartbeats 4000000
/-! sorted(xs): alike data, in a list or a tuple, of any length; tuples of which the first is empty, too -/
namespace XSo
open PySem PySem.Spec PySem.W PySem.SeqAt PySem.Calls PyProof.Rows
section
variable {prog : Program} {w : World} {A : Around} {s : Shared} {E : Value → Shared → Prop}
theorem call_tuple_lt {Q : Value → Shared → Prop} {l b : Addr} {items items2 : Array Value} {e r : Nat → Bool} (hl : s.heap.IsTuple l items) (hb : s.heap.IsTuple b items2)
    (he : ∀ j (h1 : j < items.size) (h2 : j < items2.size), EqAt A.in1 s items[j] items2[j] (e j)) (hr : ∀ j (h1 : j < items.size) (h2 : j < items2.size), e j = false → RcLt A.in1 s items[j] items2[j] (r j))
    (h : Q (.bool (firstLt e r (decide (items.size < items2.size)) (List.range (min items.size items2.size)))) s) : wpAny (model prog w) A (call (.builtin "tuple.__lt__") [.ref l, .ref b]) Q E s := by
  obtain ⟨⟨cls, dd, data, sl⟩, ho, hc, n, hd⟩ := id hl
  obtain ⟨⟨cls2, dd2, data2, sl2⟩, ho2, hc2, n2, hd2⟩ := id hb
  simp only at hc hd hc2 hd2
  subst hc hd hc2 hd2
  exact call_meets F.slot_tuple_lt ⟨_, ho, rfl⟩ F.entry_tuple_lt (F.args_tuple_lt_2 _ _) (tuple_ltAt l b items items2 n n2 dd dd2 sl sl2 e r) ⟨ho, ho2, he, hr, h⟩
theorem oneLt_tuple {xs ys : List PyData} {a b : Value} {as bs : List Addr} {Q : Bool → Shared → Prop} (ra : Reads s.heap a (.tuple xs) as) (rb : Reads s.heap b (.tuple ys) bs) (hal : alikeAll xs ys = true)
    (hu : A.units + min (PyData.tuple xs).depth (PyData.tuple ys).depth < cLine) (hq : Q (dataLt (.tuple xs) (.tuple ys)) s) : wpAny (model prog w) A (oneLt' true a b) Q E s := by
  cases ra with
  | @tuple l o vs n _ as₁ h1 h2 h3 h4 =>
    cases rb with
    | @tuple l' o' vs' n' _ bs₁ k1 k2 k3 k4 =>
      have n1 : vs.size = xs.length := by simpa using ReadsAll.length _ _ _ h4
      have n2 : vs'.size = ys.length := by simpa using ReadsAll.length _ _ _ k4
      rw [dataLt_tuple, ← firstLt_toks xs ys hal, ← n1, ← n2] at hq
      rw [oneLt'_eq]
      simp only [if_true]
      refine wpAny_bind (wpAny_cRoomFor (room_here hu) ?_)
      refine wpAny_bind (wpAny_callSpecialIfBound?_slot (T := "tuple") ⟨_, h1, h2⟩ F.slot_tuple_lt (call_tuple_lt (e := pairEq xs ys) (r := fun j => dataLt (xs.getD j .none) (ys.getD j .none)) ⟨_, h1, h2, _, h3⟩ ⟨_, k1, k2, _, k3⟩ (fun j j1 j2 => ?_) (fun j j1 j2 hj => ?_) ?_))
      · have := eqAt_alikeAll xs ys A.in1 s vs.toList vs'.toList _ _ h4 k4 hal (room_in hu) j (by simpa using j1) (by simpa using j2)
        simpa using this
      · have := rcLt_alikeAll xs ys A.in1 s vs.toList vs'.toList _ _ h4 k4 hal (room_in hu) j (by simpa using j1) (by simpa using j2) hj
        simpa using this
      · exact wpAny_truthy_bool hq
/-- what sorting asks of a value first -/
def gFirst (h : Heap) : Value → Option Value
  | .ref a => match h.get? a with
    | some o => match o.data with
      | .seq xs _ => xs[0]?
      | _ => none
    | none => none
  | _ => none
theorem first_at {xs : List PyData} {a : Value} {as : List Addr} {Q : Option Value → Shared → Prop} (r : Reads s.heap a (.tuple xs) as) (h : Q (gFirst s.heap a) s) : wpAny (model prog w) A (firstOfTuple' a) Q E s := by
  cases r with
  | @tuple l o vs n _ as₁ h1 h2 h3 h4 =>
    have e : gFirst s.heap (.ref l) = vs[0]? := by
      simp only [gFirst, h1, h3]
    rw [e] at h
    rw [kas_first_eq]
    refine wpAny_bind (wpAny_typeOf (T := "tuple") ⟨o, h1, h2⟩ ?_)
    rw [if_neg (by decide)]
    exact wpAny_bind (listItems_at h1 h3 (wpAny_pure h))
theorem first_nil {a : Value} {as : List Addr} (r : Reads s.heap a (.tuple []) as) : gFirst s.heap a = none := by
  cases r with
  | @tuple l o vs n _ as₁ h1 h2 h3 h4 =>
    have n1 : vs.size = 0 := by simpa using ReadsAll.length _ _ _ h4
    simp only [gFirst, h1, h3]
    exact Array.getElem?_eq_none (by omega)
theorem mapM_firsts : ∀ (l : List Value) {Q : List (Option Value) → Shared → Prop}, (∀ v ∈ l, ∀ (Q' : Option Value → Shared → Prop), Q' (gFirst s.heap v) s → wpAny (model prog w) A (firstOfTuple' v) Q' E s) → Q (l.map (gFirst s.heap)) s → wpAny (model prog w) A (l.mapM firstOfTuple') Q E s
  | [], _, _, h => by rw [List.mapM_nil]; exact wpAny_pure h
  | x :: l, Q, hf, h => by
    rw [List.mapM_cons]
    exact wpAny_bind (hf x (.head _) _ (wpAny_bind (mapM_firsts l (Q := fun bs s' => wpAny (model prog w) A (pure (gFirst s.heap x :: bs)) Q E s') (fun v hv => hf v (.tail _ hv)) (wpAny_pure h))))
theorem kind_mixed {v : Value} {vs : List Value} {Q : SortKind → Shared → Prop} (hT : ∀ u ∈ v :: vs, ∃ xs as, Reads s.heap u (.tuple xs) as) (h0 : gFirst s.heap v = none) (h : Q oneType' s) : wpAny (model prog w) A (keyKind' (v :: vs).toArray) Q E s := by
  rw [keyKind'_eq, List.mapM_toArray, map_eq_pure_bind]
  refine wpAny_bind (wpAny_bind (mapM_firsts _ (fun u hu Q' hq => ?_) (wpAny_pure ?_)))
  · obtain ⟨xs, as, r⟩ := hT u hu
    exact first_at r hq
  · rw [if_neg (by simp [h0]), if_neg (by simp [h0])]
    rw [oneTypeOnly'_eq, List.mapM_toArray, map_eq_pure_bind]
    refine wpAny_bind (wpAny_bind (wpAny_bind (kas_mapM (r := Value.type "tuple") _ (fun u hu Q' hq => ?_) (wpAny_pure ?_))))
    · obtain ⟨xs, as, r⟩ := hT u hu
      exact (looks_reads r).here hq
    · have hall : ((List.map (fun _ => Value.type "tuple") (v :: vs)).toArray.all fun x => x == Value.type "tuple") = true := by
        simp only [List.all_toArray, List.all_map, List.all_eq_true]
        intro _ _
        exact beq_self_eq_true _
      have h0 : (List.map (fun _ => Value.type "tuple") (v :: vs)).toArray[0]? = some (Value.type "tuple") := by simp
      rw [h0]
      simp only [hall, if_true]
      exact wpAny_pure (wpAny_pure h)
/-- tuples of which the first is empty can be sorted -/
theorem sorts_mixed {vs : List Value} {ds : List PyData} (e : EachIs (fun v d => ∃ as, Reads s.heap v d as) vs (.tuple [] :: ds)) (ht : ∀ d ∈ ds, ∃ xs, d = .tuple xs) (hal : AllAlike (.tuple [] :: ds)) (hu : ∀ d, d ∈ PyData.tuple [] :: ds → A.units + d.depth < cLine) :
    SortsAt prog w A s (dataKind s.heap (.tuple [] :: ds)) vs := by
  have ht' : ∀ d ∈ PyData.tuple [] :: ds, ∃ xs, d = .tuple xs := fun d hd => by
    rcases List.mem_cons.mp hd with h | h
    · exact ⟨[], h⟩
    · exact ht d h
  have room : ∀ {d d' : PyData}, d ∈ PyData.tuple [] :: ds → A.units + min d.depth d'.depth < cLine := fun {d d'} hd => Nat.lt_of_le_of_lt (Nat.add_le_add_left (Nat.min_le_left _ _) _) (hu d hd)
  refine ⟨fun v hv => ?_, oneType', ?_, fun h2 E Q hq => ?_⟩
  · obtain ⟨d, hd, as, r⟩ := e.left v hv
    exact ⟨_, dataKind_some hal hd r⟩
  · intro E x y a b Q ha hb hq
    obtain ⟨d, as, hd, ra, rfl⟩ := dataKind_inv ha
    obtain ⟨d', as', hd', rb, rfl⟩ := dataKind_inv hb
    have hdd := hal d hd d' hd'
    have hr := room (d' := d') hd
    obtain ⟨xs, rfl⟩ := ht' d hd
    obtain ⟨ys, rfl⟩ := ht' d' hd'
    rw [keyLt'_oneType]
    exact oneLt_tuple ra rb (by simpa [alike] using hdd) hr hq
  · cases e with
    | cons h t =>
      obtain ⟨as, r⟩ := h
      refine kind_mixed (fun u hu => ?_) (first_nil r) hq
      rcases List.mem_cons.mp hu with q | q
      · rw [q]
        exact ⟨_, _, r⟩
      · obtain ⟨d, hd, as, r⟩ := t.left u q
        obtain ⟨xs, rfl⟩ := ht d hd
        exact ⟨_, _, r⟩
theorem collect_tuple {l : Addr} {vs : List Value} {Q : List Value → Shared → Prop} (hl : s.heap.IsTuple l vs.toArray)
    (h : Q vs { s with heap := (s.heap.push (seqObj "list" #[] 0)).update s.heap.objs.size (Obj.mapSeq (· ++ vs.toArray)) }) (hsz : vs.length ≤ sizeLine) :
    wpAny (model prog w) A (collect (.ref l)) Q E s := by
  obtain ⟨o, ho, hc, n, hd⟩ := id hl
  unfold collect
  refine wpAny_bind (wpAny_runValue (codeAny_builtin entry_proto_collect' ?_))
  show wpAny _ _ (do again (.builtin "list.__iadd__" ⟨[← newList [], .ref l], []⟩)) _ _ s
  refine wpAny_bind (wpAny_newList (wpAny_pure ⟨Code.quiet_builtin _ (by decide +kernel), codeAny_builtin entry_list_iadd' ?_⟩))
  show wpAny _ _ (Builtin.List.listExtendWith (.ref s.heap.objs.size) (.ref l) (.ref s.heap.objs.size)) _ _ { s with heap := s.heap.push (seqObj "list" #[] 0) }
  unfold Builtin.List.listExtendWith
  have ho' : (s.heap.push (seqObj "list" #[] 0)).get? l = some o := Heap.get?_push_of_some _ ho
  refine wpAny_bind (wpAny_typeOf (T := "tuple") ⟨o, ho', hc⟩ ?_)
  have ht : (Value.type "tuple" == Value.type "tuple") = true := by rfl
  rw [if_pos (by rw [ht]; simp)]
  refine wpAny_bind (listItems_at ho' hd ?_)
  refine wpAny_bind (listItems_at (xs := #[]) (n := 0) (Heap.get?_push_size _ rfl) rfl ?_)
  rw [if_neg (by simp)]
  refine wpAny_bind (listUpdate_at (xs := #[]) (n := 0) (Heap.get?_push_size _ rfl) rfl ?_ (Nat.zero_le _) (by show (#[] ++ vs.toArray).size ≤ sizeLine + 1; simp only [Array.size_append, List.size_toArray, List.length_nil]; omega))
  refine wpAny_pure ?_
  show wpAny (model prog w) A (do
      let o ← load s.heap.objs.size
      match o.data with
      | .seq xs _ => pure xs.toList
      | _ => unsupported "internal:collect") Q E { s with heap := (s.heap.push (seqObj "list" #[] 0)).update s.heap.objs.size (Obj.mapSeq (· ++ vs.toArray)) }
  refine wpAny_bind (wpAny_load (get?_update_seq (Heap.get?_push_size _ rfl) _) ?_)
  show wpAny _ _ (pure ((#[] : Array Value) ++ vs.toArray).toList) Q E _
  rw [show ((#[] : Array Value) ++ vs.toArray).toList = vs by simp]
  exact wpAny_pure h
theorem sorted_valsT {κ : PyProof.Rows.KeyKind} {l : Addr} {vs : List Value} {Q : Value → Shared → Prop} (hl : s.heap.IsTuple l vs.toArray) (S : SortsAt prog w A.in1.in1 { s with heap := sortingHeap (copyHeap s.heap vs) (s.heap.objs.size + 1) vs } κ vs) (hL : vs.length ≤ sizeLine)
    (h : Q (.ref (s.heap.objs.size + 1)) { s with heap := sortedAll s.heap vs (sortVals κ false vs vs).toArray }) : wpAny (model prog w) A (call (.builtin "sorted") [.ref l]) Q E s := by
  refine call_function_entry_kw kind_sorted plain_sorted entry_sorted (args_sorted1 _) ?_
  unfold Builtin.«sorted»
  refine wpAny_bind (m := checkCount "sorted" 1 1 _) (wpAny_pure ?_)
  refine wpAny_bind (collect_tuple hl ?_ hL)
  refine wpAny_bind (wpAny_newList ?_ hL)
  have hsz : ((s.heap.push (seqObj "list" #[] 0)).update s.heap.objs.size (Obj.mapSeq (· ++ vs.toArray))).objs.size = s.heap.objs.size + 1 := by
    rw [Heap.size_update, size_push']
  show wpAny _ _ _ _ _ { s with heap := copyHeap s.heap vs }
  rw [hsz]
  refine wpAny_bind (wpAny_holding (wpAny_call_entry_kw slot_list_sort ⟨_, copyHeap_at s.heap vs, rfl⟩ entry_list_sort ?body (args_list_sort _)))
  case body =>
    show wpAny (model prog w) A.in1.in1 (Builtin.«list.sort» ⟨[.ref (s.heap.objs.size + 1)], []⟩) _ _ _
    refine wpAny_mono (list_sort_vals (P := fun f s' => f = .done (.ret .none) ∧ Q (.ref (s.heap.objs.size + 1)) s') (s := { s with heap := copyHeap s.heap vs }) (copyHeap_at s.heap vs) S hL ⟨rfl, h⟩) (fun f s' hf => ?_) fun _ _ e => e
    obtain ⟨rfl, hq⟩ := hf
    exact ⟨_, rfl, wpAny_pure ⟨_, rfl, hq⟩⟩
end
end XSo
namespace XB
open PySem PySem.Spec PyProof.Rows L2
/-- alike data that can be sorted -/
structure SortOkD (ds : List PyData) : Prop where
  al : PySem.W.AllAlike ds
  so : PySem.W.Sortable ds ∨ ∃ ds', ds = .tuple [] :: ds' ∧ ∀ d ∈ ds', ∃ xs, d = .tuple xs
  dp : ∀ d ∈ ds, d.depth ≤ 60
/-- the data in their order -/
def sortD (ds : List PyData) : List PyData := ds.mergeSort (PySem.W.dataLe false id)
def rSortedD (K : PySem.W.Frag) : List V → Hp → VK → Prop := fun vs H Q => ∃ (a : Addr) (ys : List V) (ds : List PyData), vs = [.ref a] ∧ (SqL K H a ys ∨ SqT K H a ys) ∧ DpAll K H ys ds ∧ SortOkD ds ∧
  ∀ p zs, H p = none → DpAll K H zs (sortD ds) → Q (.ref p) (upd H p (.lst zs))
theorem each_zip {K : PySem.W.Frag} {H : Hp} : ∀ {its : List Value} {ys : List V} {ds : List PyData}, Vals ys its → DpAll K H ys ds → PySem.W.EachIs (fun v (b : V × PyData) => RelV b.1 v ∧ Dp K H b.1 b.2) its (ys.zip ds)
  | _, _, _, .nil, .nil => .nil
  | _, _, _, .cons r rs, .cons d dd => .cons ⟨r, d⟩ (each_zip rs dd)
theorem zip_snd {K : PySem.W.Frag} {H : Hp} : ∀ {ys : List V} {ds : List PyData}, DpAll K H ys ds → (ys.zip ds).map Prod.snd = ds
  | _, _, .nil => rfl
  | _, _, .cons d dd => by
    rw [List.zip_cons_cons, List.map_cons, zip_snd dd]
theorem each_back {K : PySem.W.Frag} {H : Hp} : ∀ {out : List Value} {bs : List (V × PyData)}, PySem.W.EachIs (fun v (b : V × PyData) => RelV b.1 v ∧ Dp K H b.1 b.2) out bs → Vals (bs.map Prod.fst) out ∧ DpAll K H (bs.map Prod.fst) (bs.map Prod.snd)
  | _, _, .nil => ⟨.nil, .nil⟩
  | _, _, .cons ⟨r, d⟩ t => ⟨.cons r (each_back t).1, .cons d (each_back t).2⟩
theorem each_zipR {K : PySem.W.Frag} {H : Hp} {R : Value → PyData → Prop} : ∀ {its : List Value} {ys : List V} {ds : List PyData}, DpAll K H ys ds → PySem.W.EachIs R its ds → PySem.W.EachIs (fun v (b : V × PyData) => R v b.2) its (ys.zip ds)
  | _, _, _, .nil, .nil => .nil
  | _, _, _, .cons _ dd, .cons r rs => .cons r (each_zipR dd rs)
theorem cr_sortedD {X : Cx} {K : PySem.W.Frag} (hk : X.K = K) (hu : X.A.units + 65 < cLine) : CallR X (.builtin "sorted") (rSortedD K) := by
  subst hk
  intro pins s σ H vs us Q I r h
  obtain ⟨a, ys, ds, rfl, hs, hD, hok, q⟩ := h
  rw [Vals.ref1 r]
  have main : ∀ its : List Value, Vals ys its → its.length ≤ sizeLine → (∀ {κ : PyProof.Rows.KeyKind} {Q' : Value → Shared → Prop}, PySem.W.SortsAt X.prog X.w X.A.in1.in1 { s with heap := PySem.W.sortingHeap (PySem.W.copyHeap s.heap its) (s.heap.objs.size + 1) its } κ its →
      Q' (.ref (s.heap.objs.size + 1)) { s with heap := PyProof.Rows.sortedAll s.heap its (PySem.W.sortVals κ false its its).toArray } → wpAny (model X.prog X.w) X.A (call (.builtin "sorted") [.ref a]) Q' X.xe s) →
      wpAny (model X.prog X.w) X.A (call (.builtin "sorted") [.ref a]) (EP X pins σ Q) X.xe s := fun its rv hz run => by
    obtain ⟨as, ra⟩ := Dp.readsAll I ds ys its hD rv
    have e0 : PySem.W.EachIs (fun v d => ∃ as, Reads s.heap v d as) its ds := by
      have := PySem.W.readsAll_each (h := s.heap) id (bs := ds) (vs := its) (as := as) (by rw [List.map_id]; exact ra)
      exact this
    have e1 : PySem.W.EachIs (fun v d => ∃ as, Reads (PySem.W.sortingHeap (PySem.W.copyHeap s.heap its) (s.heap.objs.size + 1) its) v d as) its ds := e0.mono fun _ _ ⟨as, r⟩ => ⟨as, PyProof.Rows.Reads.keeps (fun _ _ => PySem.W.sorting_copy_old) r⟩
    have hz1 := zip_snd hD
    have er := each_zipR hD e1
    have hal := hok.al
    rw [← hz1] at hal
    have eo := PySem.W.sortVals_data (enc := Prod.snd) false (each_zip rv hD) er hal
    rw [hz1] at eo
    obtain ⟨hv, hd⟩ := each_back eo
    have hs : ((ys.zip ds).mergeSort (PySem.W.dataLe false Prod.snd)).map Prod.snd = sortD ds := by
      have h := List.map_mergeSort (r := PySem.W.dataLe false Prod.snd) (s := PySem.W.dataLe false id) (f := Prod.snd) (l := ys.zip ds) (fun _ _ _ _ => rfl)
      rw [hz1] at h
      exact h
    rw [hs] at hd
    generalize ((ys.zip ds).mergeSort (PySem.W.dataLe false Prod.snd)).map Prod.fst = zs at hv hd
    have S : PySem.W.SortsAt X.prog X.w X.A.in1.in1 { s with heap := PySem.W.sortingHeap (PySem.W.copyHeap s.heap its) (s.heap.objs.size + 1) its } (PySem.W.dataKind (PySem.W.sortingHeap (PySem.W.copyHeap s.heap its) (s.heap.objs.size + 1) its) ds) its := by
      have hb : ∀ d ∈ ds, X.A.in1.in1.units + d.depth < cLine := fun d hd => by
        have := hok.dp d hd
        show X.A.units + 2 + d.depth < cLine
        omega
      rcases hok.so with q | ⟨ds', rfl, ht⟩
      · exact PySem.W.SortsAt.data (s := { s with heap := PySem.W.sortingHeap (PySem.W.copyHeap s.heap its) (s.heap.objs.size + 1) its }) e1 hok.al q hb
      · exact XSo.sorts_mixed (s := { s with heap := PySem.W.sortingHeap (PySem.W.copyHeap s.heap its) (s.heap.objs.size + 1) its }) e1 ht hok.al hb
    refine run S ?_
    generalize PySem.W.sortVals _ false its its = out at hv ⊢
    obtain ⟨ep, he'⟩ := PyProof.Rows.sortedAll_at s.heap its out.toArray
    have hlen : zs.length ≤ sizeLine := by
      have l1 := hd.len
      have l2 := hD.len
      have l3 := rv.length
      unfold sortD at l1
      rw [List.length_mergeSort] at l1
      omega
    exact ⟨.ref _, upd H (s.heap.objs.size + 1) (.lst zs), I.laid (t' := s.toks) (fun _ _ => PyProof.Rows.sortedAll_old) (Nat.le_succ _) ⟨hlen, out, ep, hv, he'⟩, rfl, q _ zs (I.hok.fresh (Nat.le_succ _)) hd⟩
  rcases hs with hs | hs
  · obtain ⟨its, rv, hl, hz⟩ := I.list hs
    exact main its rv (by rw [← rv.length]; exact hz) fun S h => PySem.W.sorted_vals hl.isList S (by rw [← rv.length]; exact hz) h
  · obtain ⟨its, rv, hl, hz⟩ := I.tuple hs
    exact main its rv (by rw [← rv.length]; exact hz) fun S h => XSo.sorted_valsT hl S (by rw [← rv.length]; exact hz) h
end XB
set_option Elab.async false
set_option linter.all false
set_option maxRecDepth 100000
set_option maxHeartbeats 4000000
/-! comprehensions with two fors; data that stand where all stands -/
namespace XB
open PySem PySem.Spec PyProof.Rows L2
theorem pi_tupk {X : Cx} {tg e : Expr} {te : TE} {K : PySem.W.Frag} (hk : X.K = K) (he : PE X e te) : PI X tg e (iTup K te) := by
  subst hk
  exact pi_tup he
theorem pi_listk {X : Cx} {tg e : Expr} {te : TE} {K : PySem.W.Frag} (hk : X.K = K) (he : PE X e te) : PI X tg e (iList K te) := by
  subst hk
  exact pi_list he
theorem cr_allk {X : Cx} {K : PySem.W.Frag} (hk : X.K = K) (hc : X.calm = true) : CallR X (.builtin "all") (rAll K) := by
  subst hk
  exact cr_all hc
theorem pi_enumk {X : Cx} {K : PySem.W.Frag} (hk : X.K = K) {e : Expr} {ta : TA} {p pos tpos : Pos} {elts : List Expr} {kk : Nat} (hg : Gl X "enumerate") (hm : X.mg "enumerate" = none) (ha : PA X [e] ta) (hs : starEach [e] X.env = [(false, eval e X.env)] := by rfl) :
    PI X (.Tuple elts kk tpos) (.Call (.Name "enumerate" p) [e] [] pos) (iEnum K ta) := by
  subst hk
  exact pi_enum hg hm ha hs
theorem pt_truthk {X : Cx} {K : PySem.W.Frag} (hk : X.K = K) {a : Expr} {ta : TE} (ha : PE X a ta) (he : ∀ whole, isTrue a X.env whole = (do let v ← whole; standAt a.pos; holding [v] (truthy v)) := by intro _; rfl) : PT X a (fun σ H Q => ta σ H fun x H' => ∃ k, TruV K x H' k ∧ Q k H') := by
  subst hk
  exact pt_truth ha he
/-- the inner for -/
def Lc2In (J1 : It) (g1 : TG) (tt1 : TT) (te : TE) (vs1 : List Nat) (σ2 : L2.St) (D : Addr) (Nx : Hp → Prop) (H4 : Hp) : Prop :=
  ∃ W1 : Nat → Nat → Hp → Prop, (∃ m, W1 0 m H4) ∧ ∀ j k H, W1 j k H →
      (J1.stop j H ∧ Nx H) ∨ (J1.go j H ∧ ∃ Nx1 : Hp → Prop, (∀ H', Nx1 H' → ∃ k', k' < k ∧ W1 (j + 1) k' H') ∧ ∀ x H', J1.yld j H x H' → g1 x (wipe σ2 vs1) H' fun σ3 H5 => wipe σ3 vs1 = wipe σ2 vs1 ∧ tt1 σ3 H5 fun b H6 =>
        if b = true then te σ3 H6 fun y H7 => ∃ acc, H7 D = some (.lst acc) ∧ acc.length < sizeLine ∧ Nx1 (upd H7 D (.lst (acc ++ [y]))) else Nx1 H6)
theorem lc2_in {J1 : It} {n1 : Nat} {G1 : Hp → Prop} {Y1 : Nat → Hp → V → Hp → Prop} (w : Walk J1 n1 G1 Y1) {g1 : TG} {tt1 : TT} {te : TE} {vs1 : List Nat} {σ2 : L2.St} {D : Addr} {Nx : Hp → Prop} {H4 : Hp} (Pv : Nat → Hp → Prop) (h0 : Pv 0 H4) (hG : ∀ i H, i ≤ n1 → Pv i H → G1 H)
    (hs : ∀ i x H H', i < n1 → Pv i H → Y1 i H x H' → g1 x (wipe σ2 vs1) H' fun σ3 H5 => wipe σ3 vs1 = wipe σ2 vs1 ∧ tt1 σ3 H5 fun b H6 =>
      if b = true then te σ3 H6 fun y H7 => ∃ acc, H7 D = some (.lst acc) ∧ acc.length < sizeLine ∧ Pv (i + 1) (upd H7 D (.lst (acc ++ [y]))) else Pv (i + 1) H6) (hd : ∀ H, Pv n1 H → Nx H) : Lc2In J1 g1 tt1 te vs1 σ2 D Nx H4 := by
  refine ⟨fun i m H => m = n1 - i ∧ i ≤ n1 ∧ Pv i H, ⟨n1, by simp, Nat.zero_le _, h0⟩, ?_⟩
  rintro i m H ⟨rfl, hi, p⟩
  have q := hG i H hi p
  by_cases hlt : i < n1
  · refine .inr ⟨w.goes i H hlt q, Pv (i + 1), fun H' p' => ⟨n1 - (i + 1), by omega, rfl, hlt, p'⟩, fun x H' y => hs i x H H' hlt p (w.yields i H x H' hlt q y)⟩
  · have e : i = n1 := by omega
    subst e
    exact .inl ⟨w.stops H q, hd H p⟩
theorem lc2_out {J : It} {n : Nat} {G : Hp → Prop} {Y : Nat → Hp → V → Hp → Prop} (w : Walk J n G Y) {wi1 : TI} {g g1 : TG} {tt tt1 : TT} {te : TE} {vs vs1 : List Nat} {σ : L2.St} {H1 : Hp} {D : Addr} {Qd : Hp → Prop} (Pv : Nat → Hp → Prop) (h0 : Pv 0 (upd H1 D (.lst []))) (hG : ∀ i H, i ≤ n → Pv i H → G H)
    (hs : ∀ i x H H', i < n → Pv i H → Y i H x H' → g x (wipe σ vs) H' fun σ2 H2 => wipe σ2 vs = wipe σ vs ∧ tt σ2 H2 fun b H3 =>
      if b = true then wi1 σ2 H3 fun J1 H4 => Lc2In J1 g1 tt1 te vs1 σ2 D (Pv (i + 1)) H4 else Pv (i + 1) H3) (hd : ∀ H, Pv n H → Qd H) :
    ∃ W : Nat → Nat → Hp → Prop, (∃ m, W 0 m (upd H1 D (.lst []))) ∧ ∀ i m H, W i m H →
      (J.stop i H ∧ Qd H) ∨ (J.go i H ∧ ∃ Nx : Hp → Prop, (∀ H', Nx H' → ∃ m', m' < m ∧ W (i + 1) m' H') ∧ ∀ x H', J.yld i H x H' → g x (wipe σ vs) H' fun σ2 H2 => wipe σ2 vs = wipe σ vs ∧ tt σ2 H2 fun b H3 =>
        if b = true then wi1 σ2 H3 fun J1 H4 => Lc2In J1 g1 tt1 te vs1 σ2 D Nx H4 else Nx H3) := by
  refine ⟨fun i m H => m = n - i ∧ i ≤ n ∧ Pv i H, ⟨n, by simp, Nat.zero_le _, h0⟩, ?_⟩
  rintro i m H ⟨rfl, hi, p⟩
  have q := hG i H hi p
  by_cases hlt : i < n
  · refine .inr ⟨w.goes i H hlt q, Pv (i + 1), fun H' p' => ⟨n - (i + 1), by omega, rfl, hlt, p'⟩, fun x H' y => hs i x H H' hlt p (w.yields i H x H' hlt q y)⟩
  · have e : i = n := by omega
    subst e
    exact .inl ⟨w.stops H q, hd H p⟩
theorem sqL_same {K : PySem.W.Frag} {H H' : Hp} {a : Addr} {xs : List V} (s : Same H H') (h : SqL K H a xs) : SqL K H' a xs := s.seq h
mutual
theorem Dp.sm {K : PySem.W.Frag} {H H' : Hp} (s : Same H H') : ∀ (d : PyData) {v : V}, Dp K H v d → Dp K H' v d
  | .none, _, h => by cases h; exact .non
  | .bool b, _, h => by cases h; exact .bl b
  | .int i, _, h => by cases h; exact .int i
  | .str x, _, h => by cases h; exact .str x
  | .list ds, _, h => by
    cases h with
    | lst h1 h2 => exact .lst (s.seq h1) (DpAll.sm s ds h2)
  | .tuple ds, _, h => by
    cases h with
    | tup h1 h2 => exact .tup ((Tk.of s).sqT h1) (DpAll.sm s ds h2)
  | .dict _, _, h => by cases h
theorem DpAll.sm {K : PySem.W.Frag} {H H' : Hp} (s : Same H H') : ∀ (ds : List PyData) {vs : List V}, DpAll K H vs ds → DpAll K H' vs ds
  | [], _, h => by cases h; exact .nil
  | d :: ds, _, h => by
    cases h with
    | cons h1 h2 => exact .cons (Dp.sm s d h1) (DpAll.sm s ds h2)
end
/-- a list of data -/
def RowG (K : PySem.W.Frag) (H : Hp) (D : Addr) (ds : List PyData) : Prop := ∃ xs, H D = some (.lst xs) ∧ DpAll K H xs ds
theorem RowG.same {K : PySem.W.Frag} {H H' : Hp} {D : Addr} {ds : List PyData} (h : RowG K H D ds) (s : Same H H') : RowG K H' D ds := by
  obtain ⟨xs, e, v⟩ := h
  exact ⟨xs, s _ _ e, DpAll.sm s ds v⟩
theorem rowCatG {K : PySem.W.Frag} {H : Hp} {a b : Addr} {l m : List PyData} {Q : VK} (h1 : RowG K H a l) (h2 : RowG K H b m) (hl : l.length + m.length ≤ 9000) (q : ∀ H' p, Same H H' → H p = none → RowG K H' p (l ++ m) → Q (.ref p) H') : rCat (.ref a) (.ref b) H Q := by
  obtain ⟨xs, e1, v1⟩ := h1
  obtain ⟨ys, e2, v2⟩ := h2
  have l1 := v1.len
  have l2 := v2.len
  refine catL e1 e2 (Nat.le_trans (show xs.length + ys.length ≤ 9000 by omega) (by decide)) fun H' p s hp e => q H' p s hp ⟨_, e, ?_⟩
  exact (DpAll.sm s l v1).app (DpAll.sm s m v2)
end XB
set_option Elab.async false
set_option linter.all false
set_option maxRecDepth 100000
set_option maxHeartbeats 4000000
namespace XB
open PySem PySem.Spec PyProof.Rows L2
def dRow (r : List (Str × Str)) : PyData := .tuple (r.map dPair)
/-- all rows of some pairs, each once -/
def rowsL (ps : List (Str × Str)) : List (List (Str × Str)) := ps.foldl (fun rs p => rs ++ rs.map (· ++ [p])) [[]]
theorem rowsL_snoc (ps : List (Str × Str)) (p : Str × Str) : rowsL (ps ++ [p]) = rowsL ps ++ (rowsL ps).map (· ++ [p]) := by
  unfold rowsL
  rw [List.foldl_append]
  rfl
theorem rows_head (ps : List (Str × Str)) : ∃ rest, rowsL ps = [] :: rest := by
  have gen : ∀ (ps : List (Str × Str)) (rs : List (List (Str × Str))), (∃ r, rs = [] :: r) → ∃ r, ps.foldl (fun rs p => rs ++ rs.map (· ++ [p])) rs = [] :: r := by
    intro ps
    induction ps with
    | nil => exact fun rs h => h
    | cons p ps ih =>
      rintro rs ⟨r, rfl⟩
      exact ih _ ⟨_, rfl⟩
  exact gen ps [[]] ⟨[], rfl⟩
theorem rows_len (ps : List (Str × Str)) : (rowsL ps).length = 2 ^ ps.length := by
  have gen : ∀ (ps : List (Str × Str)) (rs : List (List (Str × Str))), (ps.foldl (fun rs p => rs ++ rs.map (· ++ [p])) rs).length = rs.length * 2 ^ ps.length := by
    intro ps
    induction ps with
    | nil => intro rs; simp
    | cons p ps ih =>
      intro rs
      rw [List.foldl_cons, ih, List.length_append, List.length_map, List.length_cons, Nat.pow_succ, Nat.mul_comm (2 ^ ps.length) 2, ← Nat.mul_assoc]
      congr 1
      omega
  have := gen ps [[]]
  rw [List.length_singleton, Nat.one_mul] at this
  exact this
theorem rows_sub (ps : List (Str × Str)) : ∀ r ∈ rowsL ps, r.Sublist ps := by
  have gen : ∀ (ps q : List (Str × Str)) (rs : List (List (Str × Str))), (∀ r ∈ rs, r.Sublist q) → ∀ r ∈ ps.foldl (fun rs p => rs ++ rs.map (· ++ [p])) rs, r.Sublist (q ++ ps) := by
    intro ps
    induction ps with
    | nil => intro q rs h r hr; rw [List.append_nil]; exact h r hr
    | cons p ps ih =>
      intro q rs h r hr
      have := ih (q ++ [p]) (rs ++ rs.map (· ++ [p])) (fun r hr => ?_) r hr
      · rw [List.append_assoc] at this
        exact this
      · rcases List.mem_append.mp hr with h1 | h1
        · exact (h r h1).trans (List.sublist_append_left _ _)
        · obtain ⟨r', h2, rfl⟩ := List.mem_map.mp h1
          exact (h r' h2).append (List.Sublist.refl _)
  exact gen ps [] [[]] (fun r hr => by rw [List.mem_singleton.mp hr]; exact List.Sublist.refl _)
/-- these in their order -/
def AFr (n : Nat) : List (List (Str × Str)) := (rowsL (PM n n)).mergeSort (PySem.W.dataLe false dRow)
def FA (n : Nat) : List Fld := (AFr n).map fun r => ⟨ML.take n, r⟩
theorem afr_sort (n : Nat) : sortD ((rowsL (PM n n)).map dRow) = (AFr n).map dRow := by
  unfold sortD AFr
  rw [List.map_mergeSort (r := PySem.W.dataLe false dRow) (s := PySem.W.dataLe false id) (f := dRow) (l := rowsL (PM n n)) (fun _ _ _ _ => rfl)]
theorem afr_perm (n : Nat) : (AFr n).Perm (rowsL (PM n n)) := List.mergeSort_perm _ _
theorem fa_perm (n : Nat) : (FA n).Perm ((rowsL (PM n n)).map fun r => (⟨ML.take n, r⟩ : Fld)) := (afr_perm n).map _
theorem fa_ok {n : Nat} (h0 : 1 ≤ n) (h6 : n ≤ 6) : ∀ F ∈ FA n, F.Ok ∧ F.names = ML.take n := fun F hF => by
  obtain ⟨r, hr, rfl⟩ := List.mem_map.mp hF
  exact ⟨fld_okM h0 h6 (rows_sub _ r ((afr_perm n).mem_iff.mp hr)), rfl⟩
theorem PM_lens : (PM 2 2).length = 1 ∧ (PM 3 3).length = 3 ∧ (PM 4 4).length = 6 := by decide +kernel
theorem PM_6 {n : Nat} (h2 : 2 ≤ n) (h4 : n ≤ 4) : (PM n n).length ≤ 6 := by
  obtain ⟨a, b, c⟩ := PM_lens
  rcases (show n = 2 ∨ n = 3 ∨ n = 4 by omega) with h | h | h <;> rw [h] <;> omega
theorem rows_64 {n k : Nat} (h2 : 2 ≤ n) (h4 : n ≤ 4) : (rowsL ((PM n n).take k)).length ≤ 64 := by
  rw [rows_len, List.length_take]
  have := PM_6 h2 h4
  exact Nat.pow_le_pow_right (by decide) (show min k (PM n n).length ≤ 6 by omega)
theorem fa_64 {n : Nat} (h2 : 2 ≤ n) (h4 : n ≤ 4) : (FA n).length ≤ 64 := by
  unfold FA
  rw [List.length_map, (afr_perm n).length_eq]
  have := rows_64 (k := (PM n n).length) h2 h4
  rwa [List.take_length] at this
theorem alike_pairs : ∀ l m : List (Str × Str), PySem.W.alikeAll (l.map dPair) (m.map dPair) = true
  | [], _ => by simp [PySem.W.alikeAll]
  | _ :: _, [] => by simp [PySem.W.alikeAll]
  | x :: l, y :: m => by
    rw [List.map_cons, List.map_cons, PySem.W.alikeAll, alike_pairs l m]
    simp [dPair, PySem.W.alike, PySem.W.alikeAll]
theorem alike_rows (l m : List (Str × Str)) : PySem.W.alike (dRow l) (dRow m) = true := by
  show PySem.W.alike (.tuple (l.map dPair)) (.tuple (m.map dPair)) = true
  rw [PySem.W.alike]
  exact alike_pairs l m
theorem deep_pairs : ∀ l : List (Str × Str), PyData.depthAll (l.map dPair) ≤ 2
  | [] => by decide
  | x :: l => by
    rw [List.map_cons, PyData.depthAll]
    have := deep_pairs l
    have e : (dPair x).depth ≤ 2 := by
      show PyData.depth (.tuple [.str x.1, .str x.2]) ≤ 2
      simp [PyData.depth, PyData.depthAll]
    omega
theorem deep_row (l : List (Str × Str)) : (dRow l).depth ≤ 3 := by
  have := deep_pairs l
  show PyData.depth (.tuple (l.map dPair)) ≤ 3
  rw [PyData.depth]
  omega
theorem sort_rows (ps : List (Str × Str)) : SortOkD ((rowsL ps).map dRow) := by
  refine ⟨fun d hd d' hd' => ?_, .inr ?_, fun d hd => ?_⟩
  · obtain ⟨x, _, rfl⟩ := List.mem_map.mp hd
    obtain ⟨y, _, rfl⟩ := List.mem_map.mp hd'
    exact alike_rows x y
  · obtain ⟨rest, e⟩ := rows_head ps
    rw [e]
    exact ⟨rest.map dRow, rfl, fun d hd => by
      obtain ⟨x, _, rfl⟩ := List.mem_map.mp hd
      exact ⟨_, rfl⟩⟩
  · obtain ⟨x, _, rfl⟩ := List.mem_map.mp hd
    have := deep_row x
    omega
/-- the program's pairs -/
theorem pairs_of_eq {n : Nat} (h2 : 2 ≤ n) (h4 : n ≤ 4) : ((ML.take n).flatMap fun a => ((ML.take n).filter fun b => sLt a b).map fun b => (a, b)) = PM n n := by
  have : ((ML.take 2).flatMap fun a => ((ML.take 2).filter fun b => sLt a b).map fun b => (a, b)) = PM 2 2 ∧ ((ML.take 3).flatMap fun a => ((ML.take 3).filter fun b => sLt a b).map fun b => (a, b)) = PM 3 3 ∧ ((ML.take 4).flatMap fun a => ((ML.take 4).filter fun b => sLt a b).map fun b => (a, b)) = PM 4 4 := by decide +kernel
  obtain ⟨a, b, c⟩ := this
  rcases (show n = 2 ∨ n = 3 ∨ n = 4 by omega) with h | h | h <;> rw [h] <;> assumption
end XB
set_option Elab.async false
set_option linter.all false
set_option maxRecDepth 100000
set_option maxHeartbeats 4000000
namespace XB
open PySem PySem.Spec PyProof.Rows L2
section
variable {P : Program} {w : World} {K : PySem.W.Frag} {mg : Str → Option Value} {base : Heap}
def NmA (K : PySem.W.Frag) (H : Hp) (a : Addr) (n : Nat) : Prop := SqT K H a ((ML.take n).map V.str) ∧ 2 ≤ n ∧ n ≤ 4
theorem NmA.same {K : PySem.W.Frag} {H H' : Hp} {a : Addr} {n : Nat} (h : NmA K H a n) (s : Same H H') : NmA K H' a n := ⟨(Tk.of s).sqT h.1, h.2⟩
theorem rowP_G {K : PySem.W.Frag} {H : Hp} {r : Addr} {ps : List (Str × Str)} (h : RowP K H r ps) : RowG K H r (ps.map dPair) := h
def spLPairs (K : PySem.W.Frag) : Sp := fun vs H Q _ => ∃ (a : Addr) (n : Nat), vs = [.ref a] ∧ NmA K H a n ∧ ∀ H' r, Same H H' → H r = none → RowP K H' r (PM n n) → Q (.ref r) H'
theorem c__law_pairs (T : Tx K mg) : Cl P w K mg base CX0 1 "_law_pairs" (spLPairs K) := by
  refine cl0 T.d__law_pairs (ps := ["names"]) (fun _ _ _ _ _ _ us hl => match us, hl with | [_], _ => rfl) sc__law_pairs (fun vs H Q E h => ?_) (fun f cdv A outer st H vs Q E hr h => ?_)
  · obtain ⟨a, n, rfl, _⟩ := h
    rfl
  · obtain ⟨tn, n, rfl, ⟨hN, h2, h4⟩, q⟩ := h
    have nd := sc__law_pairs.nd
    refine ⟨_, (pss_cons (ps_set (i := 1) nd rfl (.inl rfl) (pe_lst pa_nil))
    (pss_cons (ps_for PassesOwn.never rfl (pi_range1 (by rfl) T.b_range (pa_cons (pe_lenS (by rfl) T.b_len (pv 0)) pa_nil)) (pg_name (i := 2) nd rfl (.inr rfl))
    (pss_one (ps_set (i := 1) nd rfl (.inl rfl) (pe_op op_cat (pv 1) (pe_lc (own := [("other", 3)]) (g := (gName 3)) (tt := tYes) (by rfl) nd (pi_tup (pe_slice sl_tupA (pv 0) (po_some (pe_op op_add (pv 2) pe_int)) po_none)) (blkOk_by (own := [("other", 3)]) (N := ["names", "found", "k", "other"]) (sc := defScope s__law_pairs) (by decide +kernel)) (fun _ _ _ _ _ => (pg_name (i := 3) nd rfl (by first | exact Or.inl rfl | exact Or.inr rfl))) (fun _ _ _ _ _ => pts_nil) (fun _ _ _ _ _ => (pe_tup (pa_cons (pe_ix (ixk_tup (K := K) rfl) (pv 0) (pv 2) (fun _ _ => rfl)) (pa_cons (pv 3) pa_nil)))))))))
    (pss_one (ps_ret (pv 1))))), ?_⟩
    have n6 : n ≤ 6 := by omega
    have hl : ((ML.take n).map V.str).length = n := by rw [List.length_map, ml_len n6]
    refine ⟨Nat.zero_le _, fun D hD => upd_gen hD fun H4 s4 e4 => ?_⟩
    have hN4 := (Tk.of s4).sqT hN
    refine ⟨_, rfl, tn, _, rfl, .inr hN4, n, by rw [hl], by omega, by omega, ?_⟩
    refine for_range (lo := 0) (n := n) (fun k σ H2 => ∃ (D : Addr) (y4 y5 : Option V), σ = [some (.ref tn), some (.ref D), y4, y5] ∧ Same H H2 ∧ H D = none ∧ RowP K H2 D (PM n k))
      ⟨D, none, none, rfl, s4, hD, [], e4, .nil⟩ (fun k σ H5 hk ⟨D, y4, y5, eσ, s5, nD, hD5⟩ => ?_) (fun σ H5 ⟨D, y4, y5, eσ, s5, nD, hD5⟩ => ?_)
    · subst eσ
      have hN5 := (Tk.of s5).sqT hN
      rw [Int.zero_add]
      refine ⟨_, rfl, _, rfl, _, rfl, _, _, rfl, rfl, ((k + 1 : Nat) : Int), rfl, ?_⟩
      refine noPart ?_
      refine sl_suf hN5 fun H7 u s7 hU => ⟨u, rfl, ⟨_, hU⟩, fun E hE => ?_⟩
      rw [← List.map_drop] at hU
      have hlu : (((ML.take n).drop (k + 1)).map V.str).length = n - (k + 1) := by rw [List.length_map, List.length_drop, ml_len n6]
      refine lc_it (walk_tup (xs := ((ML.take n).drop (k + 1)).map V.str)) (fun j H' => ∃ ys, H' E = some (.lst ys) ∧ DpAll K H' ys (((fM n k).take j).map dPair) ∧ Same H7 H') ⟨[], upd_same, .nil, same_upd hE⟩ (fun _ _ _ ⟨_, _, _, s'⟩ => (Tk.of s').sqT hU) (fun j x H8o H8 hj ⟨ys, eE, hY, s8⟩ hy => ?_) (fun H8 ⟨ys, eE, hY, s8⟩ => ?_)
      · obtain ⟨rfl, hx⟩ := hy
        obtain ⟨o, ho, rfl⟩ := str_at hx
        rw [hlu] at hj
        have hly := hY.len
        rw [List.length_map, List.length_take] at hly
        have ex : (fM n k).take (j + 1) = (fM n k).take j ++ [(nmM k, o)] := take_snoc (by unfold fM; rw [List.getElem?_map, ho]; rfl)
        refine ⟨rfl, yes_ ⟨_, rfl, _, rfl, _, _, _, .str (nmM k), rfl, rfl, (Tk.of (s7.trans s8)).sqT hN5, at_of (j := k) rfl (ml_at n6 hk), _, rfl, two_sz, fun b nb => upd_gen nb fun H9 s9 e9 => ⟨_, s9 _ _ eE, small1000 (by omega), _, upd_same, ?_, same_put (s8.trans s9) hE⟩⟩⟩
        rw [ex, List.map_append]
        have tt : Tk H8 (upd H9 E (.lst (ys ++ [.ref b]))) := (Tk.of s9).lst (s9 _ _ eE)
        exact (DpAll.tk tt _ (flat_pairs _) hY).app (.cons (.tup ((Tk.refl.lst (s9 _ _ eE)).sqT (SqT.of e9)) (.cons (.str _) (.cons (.str _) .nil))) .nil)
      · have ek : (fM n k).take (((ML.take n).drop (k + 1)).map V.str).length = fM n k := List.take_of_length_le (by unfold fM; rw [List.length_map, List.length_map]; exact Nat.le_refl _)
        rw [ek] at hY
        have lp : (PM n k).length ≤ 36 := PM_len n6 (by omega)
        refine rowCatP (hD5.same (s7.trans s8)) ⟨ys, eE, hY⟩ (by have := fM_len (n := n) (k := k); omega) fun H10 p s10 np h10 => ?_
        refine ⟨p, _, _, rfl, ((s5.trans s7).trans s8).trans s10, fresh_of ((s5.trans s7).trans s8) np, ?_⟩
        rw [PM_succ]
        exact h10
    · subst eσ
      exact ⟨_, rfl, q H5 D s5 nD hD5⟩
def spLFields (K : PySem.W.Frag) : Sp := fun vs H Q _ => ∃ (a : Addr) (n : Nat), vs = [.ref a] ∧ NmA K H a n ∧ ∀ H' r, Same H H' → H r = none → RowG K H' r ((FA n).map dField) → Q (.ref r) H'
theorem c__law_fields (T : Tx K mg) : Cl P w K mg base CX0 2 "_law_fields" (spLFields K) := by
  refine cl0 T.d__law_fields (ps := ["names"]) (fun _ _ _ _ _ _ us hl => match us, hl with | [_], _ => rfl) sc__law_fields (fun vs H Q E h => ?_) (fun f cdv A outer st H vs Q E hr h => ?_)
  · obtain ⟨a, n, rfl, _⟩ := h
    rfl
  · obtain ⟨tn, n, rfl, hN, q⟩ := h
    have nd := sc__law_fields.nd
    have hu := u65 hr
    refine ⟨_, (pss_cons (ps_set (i := 1) nd rfl (.inl rfl) (pe_lst (pa_cons (pe_tup pa_nil) pa_nil)))
    (pss_cons (ps_for PassesOwn.never rfl (pi_list (pe_k (c__law_pairs T) hr (by decide) (by rfl) (pa_cons (pv 0) pa_nil))) (pg_name (i := 2) nd rfl (.inr rfl))
    (pss_one (ps_set (i := 1) nd rfl (.inl rfl) (pe_op op_cat (pv 1) (pe_lc (own := [("pairs", 3)]) (g := (gName 3)) (tt := tYes) (by rfl) nd (pi_list (pv 1)) (blkOk_by (own := [("pairs", 3)]) (N := ["names", "found", "pair", "pairs"]) (sc := defScope s__law_fields) (by decide +kernel)) (fun _ _ _ _ _ => (pg_name (i := 3) nd rfl (by first | exact Or.inl rfl | exact Or.inr rfl))) (fun _ _ _ _ _ => pts_nil) (fun _ _ _ _ _ => (pe_op (op_catAk (K := K) rfl) (pv 3) (pe_tup (pa_cons (pv 2) pa_nil)))))))))
    (pss_one (ps_ret (pe_lc (own := [("pairs", 3)]) (g := (gName 3)) (tt := tYes) (by rfl) nd (pi_list (pe_callB (cr_sortedD (K := K) rfl hu) (by rfl) T.b_sorted (by decide +kernel) (pa_cons (pv 1) pa_nil))) (blkOk_by (own := [("pairs", 3)]) (N := ["names", "found", "pair", "pairs"]) (sc := defScope s__law_fields) (by decide +kernel)) (fun _ _ _ _ _ => (pg_name (i := 3) nd rfl (by first | exact Or.inl rfl | exact Or.inr rfl))) (fun _ _ _ _ _ => pts_nil) (fun _ _ _ _ _ => (pe_tup (pa_cons (pv 0) (pa_cons (pv 3) pa_nil))))))))), ?_⟩
    have hlen : (FA n).length ≤ 64 := fa_64 hN.2.1 hN.2.2
    have h6 := PM_6 hN.2.1 hN.2.2
    refine ⟨Nat.zero_le _, fun e0 ne0 => upd_gen ne0 fun H1 s1 e1 => ⟨one_sz, fun D hD => upd_gen hD fun H2 s2 e2 => ?_⟩⟩
    have s12 := s1.trans s2
    refine ⟨_, rfl, tn, n, rfl, hN.same s12, fun H3 r s3 n3 ⟨ps, eP, hP⟩ => ⟨r, rfl, ⟨_, SqL.of eP⟩, ?_⟩⟩
    have s13 := s12.trans s3
    have lps := hP.len
    rw [List.length_map] at lps
    refine for_it (walk_list (xs := ps)) (fun i σ H' => ∃ (D : Addr) (y2 y3 : Option V), σ = [some (.ref tn), some (.ref D), y2, y3] ∧ Same H3 H' ∧ RowG K H' D ((rowsL ((PM n n).take i)).map dRow))
      ⟨D, none, none, rfl, Same.refl _, _, s3 _ _ e2, .cons (.tup ((Tk.of (s2.trans s3)).sqT (SqT.of e1)) .nil) .nil⟩ (fun _ _ _ _ ⟨_, _, _, _, s', _⟩ => SqL.of (s' _ _ eP)) (fun i x σ H4o H4 hi ⟨D, y2, y3, eσ, s4, hD4⟩ hy => ?_) (fun σ H4 ⟨D, y2, y3, eσ, s4, hD4⟩ => ?_)
    · obtain ⟨rfl, hx⟩ := hy
      subst eσ
      obtain ⟨dd, g1, p1⟩ := hP.get hx
      rw [List.getElem?_map] at g1
      obtain ⟨pr, k1, rfl⟩ := Option.map_eq_some_iff.mp g1
      have p4 := Dp.sm s4 _ p1
      obtain ⟨xs, eD4, hX⟩ := id hD4
      have l64 := rows_64 (k := i) hN.2.1 hN.2.2
      have lxs := hX.len
      rw [List.length_map] at lxs
      refine ⟨_, rfl, _, rfl, D, rfl, ⟨_, SqL.of eD4⟩, fun E hE => ?_⟩
      refine lc_it (walk_list (xs := xs)) (fun j H' => RowG K H' E (((rowsL ((PM n n).take i)).take j).map fun r => dRow (r ++ [pr])) ∧ Same H4 H') ⟨⟨[], upd_same, .nil⟩, same_upd hE⟩ (fun _ _ _ ⟨_, s'⟩ => SqL.of (s' _ _ eD4)) (fun j x H5o H5 hj ⟨⟨ys, eE, hY⟩, s5⟩ hy => ?_) (fun H5 ⟨⟨ys, eE, hY⟩, s5⟩ => ?_)
      · obtain ⟨rfl, hx2⟩ := hy
        obtain ⟨dd2, g2, p2⟩ := hX.get hx2
        rw [List.getElem?_map] at g2
        obtain ⟨r0, k2, rfl⟩ := Option.map_eq_some_iff.mp g2
        have p2 := Dp.sm s5 _ p2
        have p5 := Dp.sm s5 _ p4
        cases p2 with
        | tup hS0 hA0 =>
        have lys := hY.len
        rw [List.length_map, List.length_take] at lys
        have l0 := hA0.len
        rw [List.length_map] at l0
        have lr0 := (rows_sub _ r0 (List.mem_of_getElem? k2)).length_le
        rw [List.length_take] at lr0
        refine ⟨rfl, yes_ ⟨_, rfl, _, rfl, one_sz, fun t nt => upd_gen nt fun H6 s6 e6 => ?_⟩⟩
        refine catA ((Tk.of s6).sqT hS0) (SqT.of e6) (Nat.le_of_lt (small1000 (by rw [List.length_singleton]; omega))) fun H7 p7 s7 h7 => ?_
        have s57 := s6.trans s7
        refine ⟨ys, s57 _ _ eE, small1000 (by omega), ⟨_, upd_same, ?_⟩, same_put (s5.trans s57) hE⟩
        have t8 : Tk H7 (upd H7 E (.lst (ys ++ [.ref p7]))) := Tk.refl.lst (s57 _ _ eE)
        have fl : ∀ l : List (List (Str × Str)), flatAll (l.map fun r => dRow (r ++ [pr])) = true := fun l => flatAll_of fun d hd => by
          obtain ⟨y, _, rfl⟩ := List.mem_map.mp hd
          exact flat_pairs _
        rw [take_snoc k2, List.map_append]
        refine (DpAll.tk ((Tk.of s57).trans t8) _ (fl _) hY).app (.cons (Dp.tk t8 _ (flat_pairs _) ?_) .nil)
        refine .tup h7 ?_
        rw [List.map_append]
        exact (DpAll.sm s57 _ hA0).app (.cons (Dp.sm s57 _ p5) .nil)
      · rw [show xs.length = (rowsL ((PM n n).take i)).length from lxs, List.take_length] at hY
        refine rowCatG (hD4.same s5) ⟨ys, eE, hY⟩ (by rw [List.length_map, List.length_map]; omega) fun H8 p8 s8 n8 h8 => ?_
        refine ⟨p8, _, _, rfl, (s4.trans s5).trans s8, ?_⟩
        rw [take_snoc k1, rowsL_snoc, List.map_append, List.map_map]
        exact h8
    · subst eσ
      rw [lps, List.take_length] at hD4
      obtain ⟨xs, eD4, hX⟩ := id hD4
      refine ⟨_, rfl, D, xs, _, rfl, .inl (SqL.of eD4), hX, sort_rows _, fun p zs np hZ => upd_gen np fun H5 s5 e5 => ⟨p, rfl, ⟨_, SqL.of e5⟩, fun E hE => ?_⟩⟩
      rw [afr_sort] at hZ
      have hZ5 := DpAll.sm s5 _ hZ
      have lz := hZ.len
      rw [List.length_map] at lz
      have s35 := s4.trans s5
      refine lc_it (walk_list (xs := zs)) (fun j H' => RowG K H' E ((((AFr n).take j).map fun r => (⟨ML.take n, r⟩ : Fld)).map dField) ∧ Same H5 H') ⟨⟨[], upd_same, .nil⟩, same_upd hE⟩ (fun _ _ _ ⟨_, s'⟩ => SqL.of (s' _ _ e5)) (fun j x H6o H6 hj ⟨⟨ys, eE, hY⟩, s6⟩ hy => ?_) (fun H6 ⟨⟨ys, eE, hY⟩, s6⟩ => ?_)
      · obtain ⟨rfl, hx⟩ := hy
        obtain ⟨dd, g1, p1⟩ := hZ5.get hx
        rw [List.getElem?_map] at g1
        obtain ⟨r0, k1, rfl⟩ := Option.map_eq_some_iff.mp g1
        have p1 := Dp.sm s6 _ p1
        have lys := hY.len
        rw [List.length_map, List.length_map, List.length_take] at lys
        have la : (AFr n).length ≤ 64 := by
          have := hlen
          unfold FA at this
          rwa [List.length_map] at this
        refine ⟨rfl, yes_ ⟨_, rfl, _, rfl, two_sz, fun t nt => upd_gen nt fun H7 s7 e7 => ⟨ys, s7 _ _ eE, small1000 (by omega), ⟨_, upd_same, ?_⟩, same_put (s6.trans s7) hE⟩⟩⟩
        have t8 : Tk H7 (upd H7 E (.lst (ys ++ [.ref t]))) := Tk.refl.lst (s7 _ _ eE)
        have fl : ∀ l : List Fld, flatAll (l.map dField) = true := fun l => flatAll_of fun d hd => by
          obtain ⟨y, _, rfl⟩ := List.mem_map.mp hd
          exact flat_field y
        rw [take_snoc k1, List.map_append, List.map_append]
        refine (DpAll.tk ((Tk.of s7).trans t8) _ (fl _) hY).app (.cons (Dp.tk t8 _ (flat_field _) ?_) .nil)
        exact .tup (SqT.of e7) (.cons (.tup ((Tk.of (s13.trans (s35.trans (s6.trans s7)))).sqT hN.1) (DpAll.strs _)) (.cons (Dp.sm s7 _ p1) .nil))
      · rw [lz, List.take_length] at hY
        exact q H6 E (s13.trans (s35.trans s6)) (fresh_of (s13.trans s35) hE) ⟨ys, eE, hY⟩
end
end XB
set_option Elab.async false
set_option linter.all false
set_option maxRecDepth 100000
set_option maxHeartbeats 4000000
namespace XB
open PySem PySem.Spec PyProof.Rows L2
section
variable {P : Program} {w : World} {K : PySem.W.Frag} {mg : Str → Option Value} {base : Heap}
theorem c_pairs_of (T : Tx K mg) : Cl P w K mg base CX0 1 "pairs_of" (spLPairs K) := by
  refine cl0 T.d_pairs_of (ps := ["names"]) (fun _ _ _ _ _ _ us hl => match us, hl with | [_], _ => rfl) sc_pairs_of (fun vs H Q E h => ?_) (fun f cdv A outer st H vs Q E hr h => ?_)
  · obtain ⟨a, n, rfl, _⟩ := h
    rfl
  · obtain ⟨tn, n, rfl, ⟨hN, h2, h4⟩, q⟩ := h
    have nd := sc_pairs_of.nd
    refine ⟨_, (pss_one (ps_ret (pe_lc2 (own := [("one", 1), ("other", 2)]) (vs1 := [2]) (g := (gName 1)) (tt := tYes) (g1 := (gName 2)) (tt1 := _) (by rfl) nd (pi_tupk (K := K) rfl (pv 0)) (blkOk_by (own := [("one", 1), ("other", 2)]) (N := ["names", "one", "other"]) (sc := defScope s_pairs_of) (by decide +kernel)) (by decide) (fun _ _ _ _ _ => (pg_name (i := 1) nd rfl (by first | exact Or.inl rfl | exact Or.inr rfl))) (fun _ _ _ _ _ => pts_nil) (fun _ _ _ _ _ => (pi_tupk (K := K) rfl (pv 0))) (fun _ _ _ _ _ => (pg_name (i := 2) nd rfl (by first | exact Or.inl rfl | exact Or.inr rfl))) (fun _ _ _ _ _ => pts_one (pt_cmpR op_lt_str (pv 1) (pv 2) (nomark _))) (fun _ _ _ _ _ => (pe_tup (pa_cons (pv 1) (pa_cons (pv 2) pa_nil))))))), ?_⟩
    have n6 : n ≤ 6 := by omega
    have hl : ((ML.take n).map V.str).length = n := by rw [List.length_map, ml_len n6]
    have lML : (ML.take n).length = n := ml_len n6
    have et : (ML.take n).take n = ML.take n := List.take_of_length_le (by omega)
    refine ⟨_, rfl, tn, rfl, ⟨_, hN⟩, fun D hD => ?_⟩
    refine lc2_out (walk_tup (xs := (ML.take n).map V.str)) (fun i H' => ∃ ps, RowP K H' D ps ∧ ps = ((ML.take n).take i).flatMap (fun a => ((ML.take n).filter fun b => sLt a b).map fun b => (a, b)) ∧ ps.length ≤ 6 * i ∧ Same H H') ⟨[], ⟨[], upd_same, .nil⟩, rfl, Nat.zero_le _, same_upd hD⟩ (fun _ _ _ ⟨_, _, _, _, s'⟩ => (Tk.of s').sqT hN) (fun i x H1o H1 hi ⟨ps, hP, eps, lps, s1⟩ hy => ?_) (fun H1 ⟨ps, hP, eps, lps, s1⟩ => ?_)
    · obtain ⟨rfl, hx⟩ := hy
      obtain ⟨a, ha, rfl⟩ := str_at hx
      rw [hl] at hi
      refine ⟨rfl, yes_ ⟨_, rfl, tn, rfl, ⟨_, (Tk.of s1).sqT hN⟩, ?_⟩⟩
      refine lc2_in (walk_tup (xs := (ML.take n).map V.str)) (fun j H' => ∃ qs, RowP K H' D (ps ++ qs) ∧ qs = (((ML.take n).take j).filter fun b => sLt a b).map (fun b => (a, b)) ∧ qs.length ≤ j ∧ Same H H') ⟨[], by rw [List.append_nil]; exact hP, rfl, Nat.zero_le _, s1⟩ (fun _ _ _ ⟨_, _, _, _, s'⟩ => (Tk.of s').sqT hN) (fun j x H2o H2 hj ⟨qs, hQ, eqs, lqs, s2⟩ hy => ?_) (fun H2 ⟨qs, hQ, eqs, lqs, s2⟩ => ?_)
      · obtain ⟨rfl, hx2⟩ := hy
        obtain ⟨b, hb, rfl⟩ := str_at hx2
        rw [hl] at hj
        refine ⟨rfl, _, rfl, _, rfl, _, _, rfl, rfl, _, rfl, ?_⟩
        obtain ⟨ys, eD, hY⟩ := id hQ
        have lys := hY.len
        rw [List.length_map, List.length_append] at lys
        refine ite2 (fun h => ?_) (fun h => ?_)
        · have h : sLt a b = true := h
          refine ⟨_, rfl, _, rfl, two_sz, fun t nt => upd_gen nt fun H3 s3 e3 => ⟨ys, s3 _ _ eD, small1000 (by omega), qs ++ [(a, b)], ⟨_, upd_same, ?_⟩, ?_, by rw [List.length_append, List.length_singleton]; omega, same_put (s2.trans s3) hD⟩⟩
          · have t4 : Tk H3 (upd H3 D (.lst (ys ++ [.ref t]))) := Tk.refl.lst (s3 _ _ eD)
            rw [← List.append_assoc, List.map_append]
            exact (DpAll.tk ((Tk.of s3).trans t4) _ (flat_pairs _) hY).app (.cons (.tup (t4.sqT (SqT.of e3)) (.cons (.str _) (.cons (.str _) .nil))) .nil)
          · rw [take_snoc hb, List.filter_append, List.map_append, ← eqs]
            simp [h]
        · have h : ¬ sLt a b = true := h
          refine ⟨qs, hQ, ?_, by omega, s2⟩
          rw [take_snoc hb, List.filter_append, List.map_append, ← eqs]
          simp [h]
      · rw [hl] at lqs
        have e2 : qs = ((ML.take n).filter fun b => sLt a b).map (fun b => (a, b)) := by
          rw [eqs, hl, et]
        refine ⟨ps ++ qs, hQ, ?_, by rw [List.length_append]; omega, s2⟩
        rw [take_snoc ha, List.flatMap_append, ← eps, e2]
        simp
    · rw [hl, et, pairs_of_eq h2 h4] at eps
      rw [eps] at hP
      exact q H1 D s1 hD hP
theorem c_all_fields (T : Tx K mg) : Cl P w K mg base CX0 2 "all_fields" (spLFields K) := by
  refine cl0 T.d_all_fields (ps := ["names"]) (fun _ _ _ _ _ _ us hl => match us, hl with | [_], _ => rfl) sc_all_fields (fun vs H Q E h => ?_) (fun f cdv A outer st H vs Q E hr h => ?_)
  · obtain ⟨a, n, rfl, _⟩ := h
    rfl
  · obtain ⟨tn, n, rfl, hN, q⟩ := h
    have nd := sc_all_fields.nd
    have hu := u65 hr
    refine ⟨_, (pss_cons (ps_set (i := 1) nd rfl (.inl rfl) (pe_lst (pa_cons (pe_tup pa_nil) pa_nil)))
    (pss_cons (ps_for PassesOwn.never rfl (pi_list (pe_k (c_pairs_of T) hr (by decide) (by rfl) (pa_cons (pv 0) pa_nil))) (pg_name (i := 2) nd rfl (.inr rfl))
    (pss_one (ps_set (i := 1) nd rfl (.inl rfl) (pe_op op_cat (pv 1) (pe_lc (own := [("row", 3)]) (g := (gName 3)) (tt := tYes) (by rfl) nd (pi_list (pv 1)) (blkOk_by (own := [("row", 3)]) (N := ["names", "rows", "pair", "row"]) (sc := defScope s_all_fields) (by decide +kernel)) (fun _ _ _ _ _ => (pg_name (i := 3) nd rfl (by first | exact Or.inl rfl | exact Or.inr rfl))) (fun _ _ _ _ _ => pts_nil) (fun _ _ _ _ _ => (pe_op (op_catAk (K := K) rfl) (pv 3) (pe_tup (pa_cons (pv 2) pa_nil)))))))))
    (pss_one (ps_ret (pe_lc (own := [("row", 3)]) (g := (gName 3)) (tt := tYes) (by rfl) nd (pi_list (pe_callB (cr_sortedD (K := K) rfl hu) (by rfl) T.b_sorted (by decide +kernel) (pa_cons (pv 1) pa_nil))) (blkOk_by (own := [("row", 3)]) (N := ["names", "rows", "pair", "row"]) (sc := defScope s_all_fields) (by decide +kernel)) (fun _ _ _ _ _ => (pg_name (i := 3) nd rfl (by first | exact Or.inl rfl | exact Or.inr rfl))) (fun _ _ _ _ _ => pts_nil) (fun _ _ _ _ _ => (pe_tup (pa_cons (pv 0) (pa_cons (pv 3) pa_nil))))))))), ?_⟩
    have hlen : (FA n).length ≤ 64 := fa_64 hN.2.1 hN.2.2
    have h6 := PM_6 hN.2.1 hN.2.2
    refine ⟨Nat.zero_le _, fun e0 ne0 => upd_gen ne0 fun H1 s1 e1 => ⟨one_sz, fun D hD => upd_gen hD fun H2 s2 e2 => ?_⟩⟩
    have s12 := s1.trans s2
    refine ⟨_, rfl, tn, n, rfl, hN.same s12, fun H3 r s3 n3 ⟨ps, eP, hP⟩ => ⟨r, rfl, ⟨_, SqL.of eP⟩, ?_⟩⟩
    have s13 := s12.trans s3
    have lps := hP.len
    rw [List.length_map] at lps
    refine for_it (walk_list (xs := ps)) (fun i σ H' => ∃ (D : Addr) (y2 y3 : Option V), σ = [some (.ref tn), some (.ref D), y2, y3] ∧ Same H3 H' ∧ RowG K H' D ((rowsL ((PM n n).take i)).map dRow))
      ⟨D, none, none, rfl, Same.refl _, _, s3 _ _ e2, .cons (.tup ((Tk.of (s2.trans s3)).sqT (SqT.of e1)) .nil) .nil⟩ (fun _ _ _ _ ⟨_, _, _, _, s', _⟩ => SqL.of (s' _ _ eP)) (fun i x σ H4o H4 hi ⟨D, y2, y3, eσ, s4, hD4⟩ hy => ?_) (fun σ H4 ⟨D, y2, y3, eσ, s4, hD4⟩ => ?_)
    · obtain ⟨rfl, hx⟩ := hy
      subst eσ
      obtain ⟨dd, g1, p1⟩ := hP.get hx
      rw [List.getElem?_map] at g1
      obtain ⟨pr, k1, rfl⟩ := Option.map_eq_some_iff.mp g1
      have p4 := Dp.sm s4 _ p1
      obtain ⟨xs, eD4, hX⟩ := id hD4
      have l64 := rows_64 (k := i) hN.2.1 hN.2.2
      have lxs := hX.len
      rw [List.length_map] at lxs
      refine ⟨_, rfl, _, rfl, D, rfl, ⟨_, SqL.of eD4⟩, fun E hE => ?_⟩
      refine lc_it (walk_list (xs := xs)) (fun j H' => RowG K H' E (((rowsL ((PM n n).take i)).take j).map fun r => dRow (r ++ [pr])) ∧ Same H4 H') ⟨⟨[], upd_same, .nil⟩, same_upd hE⟩ (fun _ _ _ ⟨_, s'⟩ => SqL.of (s' _ _ eD4)) (fun j x H5o H5 hj ⟨⟨ys, eE, hY⟩, s5⟩ hy => ?_) (fun H5 ⟨⟨ys, eE, hY⟩, s5⟩ => ?_)
      · obtain ⟨rfl, hx2⟩ := hy
        obtain ⟨dd2, g2, p2⟩ := hX.get hx2
        rw [List.getElem?_map] at g2
        obtain ⟨r0, k2, rfl⟩ := Option.map_eq_some_iff.mp g2
        have p2 := Dp.sm s5 _ p2
        have p5 := Dp.sm s5 _ p4
        cases p2 with
        | tup hS0 hA0 =>
        have lys := hY.len
        rw [List.length_map, List.length_take] at lys
        have l0 := hA0.len
        rw [List.length_map] at l0
        have lr0 := (rows_sub _ r0 (List.mem_of_getElem? k2)).length_le
        rw [List.length_take] at lr0
        refine ⟨rfl, yes_ ⟨_, rfl, _, rfl, one_sz, fun t nt => upd_gen nt fun H6 s6 e6 => ?_⟩⟩
        refine catA ((Tk.of s6).sqT hS0) (SqT.of e6) (Nat.le_of_lt (small1000 (by rw [List.length_singleton]; omega))) fun H7 p7 s7 h7 => ?_
        have s57 := s6.trans s7
        refine ⟨ys, s57 _ _ eE, small1000 (by omega), ⟨_, upd_same, ?_⟩, same_put (s5.trans s57) hE⟩
        have t8 : Tk H7 (upd H7 E (.lst (ys ++ [.ref p7]))) := Tk.refl.lst (s57 _ _ eE)
        have fl : ∀ l : List (List (Str × Str)), flatAll (l.map fun r => dRow (r ++ [pr])) = true := fun l => flatAll_of fun d hd => by
          obtain ⟨y, _, rfl⟩ := List.mem_map.mp hd
          exact flat_pairs _
        rw [take_snoc k2, List.map_append]
        refine (DpAll.tk ((Tk.of s57).trans t8) _ (fl _) hY).app (.cons (Dp.tk t8 _ (flat_pairs _) ?_) .nil)
        refine .tup h7 ?_
        rw [List.map_append]
        exact (DpAll.sm s57 _ hA0).app (.cons (Dp.sm s57 _ p5) .nil)
      · rw [show xs.length = (rowsL ((PM n n).take i)).length from lxs, List.take_length] at hY
        refine rowCatG (hD4.same s5) ⟨ys, eE, hY⟩ (by rw [List.length_map, List.length_map]; omega) fun H8 p8 s8 n8 h8 => ?_
        refine ⟨p8, _, _, rfl, (s4.trans s5).trans s8, ?_⟩
        rw [take_snoc k1, rowsL_snoc, List.map_append, List.map_map]
        exact h8
    · subst eσ
      rw [lps, List.take_length] at hD4
      obtain ⟨xs, eD4, hX⟩ := id hD4
      refine ⟨_, rfl, D, xs, _, rfl, .inl (SqL.of eD4), hX, sort_rows _, fun p zs np hZ => upd_gen np fun H5 s5 e5 => ⟨p, rfl, ⟨_, SqL.of e5⟩, fun E hE => ?_⟩⟩
      rw [afr_sort] at hZ
      have hZ5 := DpAll.sm s5 _ hZ
      have lz := hZ.len
      rw [List.length_map] at lz
      have s35 := s4.trans s5
      refine lc_it (walk_list (xs := zs)) (fun j H' => RowG K H' E ((((AFr n).take j).map fun r => (⟨ML.take n, r⟩ : Fld)).map dField) ∧ Same H5 H') ⟨⟨[], upd_same, .nil⟩, same_upd hE⟩ (fun _ _ _ ⟨_, s'⟩ => SqL.of (s' _ _ e5)) (fun j x H6o H6 hj ⟨⟨ys, eE, hY⟩, s6⟩ hy => ?_) (fun H6 ⟨⟨ys, eE, hY⟩, s6⟩ => ?_)
      · obtain ⟨rfl, hx⟩ := hy
        obtain ⟨dd, g1, p1⟩ := hZ5.get hx
        rw [List.getElem?_map] at g1
        obtain ⟨r0, k1, rfl⟩ := Option.map_eq_some_iff.mp g1
        have p1 := Dp.sm s6 _ p1
        have lys := hY.len
        rw [List.length_map, List.length_map, List.length_take] at lys
        have la : (AFr n).length ≤ 64 := by
          have := hlen
          unfold FA at this
          rwa [List.length_map] at this
        refine ⟨rfl, yes_ ⟨_, rfl, _, rfl, two_sz, fun t nt => upd_gen nt fun H7 s7 e7 => ⟨ys, s7 _ _ eE, small1000 (by omega), ⟨_, upd_same, ?_⟩, same_put (s6.trans s7) hE⟩⟩⟩
        have t8 : Tk H7 (upd H7 E (.lst (ys ++ [.ref t]))) := Tk.refl.lst (s7 _ _ eE)
        have fl : ∀ l : List Fld, flatAll (l.map dField) = true := fun l => flatAll_of fun d hd => by
          obtain ⟨y, _, rfl⟩ := List.mem_map.mp hd
          exact flat_field y
        rw [take_snoc k1, List.map_append, List.map_append]
        refine (DpAll.tk ((Tk.of s7).trans t8) _ (fl _) hY).app (.cons (Dp.tk t8 _ (flat_field _) ?_) .nil)
        exact .tup (SqT.of e7) (.cons (.tup ((Tk.of (s13.trans (s35.trans (s6.trans s7)))).sqT hN.1) (DpAll.strs _)) (.cons (Dp.sm s7 _ p1) .nil))
      · rw [lz, List.take_length] at hY
        exact q H6 E (s13.trans (s35.trans s6)) (fresh_of (s13.trans s35) hE) ⟨ys, eE, hY⟩
end
end XB
set_option Elab.async false
set_option linter.all false
set_option maxRecDepth 100000
set_option maxHeartbeats 4000000
namespace XB
open PySem PySem.Spec PyProof.Rows L2
abbrev Clm := (List (Str × Int)) × (List (Str × Int)) × Bool
def dClaim (c : Clm) : PyData := .tuple [dSteps c.1, dSteps c.2.1, .bool c.2.2]
def GoodS (n : Nat) (l : List (Str × Int)) : Prop := l.length ≤ 60 ∧ ∀ s ∈ l, s.1 ∈ ML.take n ∧ GoodTimes s.2
def GoodC (n : Nat) (c : Clm) : Prop := GoodS n c.1 ∧ GoodS n c.2.1
def ClA (K : PySem.W.Frag) (H : Hp) (a : Addr) (n : Nat) (cs : List Clm) : Prop := Dp K H (.ref a) (.tuple (cs.map dClaim)) ∧ (∀ c ∈ cs, GoodC n c) ∧ cs.length ≤ 12
theorem ClA.same {K : PySem.W.Frag} {H H' : Hp} {a : Addr} {n : Nat} {cs : List Clm} (h : ClA K H a n cs) (s : Same H H') : ClA K H' a n cs := ⟨Dp.sm s _ h.1, h.2⟩
theorem goodS_F {n : Nat} {F : Fld} {l : List (Str × Int)} (e : F.names = ML.take n) (h : GoodS n l) : GoodScript F l := ⟨h.1, fun s hs => by rw [e]; exact h.2 s hs⟩
theorem tup_of {K : PySem.W.Frag} {H : Hp} {v : V} {ds : List PyData} (h : Dp K H v (.tuple ds)) : ∃ a xs, v = .ref a ∧ SqT K H a xs ∧ DpAll K H xs ds := by
  cases h with
  | tup h1 h2 => exact ⟨_, _, rfl, h1, h2⟩
theorem claim_of {K : PySem.W.Frag} {H : Hp} {v : V} {c : Clm} (h : Dp K H v (dClaim c)) : ∃ a p q, v = .ref a ∧ SqT K H a [.ref p, .ref q, .bl c.2.2] ∧ Dp K H (.ref p) (dSteps c.1) ∧ Dp K H (.ref q) (dSteps c.2.1) := by
  obtain ⟨a, xs, rfl, hS, hA⟩ := tup_of h
  cases hA with
  | cons h1 hA =>
  cases hA with
  | cons h2 hA =>
  cases hA with
  | cons h3 hA =>
  cases hA
  cases h3
  obtain ⟨p, _, rfl, _⟩ := id h1.steps
  obtain ⟨q, _, rfl, _⟩ := id h2.steps
  exact ⟨a, p, q, rfl, hS, h1, h2⟩
section
variable {P : Program} {w : World} {K : PySem.W.Frag} {mg : Str → Option Value} {base : Heap}
def spNeedNames (K : PySem.W.Frag) : Sp := fun vs H Q _ => ∃ (a : Addr) (n : Nat), vs = [.ref a] ∧ NmA K H a n ∧ ∀ H', Same H H' → Q (.ref a) H'
theorem c_need_names (T : Tx K mg) : Cl P w K mg base CX0 3 "need_names" (spNeedNames K) := by
  refine cl0 T.d_need_names (ps := ["names"]) (fun _ _ _ _ _ _ us hl => match us, hl with | [_], _ => rfl) sc_need_names (fun vs H Q E h => ?_) (fun f cdv A outer st H vs Q E hr h => ?_)
  · obtain ⟨a, n, rfl, _⟩ := h
    rfl
  · obtain ⟨a, n, rfl, hN, q⟩ := h
    have nd := sc_need_names.nd
    obtain ⟨tk, hMN⟩ := T.g_MOST_NAMES_TOLD
    refine ⟨_, (pss_cons (ps_if (pt_not (pt_val (pe_k (c_are_names T) hr (by decide) (by rfl) (pa_cons (pv 0) pa_nil)))) pss_never pss_nil)
    (pss_cons (ps_if (pt_cmpR op_gt (pe_lenS (by rfl) T.b_len (pv 0)) (pe_glob (v := .int 4) (by rfl) hMN ⟨_, rfl⟩) (nomark _)) pss_never pss_nil)
    (pss_one (ps_ret (pv 0))))), ?_⟩
    have n2 := hN.2.1
    have n4 := hN.2.2
    have ok : (Fld.mk (ML.take n) []).Ok := fld_okM (by omega) (by omega) (List.nil_sublist _)
    have lML : (ML.take n).length = n := ml_len (by omega)
    refine ⟨_, rfl, a, _, rfl, hN.1, ok.n0, ok.n6, ok.sgn, ok.asN, fun H1 s1 => ⟨_, rfl, iteF ?_⟩⟩
    refine ⟨_, rfl, a, _, rfl, .inr ((Tk.of s1).sqT hN.1), _, _, rfl, rfl, _, rfl, ?_⟩
    rw [show decide ((4 : Int) < (((ML.take n).map V.str).length : Int)) = false from decide_eq_false (by rw [List.length_map, lML]; omega)]
    exact iteF ⟨_, rfl, q H1 s1⟩
def spAreGreat (K : PySem.W.Frag) : Sp := fun vs H Q _ => ∃ (a p : Addr) (n : Nat) (l : List (Str × Int)), vs = [.ref a, .ref p, .int 60] ∧ NmA K H a n ∧ Dp K H (.ref p) (dSteps l) ∧ GoodS n l ∧ ∀ H', Same H H' → Q (.bl true) H'
theorem c_are_great_steps (T : Tx K mg) : Cl P w K mg base CX0 3 "are_great_steps" (spAreGreat K) := by
  refine cl0 T.d_are_great_steps (ps := ["names", "value", "most"]) (fun _ _ _ _ _ _ us hl => match us, hl with | [_, _, _], _ => rfl) sc_are_great_steps (fun vs H Q E h => ?_) (fun f cdv A outer st H vs Q E hr h => ?_)
  · obtain ⟨a, p, n, l, rfl, _⟩ := h
    rfl
  · obtain ⟨a, p, n, l, rfl, hN, hL, gl, q⟩ := h
    have nd := sc_are_great_steps.nd
    refine ⟨_, pss_cons (ps_if (PW.pt (pw_or (pt_not (pt_val (pe_isT "tuple" (by rfl) T.b_isinstance (by rfl) T.b_tuple (by decide +kernel) (pv 1)))) (pw_or1 (pt_cmpR op_gt (pe_lenS (by rfl) T.b_len (pv 1)) (pv 2) (nomark _))))) (pss_one (ps_ret pe_bl)) pss_nil)
      (pss_one (ps_ret (pe_callB (cr_all rfl) (by rfl) T.b_all (by decide +kernel) (pa_cons (pe_lc (own := [("item", 3)]) (g := gName 3) (tt := tYes) (by rfl) nd (pi_tup (pv 1))
        (blkOk_by (own := [("item", 3)]) (N := ["names", "value", "most", "item"]) (sc := defScope s_are_great_steps) (by decide +kernel)) (fun _ _ _ _ _ => pg_name (i := 3) nd rfl (Or.inl rfl)) (fun _ _ _ _ _ => pts_nil) (fun _ _ _ _ _ => pe_k (c_is_great_step T) hr (by decide) (by rfl) (pa_cons (pv 0) (pa_cons (pv 3) pa_nil)))) pa_nil)))), ?_⟩
    obtain ⟨_, ys, e, hS, hV⟩ := hL.steps
    cases e
    have lv := hV.len
    rw [List.length_map] at lv
    have l60 := gl.1
    refine ⟨_, rfl, _, _, _, _, _, rfl, .ty _, tyx_tup hS, kit_ty (r := true) (by decide +kernel), _, rfl, iteF ?_⟩
    refine ⟨_, rfl, p, _, rfl, .inr hS, _, rfl, _, _, rfl, rfl, _, rfl, ?_⟩
    rw [show decide ((60 : Int) < (ys.length : Int)) = false from decide_eq_false (by omega)]
    refine iteF ⟨_, rfl, p, rfl, ⟨_, hS⟩, fun D hD => ?_⟩
    refine lc_it (walk_tup (xs := ys)) (fun i H' => H' D = some (.lst (List.replicate i (V.bl true))) ∧ Same H H') ⟨upd_same, same_upd hD⟩ (fun _ _ _ ⟨_, s'⟩ => (Tk.of s').sqT hS) (fun i x H2o H2 hi ⟨eD, s'⟩ hy => ?_) (fun H2 ⟨eD, s'⟩ => ?_)
    · obtain ⟨rfl, hx⟩ := hy
      obtain ⟨dd, g1, p1⟩ := hV.get hx
      rw [List.getElem?_map] at g1
      obtain ⟨s, k1, rfl⟩ := Option.map_eq_some_iff.mp g1
      obtain ⟨b, rfl, cb⟩ := p1.step
      have gs := gl.2 s (List.mem_of_getElem? k1)
      refine ⟨rfl, yes_ ⟨_, rfl, _, rfl, a, b, _, s, rfl, (Tk.of s').sqT hN.1, (Tk.of s').sqT cb, gs.1, gs.2.1, _, eD, ?_, ?_, same_put s' hD⟩⟩
      · rw [List.length_replicate]
        exact small1000 (by omega)
      · rw [upd_same, List.replicate_succ']
    · refine ⟨D, List.replicate _ true, rfl, SqL.of (by rw [map_rep]; exact eD), ?_⟩
      rw [all_true]
      exact q H2 s'
def spIsScript (K : PySem.W.Frag) : Sp := fun vs H Q _ => ∃ (a p : Addr) (n : Nat) (l : List (Str × Int)), vs = [.ref a, .ref p] ∧ NmA K H a n ∧ Dp K H (.ref p) (dSteps l) ∧ GoodS n l ∧ ∀ H', Same H H' → Q (.bl true) H'
theorem c_is_script (T : Tx K mg) : Cl P w K mg base CX0 4 "is_script" (spIsScript K) := by
  refine cl0 T.d_is_script (ps := ["names", "value"]) (fun _ _ _ _ _ _ us hl => match us, hl with | [_, _], _ => rfl) sc_is_script (fun vs H Q E h => ?_) (fun f cdv A outer st H vs Q E hr h => ?_)
  · obtain ⟨a, p, n, l, rfl, _⟩ := h
    rfl
  · obtain ⟨a, p, n, l, rfl, hN, hL, gl, q⟩ := h
    have nd := sc_is_script.nd
    obtain ⟨tk, hMS⟩ := T.g_MOST_STEPS
    refine ⟨_, (pss_one (ps_ret (pe_and (pe_k (c_are_great_steps T) hr (by decide) (by rfl) (pa_cons (pv 0) (pa_cons (pv 1) (pa_cons (pe_glob (v := .int 60) (by rfl) hMS ⟨_, rfl⟩) pa_nil))))
      (pe_one (pe_callB (cr_all rfl) (by rfl) T.b_all (by decide +kernel) (pa_cons (pe_lc (own := [("_", 2), ("times", 3)]) (g := gTup K 2 (gCons (gName 2) (gCons (gName 3) gNil))) (tt := tYes) (by rfl) nd (pi_tup (pv 1))
        (blkOk_by (own := [("_", 2), ("times", 3)]) (N := ["names", "value", "_", "times"]) (sc := defScope s_is_script) (by decide +kernel)) (fun _ _ _ _ _ => pg_tup rfl (pgs_cons (pg_name (i := 2) nd rfl (Or.inl rfl)) (pgs_cons (pg_name (i := 3) nd rfl (Or.inl rfl)) pgs_nil))) (fun _ _ _ _ _ => pts_nil) (fun _ _ _ _ _ => pe_k (c_is_times T) hr (by decide) (by rfl) (pa_cons (pv 3) pa_nil))) pa_nil)))))), ?_⟩
    obtain ⟨_, ys, e, hS, hV⟩ := id hL.steps
    cases e
    have lv := hV.len
    rw [List.length_map] at lv
    have l60 := gl.1
    refine ⟨_, rfl, _, rfl, a, p, n, l, rfl, hN, hL, gl, fun H1 s1 => ⟨_, rfl, iteT ?_⟩⟩
    refine ⟨_, rfl, p, rfl, ⟨_, (Tk.of s1).sqT hS⟩, fun D hD => ?_⟩
    refine lc_it (walk_tup (xs := ys)) (fun i H' => H' D = some (.lst (List.replicate i (V.bl true))) ∧ Same H1 H') ⟨upd_same, same_upd hD⟩ (fun _ _ _ ⟨_, s'⟩ => (Tk.of (s1.trans s')).sqT hS) (fun i x H2o H2 hi ⟨eD, s'⟩ hy => ?_) (fun H2 ⟨eD, s'⟩ => ?_)
    · obtain ⟨rfl, hx⟩ := hy
      obtain ⟨dd, g1, p1⟩ := hV.get hx
      rw [List.getElem?_map] at g1
      obtain ⟨s, k1, rfl⟩ := Option.map_eq_some_iff.mp g1
      obtain ⟨b, rfl, cb⟩ := p1.step
      have gs := gl.2 s (List.mem_of_getElem? k1)
      refine ⟨b, _, rfl, (Tk.of (s1.trans s')).sqT cb, rfl, _, _, rfl, _, _, rfl, rfl, rfl, yes_ ⟨_, rfl, s.2, rfl, gs.2, _, eD, ?_, ?_, same_put s' hD⟩⟩
      · rw [List.length_replicate]
        exact small1000 (by omega)
      · rw [upd_same, List.replicate_succ']
    · refine ⟨D, List.replicate _ true, rfl, SqL.of (by rw [map_rep]; exact eD), ?_⟩
      rw [all_true]
      exact q H2 (s1.trans s')
end
end XB
set_option Elab.async false
set_option linter.all false
set_option maxRecDepth 100000
set_option maxHeartbeats 4000000
namespace XB
open PySem PySem.Spec PyProof.Rows L2
/-- whether a claim holds -/
def holdsB (F : Fld) (c : Clm) : Bool := decide (XM.act (OF F) c.1 [] = XM.act (OF F) c.2.1 []) == c.2.2
section
variable {P : Program} {w : World} {K : PySem.W.Frag} {mg : Str → Option Value} {base : Heap}
def spIsClaim (K : PySem.W.Frag) : Sp := fun vs H Q _ => ∃ (a : Addr) (v : V) (n : Nat) (c : Clm), vs = [.ref a, v] ∧ NmA K H a n ∧ Dp K H v (dClaim c) ∧ GoodC n c ∧ ∀ H', Same H H' → Q (.bl true) H'
theorem c_is_claim (T : Tx K mg) : Cl P w K mg base CX0 5 "is_claim" (spIsClaim K) := by
  refine cl0 T.d_is_claim (ps := ["names", "value"]) (fun _ _ _ _ _ _ us hl => match us, hl with | [_, _], _ => rfl) sc_is_claim (fun vs H Q E h => ?_) (fun f cdv A outer st H vs Q E hr h => ?_)
  · obtain ⟨a, v, n, c, rfl, _⟩ := h
    rfl
  · obtain ⟨a, v, n, c, rfl, hN, hC, gc, q⟩ := h
    have nd := sc_is_claim.nd
    refine ⟨_, (pss_cons (ps_if (PW.pt (pw_or (pt_not (pt_val (pe_isT "tuple" (by rfl) T.b_isinstance (by rfl) T.b_tuple (by decide +kernel) (pv 1)))) (pw_or1 (pt_cmpR op_ne (pe_lenS (by rfl) T.b_len (pv 1)) pe_int (nomark _))))) (pss_one (ps_ret pe_bl)) pss_nil)
    (pss_cons (ps_asg (pv 1) (pg_tup rfl (pgs_cons (pg_name (i := 2) nd rfl (.inl rfl)) (pgs_cons (pg_name (i := 3) nd rfl (.inl rfl)) (pgs_cons (pg_name (i := 4) nd rfl (.inl rfl)) pgs_nil)))))
    (pss_one (ps_ret (pe_and (pe_k (c_is_script T) hr (by decide) (by rfl) (pa_cons (pv 0) (pa_cons (pv 2) pa_nil))) (pe_and (pe_k (c_is_script T) hr (by decide) (by rfl) (pa_cons (pv 0) (pa_cons (pv 3) pa_nil))) (pe_one (pe_isT "bool" (by rfl) T.b_isinstance (by rfl) T.b_bool (by decide +kernel) (pv 4))))))))), ?_⟩
    obtain ⟨b, p, r, rfl, hS, h1, h2⟩ := claim_of hC
    refine ⟨_, rfl, _, _, _, _, _, rfl, .ty _, tyx_tup hS, kit_ty (r := true) (by decide +kernel), _, rfl, iteF ?_⟩
    refine ⟨_, rfl, b, _, rfl, .inr hS, rfl, _, rfl, ?_⟩
    refine ite2 (fun h => absurd h (by show ¬(!decide (V.int 3 = V.int 3)) = true; decide)) (fun _ => ?_)
    refine ⟨_, rfl, b, _, rfl, hS, rfl, _, _, rfl, _, _, rfl, _, _, rfl, rfl, ?_⟩
    refine ⟨_, rfl, _, rfl, a, p, n, _, rfl, hN, h1, gc.1, fun H1 s1 => ⟨_, rfl, iteT ?_⟩⟩
    refine ⟨_, rfl, _, rfl, a, r, n, _, rfl, hN.same s1, Dp.sm s1 _ h2, gc.2, fun H2 s2 => ⟨_, rfl, iteT ?_⟩⟩
    exact ⟨_, rfl, _, _, _, _, _, rfl, .ty _, .base (.bl _), kit_ty (r := true) (by decide +kernel), q H2 (s1.trans s2)⟩
def spNeedClaims (K : PySem.W.Frag) : Sp := fun vs H Q _ => ∃ (a b : Addr) (n : Nat) (cs : List Clm), vs = [.ref a, .ref b] ∧ NmA K H a n ∧ ClA K H b n cs ∧ ∀ H', Same H H' → Q (.ref b) H'
theorem c_need_claims (T : Tx K mg) : Cl P w K mg base CX0 6 "need_claims" (spNeedClaims K) := by
  refine cl0 T.d_need_claims (ps := ["names", "claims"]) (fun _ _ _ _ _ _ us hl => match us, hl with | [_, _], _ => rfl) sc_need_claims (fun vs H Q E h => ?_) (fun f cdv A outer st H vs Q E hr h => ?_)
  · obtain ⟨a, b, n, cs, rfl, _⟩ := h
    rfl
  · obtain ⟨a, b, n, cs, rfl, hN, hC, q⟩ := h
    have nd := sc_need_claims.nd
    obtain ⟨tk, hMC⟩ := T.g_MOST_CLAIMS
    refine ⟨_, (pss_cons (ps_if (PW.pt (pw_or (pt_not (pt_val (pe_isT "tuple" (by rfl) T.b_isinstance (by rfl) T.b_tuple (by decide +kernel) (pv 1)))) (pw_or1 (pt_cmpR op_gt (pe_lenS (by rfl) T.b_len (pv 1)) (pe_glob (v := .int 12) (by rfl) hMC ⟨_, rfl⟩) (nomark _))))) pss_never pss_nil)
    (pss_cons (ps_for PassesOwn.never rfl (pi_enumT (by rfl) T.b_enumerate (pa_cons (pv 1) pa_nil)) (pg_tup rfl (pgs_cons (pg_name (i := 2) nd rfl (.inl rfl)) (pgs_cons (pg_name (i := 3) nd rfl (.inl rfl)) pgs_nil)))
    (pss_one (ps_if (pt_not (pt_val (pe_k (c_is_claim T) hr (by decide) (by rfl) (pa_cons (pv 0) (pa_cons (pv 3) pa_nil))))) pss_never pss_nil)))
    (pss_one (ps_ret (pv 1))))), ?_⟩
    obtain ⟨_, ys, e, hS, hV⟩ := tup_of hC.1
    cases e
    have lv := hV.len
    rw [List.length_map] at lv
    have l12 := hC.2.2
    refine ⟨_, rfl, _, _, _, _, _, rfl, .ty _, tyx_tup hS, kit_ty (r := true) (by decide +kernel), _, rfl, iteF ?_⟩
    refine ⟨_, rfl, b, _, rfl, .inr hS, _, _, rfl, rfl, _, rfl, ?_⟩
    rw [show decide ((12 : Int) < (ys.length : Int)) = false from decide_eq_false (by omega)]
    refine iteF ?_
    refine ⟨_, rfl, b, ys, rfl, hS, for_it (walk_IeT (xs := ys)) (fun i σ H2 => ∃ (y4 y5 : Option V), σ = [some (.ref a), some (.ref b), y4, y5] ∧ Same H H2)
      ⟨none, none, rfl, Same.refl _⟩ (fun i σ H2 _ ⟨y4, y5, _, s2⟩ => (Tk.of s2).sqT hS) (fun i x σ H2 H3 hi ⟨y4, y5, eσ, s2⟩ hy => ?_) (fun σ H2 ⟨y4, y5, eσ, s2⟩ => ?_)⟩
    · obtain ⟨Tt, x1, x2, rfl, nT, rfl, f1, f2⟩ := hy
      subst eσ
      obtain ⟨d', g1, p1⟩ := hV.get f2
      rw [List.getElem?_map] at g1
      obtain ⟨c, k1, rfl⟩ := Option.map_eq_some_iff.mp g1
      have s3 := same_new (o := .tup [x1, x2]) s2 nT
      refine ⟨Tt, _, rfl, SqT.of upd_same, rfl, _, _, rfl, _, _, rfl, rfl, ?_⟩
      refine ⟨_, rfl, _, rfl, a, x2, n, c, rfl, hN.same s3, Dp.sm s3 _ p1, hC.2.1 c (List.mem_of_getElem? k1), fun H4 s4 => ⟨_, rfl, iteF ?_⟩⟩
      exact ⟨_, _, rfl, s3.trans s4⟩
    · subst eσ
      exact ⟨_, rfl, q _ s2⟩
def spDoesHold (K : PySem.W.Frag) : Sp := fun vs H Q _ => ∃ (a : Addr) (v : V) (F : Fld) (n : Nat) (c : Clm), vs = [.ref a, v] ∧ Dp K H (.ref a) (dField F) ∧ F.Ok ∧ F.names = ML.take n ∧ Dp K H v (dClaim c) ∧ GoodC n c ∧ ∀ H', Same H H' → Q (.bl (holdsB F c)) H'
end
end XB
set_option Elab.async false
set_option linter.all false
set_option maxRecDepth 100000
set_option maxHeartbeats 4000000
namespace XB
open PySem PySem.Spec PyProof.Rows L2
section
variable {P : Program} {w : World} {K : PySem.W.Frag} {mg : Str → Option Value} {base : Heap}
theorem rev_dec (l m : List (Str × Int)) : decide (l.reverse = m.reverse) = decide (l = m) := decide_eq_decide.mpr List.reverse_inj
theorem bl_dec (a b : Bool) : decide (V.bl a = V.bl b) = (a == b) := dec_bl
theorem c_does_hold (T : Tx K mg) : Cl P w K mg base CX0 4 "does_hold" (spDoesHold K) := by
  refine cl0 T.d_does_hold (ps := ["field", "claim"]) (fun _ _ _ _ _ _ us hl => match us, hl with | [_, _], _ => rfl) sc_does_hold (fun vs H Q E h => ?_) (fun f cdv A outer st H vs Q E hr h => ?_)
  · obtain ⟨a, v, F, n, c, rfl, _⟩ := h
    rfl
  · obtain ⟨a, v, F, n, c, rfl, hF, ok, en, hC, gc, q⟩ := h
    have nd := sc_does_hold.nd
    refine ⟨_, (pss_cons (ps_asg (pv 1) (pg_tup rfl (pgs_cons (pg_name (i := 2) nd rfl (.inl rfl)) (pgs_cons (pg_name (i := 3) nd rfl (.inl rfl)) (pgs_cons (pg_name (i := 4) nd rfl (.inl rfl)) pgs_nil)))))
    (pss_cons (ps_set (i := 5) nd rfl (.inl rfl) (pe_k (c_touch_table T) hr (by decide) (by rfl) (pa_cons (pv 0) pa_nil)))
    (pss_one (ps_ret (pe_cmpR op_eq (pe_cmpR (op_eqD hr.units) (pe_k (c_piled T F) hr (by decide) (by rfl) (pa_cons (pv 5) (pa_cons (pv 2) pa_nil))) (pe_k (c_piled T F) hr (by decide) (by rfl) (pa_cons (pv 5) (pa_cons (pv 3) pa_nil))) (nomark _)) (pv 4) (nomark _)))))), ?_⟩
    obtain ⟨b, p, r, rfl, hS, h1, h2⟩ := claim_of hC
    obtain ⟨_, xs, e1, hxS, hxV⟩ := id h1.steps
    cases e1
    obtain ⟨_, ys, e2, hyS, hyV⟩ := id h2.steps
    cases e2
    have g1 := goodS_F en gc.1
    have g2 := goodS_F en gc.2
    have l1 := g1.1
    have l2 := g2.1
    refine ⟨_, rfl, b, _, rfl, hS, rfl, _, _, rfl, _, _, rfl, _, _, rfl, rfl, ?_⟩
    refine ⟨_, rfl, a, F, rfl, hF, ok, fun H1 t s1 n1 hT => ?_⟩
    refine ⟨_, rfl, _, rfl, t, _, xs, c.1, rfl, hT, ok, (Tk.of s1).sqT hxS, DpAll.sm s1 _ hxV, by omega, g1.names, fun H2 r1 s2 k1 => ?_⟩
    have s12 := s1.trans s2
    refine ⟨_, rfl, _, rfl, t, _, ys, c.2.1, rfl, hT.same s2, ok, (Tk.of s12).sqT hyS, DpAll.sm s12 _ hyV, by omega, g2.names, fun H3 r2 s3 k2 => ?_⟩
    refine ⟨_, _, Dp.sm s3 _ k1, k2, sh_dsteps (good_pile ok g1.names), sh_dsteps (good_pile ok g2.names), ?_⟩
    rw [eqv_steps, rev_dec]
    refine ⟨_, rfl, rfl, ?_⟩
    rw [bl_dec]
    exact q H3 (s12.trans s3)
/-- the fields in which all claims hold -/
def FH (n : Nat) (cs : List Clm) : List Fld := (FA n).filter fun F => cs.all (holdsB F)
def spFieldsOf (K : PySem.W.Frag) : Sp := fun vs H Q _ => ∃ (a b : Addr) (n : Nat) (cs : List Clm), vs = [.ref a, .ref b] ∧ NmA K H a n ∧ ClA K H b n cs ∧ ∀ H' r, Same H H' → Dp K H' (.ref r) (.tuple ((FH n cs).map dField)) → Q (.ref r) H'
theorem c_fields_of (T : Tx K mg) : Cl P w K mg base CX0 8 "fields_of" (spFieldsOf K) := by
  refine cl0 T.d_fields_of (ps := ["names", "claims"]) (fun _ _ _ _ _ _ us hl => match us, hl with | [_, _], _ => rfl) sc_fields_of (fun vs H Q E h => ?_) (fun f cdv A outer st H vs Q E hr h => ?_)
  · obtain ⟨a, b, n, cs, rfl, _⟩ := h
    rfl
  · obtain ⟨a, b, n, cs, rfl, hN, hC, q⟩ := h
    have nd := sc_fields_of.nd
    refine ⟨_, (pss_cons (ps_expr (pe_k (c_need_names T) hr (by decide) (by rfl) (pa_cons (pv 0) pa_nil)))
    (pss_cons (ps_expr (pe_k (c_need_claims T) hr (by decide) (by rfl) (pa_cons (pv 0) (pa_cons (pv 1) pa_nil))))
    (pss_one (ps_ret (pe_tupleOf (by rfl) T.b_tuple (pe_lc (own := [("field", 2)]) (g := (gName 2)) (tt := _) (by rfl) nd (pi_list (pe_k (c_all_fields T) hr (by decide) (by rfl) (pa_cons (pv 0) pa_nil))) (blkOk_by (own := [("field", 2)]) (N := ["names", "claims", "field", "claim"]) (sc := defScope s_fields_of) (by decide +kernel)) (fun _ _ _ _ _ => (pg_name (i := 2) nd rfl (by first | exact Or.inl rfl | exact Or.inr rfl))) (fun _ _ _ _ _ => pts_one (pt_val (pe_callB (cr_allk (K := K) rfl rfl) (by rfl) T.b_all (by decide +kernel) (pa_cons (pe_lc (own := [("claim", 3)]) (g := (gName 3)) (tt := tYes) (by rfl) nd (pi_tupk (K := K) rfl (pv 1)) (blkOk_by (own := [("claim", 3)]) (N := ["names", "claims", "field", "claim"]) (sc := _) (by rfl)) (fun _ _ _ _ _ => (pg_name (i := 3) nd rfl (by first | exact Or.inl rfl | exact Or.inr rfl))) (fun _ _ _ _ _ => pts_nil) (fun _ _ _ _ _ => (pe_k (c_does_hold T) hr (by decide) (by rfl) (pa_cons (pv 2) (pa_cons (pv 3) pa_nil))))) pa_nil)))) (fun _ _ _ _ _ => (pv 2)))))))), ?_⟩
    have n2 := hN.2.1
    have n4 := hN.2.2
    have l64 := fa_64 n2 n4
    refine ⟨_, rfl, a, n, rfl, hN, fun H1 s1 => ?_⟩
    refine ⟨_, rfl, _, rfl, a, b, n, cs, rfl, hN.same s1, hC.same s1, fun H2 s2 => ?_⟩
    have s12 := s1.trans s2
    refine ⟨_, rfl, a, n, rfl, hN.same s12, fun H3 r s3 n3 ⟨fs, eR, hR⟩ => ⟨r, rfl, ⟨_, SqL.of eR⟩, fun D hD => ?_⟩⟩
    have s13 := s12.trans s3
    have lfs := hR.len
    rw [List.length_map] at lfs
    obtain ⟨_, ys, ey, hyS, hyV⟩ := tup_of (hC.same s13).1
    cases ey
    have lys := hyV.len
    rw [List.length_map] at lys
    have l12 := hC.2.2
    refine lc_it (walk_list (xs := fs)) (fun j H' => RowG K H' D ((((FA n).take j).filter fun F => cs.all (holdsB F)).map dField) ∧ Same H3 H') ⟨⟨[], upd_same, .nil⟩, same_upd hD⟩ (fun _ _ _ ⟨_, s'⟩ => SqL.of (s' _ _ eR)) (fun j x H4o H4 hj ⟨hD4, s4⟩ hy => ?_) (fun H4 ⟨⟨xs, eD, hX⟩, s4⟩ => ?_)
    · obtain ⟨rfl, hx⟩ := hy
      obtain ⟨dd, g1, p1⟩ := hR.get hx
      rw [List.getElem?_map] at g1
      obtain ⟨F, k1, rfl⟩ := Option.map_eq_some_iff.mp g1
      have p1 := Dp.sm s4 _ p1
      obtain ⟨okF, enF⟩ := fa_ok (by omega) (by omega) F (List.mem_of_getElem? k1)
      obtain ⟨o, os, eo, _⟩ := tup_of p1
      subst eo
      refine ⟨rfl, _, rfl, b, rfl, ⟨_, (Tk.of s4).sqT hyS⟩, fun E hE => ?_⟩
      refine lc_it (walk_tup (xs := ys)) (fun i H' => H' E = some (.lst (((cs.take i).map (holdsB F)).map V.bl)) ∧ Same H4 H') ⟨upd_same, same_upd hE⟩ (fun _ _ _ ⟨_, s'⟩ => (Tk.of (s4.trans s')).sqT hyS) (fun i x H5o H5 hi ⟨eE, s5⟩ hy => ?_) (fun H5 ⟨eE, s5⟩ => ?_)
      · obtain ⟨rfl, hx2⟩ := hy
        obtain ⟨dd2, g2, p2⟩ := hyV.get hx2
        rw [List.getElem?_map] at g2
        obtain ⟨c, k2, rfl⟩ := Option.map_eq_some_iff.mp g2
        refine ⟨rfl, yes_ ⟨_, rfl, _, rfl, o, x, F, n, c, rfl, Dp.sm s5 _ p1, okF, enF, Dp.sm (s4.trans s5) _ p2, hC.2.1 c (List.mem_of_getElem? k2), fun H6 s6 => ⟨_, s6 _ _ eE, ?_, ?_, same_put (s5.trans s6) hE⟩⟩⟩
        · rw [List.length_map, List.length_map, List.length_take]
          exact small1000 (by omega)
        · rw [upd_same, take_snoc k2, List.map_append, List.map_append]
          rfl
      · rw [lys, List.take_length] at eE
        refine ⟨E, cs.map (holdsB F), rfl, SqL.of eE, _, rfl, ?_⟩
        have ea : (cs.map (holdsB F)).all id = cs.all (holdsB F) := by rw [List.all_map]; rfl
        rw [ea]
        have s45 := s4.trans s5
        rw [take_snoc k1, List.filter_append, List.map_append]
        obtain ⟨xs, eD, hX⟩ := hD4.same s5
        have lxs := hX.len
        have lf := List.length_filter_le (fun F => cs.all (holdsB F)) ((FA n).take j)
        rw [List.length_take] at lf
        rw [List.length_map] at lxs
        refine ite2 (fun h => ?_) (fun h => ?_)
        · refine ⟨_, rfl, xs, eD, small1000 (by omega), ⟨_, upd_same, ?_⟩, same_put s45 hD⟩
          have t8 : Tk H5 (upd H5 D (.lst (xs ++ [.ref o]))) := Tk.refl.lst eD
          have fl : ∀ l : List Fld, flatAll (l.map dField) = true := fun l => flatAll_of fun d hd => by
            obtain ⟨y, _, rfl⟩ := List.mem_map.mp hd
            exact flat_field y
          rw [show [F].filter (fun F => cs.all (holdsB F)) = [F] by simp [h]]
          exact (DpAll.tk t8 _ (fl _) hX).app (.cons (Dp.tk t8 _ (flat_field _) (Dp.sm s5 _ p1)) .nil)
        · refine ⟨⟨xs, eD, ?_⟩, s45⟩
          rw [show [F].filter (fun F => cs.all (holdsB F)) = [] by simp [h], List.map_nil, List.append_nil]
          exact hX
    · rw [lfs, List.take_length] at hX
      refine .inl ⟨D, xs, rfl, SqL.of eD, fun p np => upd_gen np fun H5 s5 e5 => ?_⟩
      exact q H5 p (s13.trans (s4.trans s5)) (.tup (SqT.of e5) (DpAll.sm s5 _ hX))
end
end XB
set_option Elab.async false
set_option linter.all false
set_option maxRecDepth 100000
set_option maxHeartbeats 4000000
namespace XB
open PySem PySem.Spec PyProof.Rows L2
section
variable {P : Program} {w : World} {K : PySem.W.Frag} {mg : Str → Option Value} {base : Heap}
theorem int_eq (a b : Nat) : decide (V.int (a : Int) = V.int (b : Int)) = decide (a = b) := decide_eq_decide.mpr ⟨fun h => by injection h with h; omega, fun h => by rw [h]⟩
theorem lay_pairs' {ps : List (Str × Str)} (h : ∀ p ∈ ps, GoodName p.1 ∧ GoodName p.2) : PyData.canLayAll0 (ps.map dPair) = true := by
  have := sh_pairs h
  have : (PyData.canLayAll0 (ps.map dPair) && decide (PyData.depthAll (ps.map dPair) + 1 ≤ 64)) = true := this
  rw [Bool.and_eq_true] at this
  exact this.1
theorem lay_names' : ∀ {l : List Str}, (∀ s ∈ l, GoodName s) → PyData.canLayAll0 (l.map PyData.str) = true
  | [], _ => rfl
  | s :: l, h => by
    rw [List.map_cons, PyData.canLayAll0, lay_names' fun x hx => h x (List.mem_cons_of_mem _ hx)]
    show (PyData.strOk s && true) = true
    rw [strOk_of (h s List.mem_cons_self)]
    rfl
theorem deep_names' : ∀ l : List Str, PyData.depthAll (l.map PyData.str) = 0
  | [] => rfl
  | s :: l => by
    show max (PyData.depth (.str s)) (PyData.depthAll (l.map PyData.str)) = 0
    rw [deep_names' l]
    rfl
theorem lay_field {F : Fld} (ok : F.Ok) : (dField F).canLay0 = true := by
  show PyData.canLay0 (.tuple [.tuple (F.names.map PyData.str), .tuple (F.pairs.map dPair)]) = true
  simp only [PyData.canLay0, PyData.canLayAll0, lay_names' ok.sgn, lay_pairs' ok.good, Bool.and_true]
theorem deep_field' (F : Fld) : (dField F).depth ≤ 4 := by
  show PyData.depth (.tuple [.tuple (F.names.map PyData.str), .tuple (F.pairs.map dPair)]) ≤ 4
  have := deep_pairs F.pairs
  have := deep_names' F.names
  simp only [PyData.depth, PyData.depthAll]
  omega
theorem lay_fields : ∀ {fs : List Fld}, (∀ F ∈ fs, F.Ok) → PyData.canLayAll0 (fs.map dField) = true
  | [], _ => rfl
  | F :: fs, h => by
    rw [List.map_cons, PyData.canLayAll0, lay_fields fun x hx => h x (List.mem_cons_of_mem _ hx), lay_field (h F List.mem_cons_self)]
    rfl
theorem deep_fields : ∀ fs : List Fld, PyData.depthAll (fs.map dField) ≤ 4
  | [] => by decide
  | F :: fs => by
    rw [List.map_cons, PyData.depthAll]
    have := deep_fields fs
    have := deep_field' F
    omega
theorem sh_fields {fs : List Fld} (h : ∀ F ∈ fs, F.Ok) : SeqAt.shaped (.tuple (fs.map dField)) = true := by
  have h2 := deep_fields fs
  show (PyData.canLayAll0 (fs.map dField) && decide (PyData.depthAll (fs.map dField) + 1 ≤ 64)) = true
  rw [lay_fields h, Bool.true_and]
  exact decide_eq_true (by omega)
/-- the word of a pair of names -/
def wordS (fs : List Fld) (p : Str × Str) : Str := if (fs.filter fun F => F.pairs.contains p).length = fs.length then "apart" else if 0 < (fs.filter fun F => F.pairs.contains p).length then "either" else "touch"
def spWordOf (K : PySem.W.Frag) : Sp := fun vs H Q _ => ∃ (a b : Addr) (fs : List Fld) (p : Str × Str), vs = [.ref a, .ref b] ∧ Dp K H (.ref a) (.tuple (fs.map dField)) ∧ Dp K H (.ref b) (dPair p) ∧ GoodName p.1 ∧ GoodName p.2 ∧ (∀ F ∈ fs, F.Ok) ∧ fs.length ≤ 64 ∧ ∀ H', Same H H' → Q (.str (wordS fs p)) H'
theorem c_word_of (T : Tx K mg) : Cl P w K mg base CX0 1 "word_of" (spWordOf K) := by
  refine cl0 T.d_word_of (ps := ["fields", "pair"]) (fun _ _ _ _ _ _ us hl => match us, hl with | [_, _], _ => rfl) sc_word_of (fun vs H Q E h => ?_) (fun f cdv A outer st H vs Q E hr h => ?_)
  · obtain ⟨a, b, fs, p, rfl, _⟩ := h
    rfl
  · obtain ⟨a, b, fs, p, rfl, hF, hP, gn1, gn2, okF, l64, q⟩ := h
    have nd := sc_word_of.nd
    have hu := u65 hr
    refine ⟨_, (pss_cons (ps_set (i := 2) nd rfl (.inl rfl) (pe_lenS (by rfl) T.b_len (pe_lc (own := [("_", 3), ("pairs", 4)]) (g := (gTup K 2 (gCons (gName 3) (gCons (gName 4) gNil)))) (tt := _) (by rfl) nd (pi_tup (pv 0)) (blkOk_by (own := [("_", 3), ("pairs", 4)]) (N := ["fields", "pair", "many", "_", "pairs"]) (sc := defScope s_word_of) (by decide +kernel)) (fun _ _ _ _ _ => (pg_tup rfl (pgs_cons (pg_name (i := 3) nd rfl (by first | exact Or.inl rfl | exact Or.inr rfl)) (pgs_cons (pg_name (i := 4) nd rfl (by first | exact Or.inl rfl | exact Or.inr rfl)) pgs_nil)))) (fun _ _ _ _ _ => pts_one (pt_cmpR (op_inDTk (K := K) rfl hu) (pv 1) (pv 4) (by rfl))) (fun _ _ _ _ _ => (pv 4)))))
    (pss_cons (ps_if (pt_cmpR op_eq (pv 2) (pe_lenS (by rfl) T.b_len (pv 0)) (nomark _)) (pss_one (ps_ret pe_str)) pss_nil)
    (pss_one (ps_ret (pe_ifExp (pt_cmpR op_gt (pv 2) pe_int (nomark _)) pe_str pe_str))))), ?_⟩
    obtain ⟨_, ys, ey, hyS, hyV⟩ := tup_of hF
    cases ey
    have lys := hyV.len
    rw [List.length_map] at lys
    refine ⟨_, rfl, a, rfl, ⟨_, hyS⟩, fun D hD => ?_⟩
    refine lc_it (walk_tup (xs := ys)) (fun j H' => ∃ xs, H' D = some (.lst xs) ∧ xs.length = ((fs.take j).filter fun F => F.pairs.contains p).length ∧ Same H H') ⟨[], upd_same, rfl, same_upd hD⟩ (fun _ _ _ ⟨_, _, _, s'⟩ => (Tk.of s').sqT hyS) (fun j x H1o H1 hj ⟨xs, eD, lx, s1⟩ hy => ?_) (fun H1 ⟨xs, eD, lx, s1⟩ => ?_)
    · obtain ⟨rfl, hx⟩ := hy
      obtain ⟨dd, g1, p1⟩ := hyV.get hx
      rw [List.getElem?_map] at g1
      obtain ⟨F, k1, rfl⟩ := Option.map_eq_some_iff.mp g1
      have mF := List.mem_of_getElem? k1
      have p1 := Dp.sm s1 _ p1
      obtain ⟨o, os, eo, _⟩ := tup_of p1
      subst eo
      obtain ⟨_, n', p', ps, e, hA, hN, hP', hDp⟩ := p1.field
      cases e
      have lf := List.length_filter_le (fun F : Fld => F.pairs.contains p) (fs.take j)
      rw [List.length_take] at lf
      refine ⟨o, _, rfl, hA, rfl, _, _, rfl, _, _, rfl, rfl, rfl, _, rfl, _, rfl, dPair p, F.pairs.map dPair, Dp.sm s1 _ hP, .tup hP' hDp, sh_pair gn1 gn2, sh_pairs (okF F mF).good, ?_⟩
      rw [show (F.pairs.map dPair).any (fun z => PyData.eqv z (dPair p)) = F.pairs.contains p from any_pairs F.pairs p.1 p.2]
      rw [take_snoc k1, List.filter_append, List.length_append]
      refine ⟨_, rfl, ite2 (fun h => ?_) (fun h => ?_)⟩
      · rw [show [F].filter (fun F => F.pairs.contains p) = [F] by simp only [List.filter_cons, h, if_true, List.filter_nil]]
        exact ⟨_, rfl, xs, eD, small1000 (by omega), _, upd_same, by rw [List.length_append, lx]; rfl, same_put s1 hD⟩
      · rw [show [F].filter (fun F => F.pairs.contains p) = [] by simp only [List.filter_cons, h, List.filter_nil]; rfl]
        exact ⟨xs, eD, lx, s1⟩
    · rw [lys, List.take_length] at lx
      refine ⟨D, xs, rfl, .inl (SqL.of eD), ?_⟩
      refine ⟨_, rfl, _, rfl, a, ys, rfl, .inr ((Tk.of s1).sqT hyS), rfl, _, rfl, ?_⟩
      have qq := q H1 s1
      unfold wordS at qq
      rw [lx, lys]
      refine ite2 (fun h => ?_) (fun h => ?_)
      · have h : decide (V.int ((((fs.filter fun F => F.pairs.contains p).length : Nat)) : Int) = V.int ((fs.length : Nat) : Int)) = true := h
        rw [int_eq, decide_eq_true_eq] at h
        rw [if_pos h] at qq
        exact qq
      · have h : ¬ decide (V.int ((((fs.filter fun F => F.pairs.contains p).length : Nat)) : Int) = V.int ((fs.length : Nat) : Int)) = true := h
        rw [int_eq, decide_eq_true_eq] at h
        rw [if_neg h] at qq
        refine ⟨_, rfl, _, _, rfl, rfl, _, rfl, ?_⟩
        refine ite2 (fun h2 => ?_) (fun h2 => ?_)
        · have h2 : (0 : Int) < (((fs.filter fun F => F.pairs.contains p).length : Nat) : Int) := of_decide_eq_true h2
          rw [if_pos (by omega)] at qq
          exact qq
        · have h2 : ¬ (0 : Int) < (((fs.filter fun F => F.pairs.contains p).length : Nat) : Int) := fun z => h2 (decide_eq_true z)
          rw [if_neg (by omega)] at qq
          exact qq
def dWord (fs : List Fld) (p : Str × Str) : PyData := .tuple [.str p.1, .str p.2, .str (wordS fs p)]
/-- what told_pairs tells -/
def dTold (n : Nat) (fs : List Fld) : PyData := if fs = [] then .none else .tuple ((PM n n).map (dWord fs))
theorem pm_good {n : Nat} (h2 : 2 ≤ n) (h4 : n ≤ 4) : ∀ p ∈ PM n n, GoodName p.1 ∧ GoodName p.2 := by
  have ok : (Fld.mk (ML.take n) (PM n n)).Ok := fld_okM (by omega) (by omega) (List.Sublist.refl _)
  exact ok.good
theorem flat_words (fs : List Fld) (l : List (Str × Str)) : flatAll (l.map (dWord fs)) = true := flatAll_of fun d hd => by
  obtain ⟨y, _, rfl⟩ := List.mem_map.mp hd
  rfl
def spToldPairs (K : PySem.W.Frag) : Sp := fun vs H Q _ => ∃ (a b : Addr) (n : Nat) (cs : List Clm), vs = [.ref a, .ref b] ∧ NmA K H a n ∧ ClA K H b n cs ∧ ∀ H' v, Same H H' → Dp K H' v (dTold n (FH n cs)) → Q v H'
theorem fh_ok {n : Nat} (h2 : 2 ≤ n) (h4 : n ≤ 4) (cs : List Clm) : ∀ F ∈ FH n cs, F.Ok := fun F hF => (fa_ok (by omega) (by omega) F (List.mem_filter.mp hF).1).1
theorem fh_64 {n : Nat} (h2 : 2 ≤ n) (h4 : n ≤ 4) (cs : List Clm) : (FH n cs).length ≤ 64 := Nat.le_trans (List.length_filter_le _ _) (fa_64 h2 h4)
theorem c_told_pairs (T : Tx K mg) : Cl P w K mg base CX0 9 "told_pairs" (spToldPairs K) := by
  refine cl0 T.d_told_pairs (ps := ["names", "claims"]) (fun _ _ _ _ _ _ us hl => match us, hl with | [_, _], _ => rfl) sc_told_pairs (fun vs H Q E h => ?_) (fun f cdv A outer st H vs Q E hr h => ?_)
  · obtain ⟨a, b, n, cs, rfl, _⟩ := h
    rfl
  · obtain ⟨a, b, n, cs, rfl, hN, hC, q⟩ := h
    have nd := sc_told_pairs.nd
    have n2 := hN.2.1
    have n4 := hN.2.2
    have okF := fh_ok n2 n4 cs
    have l64 := fh_64 n2 n4 cs
    refine ⟨_, (pss_cons (ps_set (i := 2) nd rfl (.inr rfl) (pe_k (c_fields_of T) hr (by decide) (by rfl) (pa_cons (pv 0) (pa_cons (pv 1) pa_nil))))
    (pss_cons (ps_if (pt_cmpR (op_eqD hr.units) (pv 2) (pe_tup pa_nil) (nomark _)) (pss_one (ps_ret pe_non)) pss_nil)
    (pss_one (ps_ret (pe_tupleOf (by rfl) T.b_tuple (pe_lc (own := [("pair", 3)]) (g := (gName 3)) (tt := tYes) (by rfl) nd (pi_list (pe_k (c_pairs_of T) hr (by decide) (by rfl) (pa_cons (pv 0) pa_nil))) (blkOk_by (own := [("pair", 3)]) (N := ["names", "claims", "fields", "pair"]) (sc := defScope s_told_pairs) (by decide +kernel)) (fun _ _ _ _ _ => (pg_name (i := 3) nd rfl (by first | exact Or.inl rfl | exact Or.inr rfl))) (fun _ _ _ _ _ => pts_nil) (fun _ _ _ _ _ => (pe_op (op_catAk (K := K) rfl) (pv 3) (pe_tup (pa_cons (pe_k (c_word_of T) hr (by decide) (by rfl) (pa_cons (pv 2) (pa_cons (pv 3) pa_nil))) pa_nil)))))))))), ?_⟩
    refine ⟨_, rfl, _, rfl, a, b, n, cs, rfl, hN, hC, fun H1 r s1 h1 => ?_⟩
    generalize hfs : FH n cs = fs at q okF l64 h1
    refine ⟨_, rfl, Nat.zero_le _, fun p0 np0 => upd_gen np0 fun H2 s2 e2 => ?_⟩
    have s12 := s1.trans s2
    refine ⟨_, .tuple [], Dp.sm s2 _ h1, .tup (SqT.of e2) .nil, sh_fields okF, rfl, ?_⟩
    have ee : PyData.eqv (.tuple (fs.map dField)) (.tuple []) = decide (fs = []) := by
      cases fs with
      | nil => rfl
      | cons x l => rfl
    rw [ee]
    refine ⟨_, rfl, ite2 (fun h => ?_) (fun h => ?_)⟩
    · have h := of_decide_eq_true h
      refine q H2 .non s12 ?_
      unfold dTold
      rw [if_pos h]
      exact .non
    · have h : fs ≠ [] := fun z => h (decide_eq_true z)
      have lpm := PM_6 n2 n4
      refine ⟨_, rfl, a, n, rfl, hN.same s12, fun H3 r3 s3 n3 ⟨ps, eP, hP⟩ => ⟨r3, rfl, ⟨_, SqL.of eP⟩, fun D hD => ?_⟩⟩
      have lps := hP.len
      rw [List.length_map] at lps
      refine lc_it (walk_list (xs := ps)) (fun j H' => RowG K H' D (((PM n n).take j).map (dWord fs)) ∧ Same H3 H') ⟨⟨[], upd_same, .nil⟩, same_upd hD⟩ (fun _ _ _ ⟨_, s'⟩ => SqL.of (s' _ _ eP)) (fun j x H4o H4 hj ⟨⟨xs, eD, hX⟩, s4⟩ hy => ?_) (fun H4 ⟨⟨xs, eD, hX⟩, s4⟩ => ?_)
      · obtain ⟨rfl, hx⟩ := hy
        obtain ⟨dd, g1, p1⟩ := hP.get hx
        rw [List.getElem?_map] at g1
        obtain ⟨pr, k1, rfl⟩ := Option.map_eq_some_iff.mp g1
        have gp := pm_good n2 n4 pr (List.mem_of_getElem? k1)
        have p1 := Dp.sm s4 _ p1
        obtain ⟨o, os, rfl, hoS, hoV⟩ := tup_of p1
        have los := hoV.len
        have lxs := hX.len
        rw [List.length_map, List.length_take] at lxs
        have s24 := s3.trans s4
        refine ⟨rfl, yes_ ⟨_, rfl, _, rfl, _, rfl, r, o, fs, pr, rfl, Dp.sm (s2.trans s24) _ h1, p1, gp.1, gp.2, okF, l64, fun H5 s5 => ⟨one_sz, fun t nt => upd_gen nt fun H6 s6 e6 => ?_⟩⟩⟩
        have s56 := s5.trans s6
        refine catA ((Tk.of s56).sqT hoS) (SqT.of e6) (Nat.le_of_lt (small1000 (by rw [List.length_singleton, los]; show 2 + 1 ≤ 1000; omega))) fun H7 p7 s7 h7 => ?_
        have s57 := s56.trans s7
        refine ⟨xs, s57 _ _ eD, small1000 (by omega), ⟨_, upd_same, ?_⟩, same_put (s4.trans s57) hD⟩
        have t8 : Tk H7 (upd H7 D (.lst (xs ++ [.ref p7]))) := Tk.refl.lst (s57 _ _ eD)
        rw [take_snoc k1, List.map_append]
        refine (DpAll.tk ((Tk.of s57).trans t8) _ (flat_words _ _) hX).app (.cons (Dp.tk t8 _ rfl ?_) .nil)
        exact .tup h7 ((DpAll.sm s57 _ hoV).app (.cons (.str _) .nil))
      · rw [lps, List.take_length] at hX
        refine .inl ⟨D, xs, rfl, SqL.of eD, fun p np => upd_gen np fun H5 s5 e5 => ?_⟩
        refine q H5 (.ref p) ((s12.trans s3).trans (s4.trans s5)) ?_
        unfold dTold
        rw [if_neg h]
        exact .tup (SqT.of e5) (DpAll.sm s5 _ hX)
end
end XB
set_option Elab.async false
set_option linter.all false
set_option maxRecDepth 100000
set_option maxHeartbeats 4000000
namespace XB
open PySem PySem.Spec PyProof.Rows L2
def iD (k : Nat) : PyData := .int (k : Nat)
def dI (l : List Nat) : PyData := .list (l.map iD)
def dN (l : List Nat) : PyData := .tuple (l.map iD)
def dQ (x : List Nat × List Nat) : PyData := .tuple [dN x.1, dI x.2]
/-- the number with which longer ones begin -/
def bgn (l : List Nat) : Nat := match l.getLast? with
  | some k => k + 1
  | none => 0
def longerL (hl : List (List Nat)) (x : List Nat × List Nat) : List (List Nat × List Nat) := (List.range' (bgn x.1) (hl.length - bgn x.1)).map fun k => (x.1 ++ [k], x.2.filter fun t => (hl.getD k []).contains t)
theorem ints_V {K : PySem.W.Frag} {H : Hp} : ∀ {xs : List V} {l : List Nat}, DpAll K H xs (l.map iD) → xs = l.map fun k => V.int (k : Nat)
  | _, [], .nil => rfl
  | _, k :: l, .cons h t => by
    have := ints_V t
    cases h
    rw [this]
    rfl
theorem dints (K : PySem.W.Frag) (H : Hp) : ∀ l : List Nat, DpAll K H (l.map fun k => V.int (k : Nat)) (l.map iD)
  | [] => .nil
  | k :: l => .cons (.int _) (dints K H l)
theorem lst_of {K : PySem.W.Frag} {H : Hp} {v : V} {ds : List PyData} (h : Dp K H v (.list ds)) : ∃ a xs, v = .ref a ∧ SqL K H a xs ∧ DpAll K H xs ds := by
  cases h with
  | lst h1 h2 => exact ⟨_, _, rfl, h1, h2⟩
theorem in_nats (t : Nat) (l : List Nat) : inV (.int (t : Nat)) (l.map fun k => V.int (k : Nat)) = l.contains t := by
  unfold inV
  rw [List.any_map, Bool.eq_iff_iff, List.any_eq_true, List.contains_iff_mem]
  constructor
  · rintro ⟨k, hk, h⟩
    have h : ((k : Int) == (t : Int)) = true := h
    have : k = t := by
      have := eq_of_beq h
      omega
    rw [← this]
    exact hk
  · intro h
    exact ⟨t, h, by show ((t : Int) == (t : Int)) = true; exact beq_self_eq_true _⟩
theorem flat_nats (l : List Nat) : (l.map fun k => V.int (k : Nat)).all flatV = true := by
  rw [List.all_map, List.all_eq_true]
  intro k _
  rfl
theorem at_last {α : Type} (l : List α) (v : α) : atI (l ++ [v]) (-1) = some v := by
  unfold atI ixN
  rw [if_neg (by decide), List.length_append, List.length_singleton]
  rw [if_pos (by omega)]
  show (l ++ [v])[_]? = some v
  rw [show ((-1 + ((l.length + 1 : Nat) : Int)).toNat) = l.length by omega]
  rw [List.getElem?_append_right (Nat.le_refl _), Nat.sub_self]
  rfl
/-- a row of numbers with the fields that are left; its list is such a one -/
def QV (K : PySem.W.Frag) (H : Hp) (N : Addr → Prop) (v : V) (x : List Nat × List Nat) : Prop := ∃ t p e, v = .ref t ∧ SqT K H t [.ref p, .ref e] ∧ SqT K H p (x.1.map fun k => V.int (k : Nat)) ∧ H e = some (.lst (x.2.map fun k => V.int (k : Nat))) ∧ N e
theorem QV.same {K : PySem.W.Frag} {H H' : Hp} {N : Addr → Prop} {v : V} {x : List Nat × List Nat} (h : QV K H N v x) (s : Same H H') : QV K H' N v x := by
  obtain ⟨t, p, e, h1, h2, h3, h4, h5⟩ := h
  exact ⟨t, p, e, h1, (Tk.of s).sqT h2, (Tk.of s).sqT h3, s _ _ h4, h5⟩
theorem QV.put {K : PySem.W.Frag} {H : Hp} {N : Addr → Prop} {D : Addr} {o : HO} {xs : List V} {v : V} {x : List Nat × List Nat} (h : QV K H N v x) (e : H D = some (.lst xs)) (hN : ∀ a, N a → a ≠ D) : QV K (upd H D o) N v x := by
  obtain ⟨t, p, e', h1, h2, h3, h4, h5⟩ := h
  refine ⟨t, p, e', h1, (Tk.refl.lst e).sqT h2, (Tk.refl.lst e).sqT h3, ?_, h5⟩
  rw [upd_ne (hN _ h5)]
  exact h4
theorem QV.mono {K : PySem.W.Frag} {H : Hp} {N N' : Addr → Prop} {v : V} {x : List Nat × List Nat} (h : QV K H N v x) (hN : ∀ a, N a → N' a) : QV K H N' v x := by
  obtain ⟨t, p, e, h1, h2, h3, h4, h5⟩ := h
  exact ⟨t, p, e, h1, h2, h3, h4, hN _ h5⟩
theorem longer_len {hl : List (List Nat)} {x : List Nat × List Nat} : (longerL hl x).length = hl.length - bgn x.1 := by
  unfold longerL
  rw [List.length_map, List.length_range']
theorem longer_at {hl : List (List Nat)} {x : List Nat × List Nat} {i : Nat} (h : i < hl.length - bgn x.1) : (longerL hl x)[i]? = some (x.1 ++ [bgn x.1 + i], x.2.filter fun t => (hl.getD (bgn x.1 + i) []).contains t) := by
  unfold longerL
  rw [List.getElem?_map, List.getElem?_range' h, Nat.one_mul]
  rfl
section
variable {P : Program} {w : World} {K : PySem.W.Frag} {mg : Str → Option Value} {base : Heap}
def spLonger (K : PySem.W.Frag) : Sp := fun vs H Q _ => ∃ (a b c : Addr) (hl : List (List Nat)) (x : List Nat × List Nat), vs = [.ref a, .ref b, .ref c] ∧ RowG K H a (hl.map dI) ∧ Dp K H (.ref b) (dN x.1) ∧ Dp K H (.ref c) (dI x.2) ∧ hl.length ≤ 60 ∧ x.1.length ≤ 60 ∧ x.2.length ≤ 64 ∧ bgn x.1 ≤ 60 ∧ (∀ l ∈ hl, l.length ≤ 64) ∧ ∀ H' r xs, Same H H' → H r = none → H' r = some (.lst xs) → Paired (QV K H' (fun e => H e = none ∧ e ≠ r)) xs (longerL hl x) → Q (.ref r) H'
theorem c_longer_rows (T : Tx K mg) : Cl P w K mg base CX0 1 "longer_rows" (spLonger K) := by
  refine cl0 T.d_longer_rows (ps := ["holding", "numbers", "left"]) (fun _ _ _ _ _ _ us hl => match us, hl with | [_, _, _], _ => rfl) sc_longer_rows (fun vs H Q E h => ?_) (fun f cdv A outer st H vs Q E hr h => ?_)
  · obtain ⟨a, b, c, hl, x, rfl, _⟩ := h
    rfl
  · obtain ⟨a, b, c, hl, x, rfl, hH, hB, hC, l60, lx1, lx2, lb, l64, q⟩ := h
    have nd := sc_longer_rows.nd
    have hu := u65 hr
    refine ⟨_, (pss_cons (ps_set (i := 3) nd rfl (.inl rfl) (pe_lst pa_nil))
    (pss_cons (ps_set (i := 4) nd rfl (.inl rfl) (pe_ifExp (pt_truthk (K := K) rfl (pv 1)) (pe_op op_add (pe_ix (ixk_tup (K := K) rfl) (pv 1) (pe_un un_neg pe_int) (fun _ _ => rfl)) pe_int) pe_int))
    (pss_cons (ps_for PassesOwn.never rfl (pi_range2 (by rfl) T.b_range (pa_cons (pv 4) (pa_cons (pe_lenS (by rfl) T.b_len (pv 0)) pa_nil))) (pg_name (i := 5) nd rfl (.inr rfl))
    (pss_one (ps_expr (pe_bm PySem.F.plainAttrs_list PySem.F.slot_list_append PySem.F.type_list_append mt_append (pv 3) (pa_cons (pe_tup (pa_cons (pe_op (op_catAk (K := K) rfl) (pv 1) (pe_tup (pa_cons (pv 5) pa_nil))) (pa_cons (pe_lc (own := [("at", 6)]) (g := (gName 6)) (tt := _) (by rfl) nd (pi_list (pv 2)) (blkOk_by (own := [("at", 6)]) (N := ["holding", "numbers", "left", "rows", "first", "number", "at"]) (sc := defScope s_longer_rows) (by decide +kernel)) (fun _ _ _ _ _ => (pg_name (i := 6) nd rfl (by first | exact Or.inl rfl | exact Or.inr rfl))) (fun _ _ _ _ _ => pts_one (pt_cmpR (opk_in_seq (K := K) rfl) (pv 6) (pe_ix (ixk_list (K := K) rfl) (pv 0) (pv 5) (fun _ _ => rfl)) (by rfl))) (fun _ _ _ _ _ => (pv 6))) pa_nil))) pa_nil)))))
    (pss_one (ps_ret (pv 3)))))), ?_⟩
    obtain ⟨_, bs, e, hbS, hbV⟩ := tup_of hB
    cases e
    obtain ⟨_, cs, e, hcS, hcV⟩ := lst_of hC
    cases e
    obtain ⟨hs, eH, hHV⟩ := id hH
    have eb := ints_V hbV
    have ec := ints_V hcV
    subst eb ec
    have lhs := hHV.len
    rw [List.length_map] at lhs
    refine ⟨Nat.zero_le _, fun D hD => upd_gen hD fun H1 s1 e1 => ?_⟩
    have hb1 := (Tk.of s1).sqT hbS
    have gen : ∀ Qx : VK, Qx (.int (bgn x.1 : Nat)) H1 → tIf (fun σ H Q => tVar 1 σ H fun x H' => ∃ k, TruV K x H' k ∧ Q k H') (tOp (rI0 fun i j => V.int (i + j)) (tOp (rIxT K) (tVar 1) (tUn (rU fun i => V.int (-i)) (tC (V.int 1)))) (tC (V.int 1))) (tC (V.int 0)) ((L2.start ["holding", "numbers", "left", "rows", "first", "number", "at"] [V.ref a, V.ref b, V.ref c]).set 3 (some (.ref D))) H1 Qx := fun Qx hQ => by
      refine ⟨_, rfl, _, .inr (.inl ⟨_, hb1, rfl⟩), ?_⟩
      rcases List.eq_nil_or_concat x.1 with e | ⟨l, k, e⟩
      · rw [e] at hQ ⊢
        exact iteF hQ
      · rw [e] at hQ hb1 ⊢
        rw [List.concat_eq_append] at hQ hb1 ⊢
        rw [List.map_append] at hb1 ⊢
        rw [show (!(List.map (fun k => V.int ((k : Nat) : Int)) l ++ List.map (fun k => V.int ((k : Nat) : Int)) [k]).isEmpty) = true by cases l <;> rfl]
        refine iteT ⟨_, rfl, 1, rfl, _, _, _, _, rfl, rfl, hb1, at_last _ _, _, _, rfl, rfl, ?_⟩
        have eb : bgn (l ++ [k]) = k + 1 := by
          unfold bgn
          rw [List.getLast?_append]
          rfl
        rw [eb] at hQ
        exact hQ
    refine gen _ ?_
    refine ⟨_, rfl, _, rfl, a, hs, rfl, .inl (SqL.of (s1 _ _ eH)), _, _, rfl, by omega, ?_⟩
    have hn : ((hs.length : Int) - ((bgn x.1 : Nat) : Int)).toNat = hl.length - bgn x.1 := by omega
    rw [hn]
    refine for_range (lo := ((bgn x.1 : Nat) : Int)) (n := hl.length - bgn x.1) (fun i σ H' => ∃ (y5 y6 : Option V) (xs : List V), σ = [some (.ref a), some (.ref b), some (.ref c), some (.ref D), some (.int (bgn x.1 : Nat)), y5, y6] ∧ Same H H' ∧ H' D = some (.lst xs) ∧ Paired (QV K H' (fun e => H e = none ∧ e ≠ D)) xs ((longerL hl x).take i))
      ⟨none, none, [], rfl, s1, e1, .nil⟩ (fun i σ H2 hi ⟨y5, y6, xs, eσ, s2, eD, hP⟩ => ?_) (fun σ H2 ⟨y5, y6, xs, eσ, s2, eD, hP⟩ => ?_)
    · subst eσ
      have lP := hP.length
      rw [List.length_take, longer_len] at lP
      rw [show ((bgn x.1 : Nat) : Int) + (i : Int) = ((bgn x.1 + i : Nat) : Int) by omega]
      refine ⟨_, rfl, Or.inl ⟨rfl, _, SqL.of eD⟩, ?_⟩
      refine ⟨_, rfl, _, rfl, one_sz, fun t nt => upd_gen nt fun H3 s3 e3 => catA ((Tk.of (s2.trans s3)).sqT hbS) (SqT.of e3) (Nat.le_of_lt (small1000 (by rw [List.length_singleton, List.length_map]; omega))) fun H4 p4 s4 h4 => ?_⟩
      have s24 := s3.trans s4
      have s04 := s2.trans s24
      have hk : hl[bgn x.1 + i]? = some (hl.getD (bgn x.1 + i) []) := by
        rw [List.getD_eq_getElem?_getD, List.getElem?_eq_getElem (by omega)]
        rfl
      generalize hgl : hl.getD (bgn x.1 + i) [] = lk at hk
      have gl64 := l64 lk (List.mem_of_getElem? hk)
      have hkl : bgn x.1 + i < hs.length := by omega
      have hv := List.getElem?_eq_getElem hkl
      obtain ⟨dd, g1, p1⟩ := hHV.get hv
      rw [List.getElem?_map, hk] at g1
      cases g1
      obtain ⟨u, us, eu, huS, huV⟩ := lst_of p1
      have eus := ints_V huV
      subst eus
      rw [eu] at hv
      refine ⟨_, rfl, c, rfl, ⟨_, s04.seq hcS⟩, fun E hE => ?_⟩
      have hE0 : H E = none := fresh_of s04 hE
      have hED : E ≠ D := fun e => by
        rw [e, s24 _ _ eD] at hE
        cases hE
      refine lc_it (walk_list (xs := x.2.map fun k => V.int (k : Nat))) (fun j H' => H' E = some (.lst (((x.2.take j).filter fun t => lk.contains t).map fun k => V.int (k : Nat))) ∧ Same H4 H') ⟨upd_same, same_upd hE⟩ (fun _ _ _ ⟨_, s'⟩ => (s04.trans s').seq hcS) (fun j y H5o H5 hj ⟨eE, s5⟩ hy => ?_) (fun H5 ⟨eE, s5⟩ => ?_)
      · obtain ⟨rfl, hx⟩ := hy
        rw [List.getElem?_map] at hx
        obtain ⟨z, k1, rfl⟩ := Option.map_eq_some_iff.mp hx
        have s05 := s04.trans s5
        refine ⟨rfl, _, rfl, _, rfl, _, rfl, _, _, _, _, rfl, rfl, SqL.of (s05 _ _ eH), at_of (j := bgn x.1 + i) rfl hv, u, _, rfl, .inl (s05.seq huS), rfl, flat_nats lk, ?_⟩
        rw [in_nats]
        rw [take_snoc k1, List.filter_append, List.map_append]
        refine ⟨_, rfl, ite2 (fun h => ?_) (fun h => ?_)⟩
        · have h : lk.contains z = true := h
          rw [show [z].filter (fun t => lk.contains t) = [z] by simp only [List.filter_cons, h, if_true, List.filter_nil]]
          refine ⟨_, rfl, _, eE, small1000 ?_, upd_same, same_put s5 hE⟩
          rw [List.length_map]
          have := List.length_filter_le (fun t => lk.contains t) (x.2.take j)
          rw [List.length_take] at this
          omega
        · have h : ¬ lk.contains z = true := h
          rw [show [z].filter (fun t => lk.contains t) = [] by simp only [List.filter_cons, h, List.filter_nil]; rfl, List.map_nil, List.append_nil]
          exact ⟨eE, s5⟩
      · rw [List.length_map, List.take_length] at eE
        refine ⟨two_sz, fun t6 n6 => upd_gen n6 fun H6 s6 e6 => ?_⟩
        have s26 := (s24.trans s5).trans s6
        have eD6 := s26 _ _ eD
        refine ⟨D, xs, .ref t6, rfl, rfl, eD6, small1000 (by omega), ?_⟩
        refine ⟨_, _, xs ++ [.ref t6], rfl, same_put (s2.trans s26) hD, upd_same, ?_⟩
        rw [take_snoc (longer_at hi), hgl]
        refine Paired.snoc (Paired.mono (fun _ _ h => (h.same s26).put eD6 fun _ q => q.2) hP) (QV.put (xs := xs) ?_ eD6 fun _ q => q.2)
        refine ⟨t6, p4, E, rfl, SqT.of e6, ?_, s6 _ _ eE, hE0, hED⟩
        have := (Tk.of (s5.trans s6)).sqT h4
        rw [List.map_append]
        exact this
    · subst eσ
      rw [show (longerL hl x).take (hl.length - bgn x.1) = longerL hl x from List.take_of_length_le (by rw [longer_len]; exact Nat.le_refl _)] at hP
      exact ⟨_, rfl, q H2 D xs s2 hD eD hP⟩
end
end XB
set_option Elab.async false
set_option linter.all false
set_option maxRecDepth 100000
set_option maxHeartbeats 4000000
namespace XB
open PySem PySem.Spec PyProof.Rows L2
/-- all rows with one number more -/
def ext (total : Nat) (layer : List (List Nat)) : List (List Nat) := layer.flatMap fun nums => (List.range' (bgn nums) (total - bgn nums)).map fun k => nums ++ [k]
def leftOf (hl : List (List Nat)) (M : Nat) (nums : List Nat) : List Nat := (List.range M).filter fun t => nums.all fun k => (hl.getD k []).contains t
def quarGo (bad : List Nat → Bool) (total : Nat) : Nat → List (List Nat) → Option (List Nat)
  | 0, _ => none
  | k + 1, layer => match (ext total layer).find? bad with
    | some x => some x
    | none => quarGo bad total k (ext total layer)
def withLeft (hl : List (List Nat)) (M : Nat) (nums : List Nat) : List Nat × List Nat := (nums, leftOf hl M nums)
theorem left_more (hl : List (List Nat)) (M : Nat) (nums : List Nat) (k : Nat) : (leftOf hl M nums).filter (fun t => (hl.getD k []).contains t) = leftOf hl M (nums ++ [k]) := by
  unfold leftOf
  rw [List.filter_filter]
  congr 1
  funext t
  rw [List.all_append, List.all_cons, List.all_nil, Bool.and_true, Bool.and_comm]
theorem rows_step (hl : List (List Nat)) (M : Nat) (layer : List (List Nat)) : (layer.map (withLeft hl M)).flatMap (longerL hl) = (ext hl.length layer).map (withLeft hl M) := by
  unfold ext
  rw [List.flatMap_map, List.map_flatMap]
  congr 1
  funext nums
  unfold longerL withLeft
  rw [List.map_map]
  congr 1
  funext k
  show (nums ++ [k], _) = (nums ++ [k], _)
  rw [left_more]
theorem bgn_snoc (l : List Nat) (k : Nat) : bgn (l ++ [k]) = k + 1 := by
  unfold bgn
  rw [List.getLast?_append]
  rfl
/-- rows of a size -/
structure Lay (total s : Nat) (layer : List (List Nat)) : Prop where
  b : ∀ nums ∈ layer, s ≤ bgn nums ∧ bgn nums ≤ total ∧ nums.length = s
theorem Lay.ext {total s : Nat} {layer : List (List Nat)} (h : Lay total s layer) : Lay total (s + 1) (XB.ext total layer) := ⟨fun nums hn => by
  unfold XB.ext at hn
  obtain ⟨n0, h0, h1⟩ := List.mem_flatMap.mp hn
  obtain ⟨k, hk, rfl⟩ := List.mem_map.mp h1
  obtain ⟨a, b, c⟩ := h.b n0 h0
  rw [bgn_snoc, List.length_append, List.length_singleton]
  obtain ⟨i, hi, rfl⟩ := List.mem_range'.mp hk
  omega⟩
theorem ext_end {total : Nat} {layer : List (List Nat)} (h : Lay total total layer) : ext total layer = [] := by
  unfold ext
  rw [List.flatMap_eq_nil_iff]
  intro nums hn
  have := (h.b nums hn).1
  rw [show total - bgn nums = 0 by omega]
  rfl
theorem go_nil (bad : List Nat → Bool) (total : Nat) : ∀ k, quarGo bad total k [] = none
  | 0 => rfl
  | k + 1 => by
    show (match (ext total []).find? bad with | some x => some x | none => quarGo bad total k (ext total [])) = none
    exact go_nil bad total k
/-- whether a claim holds in the field with a number -/
def holdAt (n : Nat) (c : Clm) (t : Nat) : Bool := match (FA n)[t]? with
  | some F => holdsB F c
  | none => false
def hl1 (n : Nat) (c : Clm) : List Nat := (List.range (FA n).length).filter (holdAt n c)
def holdK (n : Nat) (cs : List Clm) (k t : Nat) : Bool := match cs[k]? with
  | some c => holdAt n c t
  | none => false
def leftL (n : Nat) (cs : List Clm) (nums : List Nat) : List Nat := (List.range (FA n).length).filter fun t => nums.all fun k => holdK n cs k t
def bad (n : Nat) (cs : List Clm) (nums : List Nat) : Bool := (leftL n cs nums).isEmpty
/-- what quarrel tells -/
def quarL (n : Nat) (cs : List Clm) : Option (List Nat) := quarGo (bad n cs) cs.length cs.length [[]]
def dOpt : Option (List Nat) → PyData
  | some l => dN l
  | none => .none
theorem left_eq (n : Nat) (cs : List Clm) (nums : List Nat) : leftOf (cs.map (hl1 n)) (FA n).length nums = leftL n cs nums := by
  unfold leftOf leftL
  refine List.filter_congr fun t ht => ?_
  have ht := List.mem_range.mp ht
  congr 1
  funext k
  unfold holdK
  rw [List.getD_eq_getElem?_getD, List.getElem?_map]
  cases h : cs[k]? with
  | none => rfl
  | some c =>
    show (hl1 n c).contains t = holdAt n c t
    rw [Bool.eq_iff_iff, List.contains_iff_mem]
    unfold hl1
    rw [List.mem_filter, List.mem_range]
    exact ⟨fun h => h.2, fun h => ⟨ht, h⟩⟩
theorem left_nil (n : Nat) (cs : List Clm) : leftL n cs [] = List.range (FA n).length := by
  unfold leftL
  rw [List.filter_eq_self]
  intro _ _
  rfl
/-- how many rows there are at most -/
def wt (total : Nat) (layer : List (List Nat)) : Nat := (layer.map fun nums => 2 ^ (total - bgn nums)).sum
theorem len_wt (total : Nat) : ∀ layer : List (List Nat), layer.length ≤ wt total layer
  | [] => Nat.zero_le _
  | x :: l => by
    have := len_wt total l
    have e : wt total (x :: l) = 2 ^ (total - bgn x) + wt total l := rfl
    have : 0 < 2 ^ (total - bgn x) := Nat.pow_pos (by decide)
    rw [e, List.length_cons]
    omega
theorem wt_app (total : Nat) (l m : List (List Nat)) : wt total (l ++ m) = wt total l + wt total m := by
  unfold wt
  rw [List.map_append, List.sum_append]
theorem wt_row (total : Nat) (x : List Nat) : ∀ (d b : Nat), (b + d ≤ total ∨ d = 0) → wt total ((List.range' b d).map fun k => x ++ [k]) ≤ 2 ^ (total - b)
  | 0, b, _ => Nat.zero_le _
  | d + 1, b, hb => by
    rw [List.range'_succ, List.map_cons]
    have e : wt total ((x ++ [b]) :: (List.range' (b + 1) d).map fun k => x ++ [k]) = 2 ^ (total - (b + 1)) + wt total ((List.range' (b + 1) d).map fun k => x ++ [k]) := by
      show 2 ^ (total - bgn (x ++ [b])) + _ = _
      rw [bgn_snoc]
      rfl
    rw [e]
    have := wt_row total x d (b + 1) (by omega)
    by_cases h : b < total
    · have : 2 ^ (total - b) = 2 ^ (total - (b + 1)) + 2 ^ (total - (b + 1)) := by
        rw [show total - b = (total - (b + 1)) + 1 by omega, Nat.pow_succ]
        omega
      omega
    · omega
theorem wt_ext (total : Nat) : ∀ layer : List (List Nat), wt total (ext total layer) ≤ wt total layer
  | [] => Nat.le_refl _
  | x :: l => by
    have := wt_ext total l
    have e : ext total (x :: l) = ((List.range' (bgn x) (total - bgn x)).map fun k => x ++ [k]) ++ ext total l := rfl
    rw [e, wt_app]
    have := wt_row total x (total - bgn x) (bgn x) (by omega)
    have e : wt total (x :: l) = 2 ^ (total - bgn x) + wt total l := rfl
    omega
theorem QV.ex {K : PySem.W.Frag} {H H' : Hp} {N : Addr → Prop} {E : Addr} {v : V} {x : List Nat × List Nat} (h : QV K H N v x) (t : Tk H H') (k : ∀ b ys, b ≠ E → H b = some (.lst ys) → H' b = some (.lst ys)) (hN : ∀ a, N a → a ≠ E) : QV K H' N v x := by
  obtain ⟨u, p, e, h1, h2, h3, h4, h5⟩ := h
  exact ⟨u, p, e, h1, t.sqT h2, t.sqT h3, k _ _ (hN _ h5) h4, h5⟩
theorem shN (l : List Nat) : SeqAt.shaped (dI l) = true := by
  have := shInts (l.map fun k => ((k : Nat) : Int))
  rw [List.map_map] at this
  exact this
theorem eqv_emp : ∀ l : List Nat, PyData.eqv (dI l) (.list []) = l.isEmpty
  | [] => rfl
  | _ :: _ => rfl
theorem find_at {α : Type} {f : α → Bool} : ∀ {l : List α} {i : Nat} {x : α}, (l.take i).find? f = none → l[i]? = some x → f x = true → l.find? f = some x
  | y :: l, 0, x, _, h, hf => by
    have h : some y = some x := h
    cases h
    rw [List.find?_cons, hf]
  | y :: l, i + 1, x, hn, h, hf => by
    rw [List.take_succ_cons, List.find?_cons] at hn
    rw [List.find?_cons]
    cases hy : f y with
    | true =>
      rw [hy] at hn
      cases hn
    | false =>
      rw [hy] at hn
      exact find_at hn h hf
theorem rg_nat (M : Nat) : rgV 0 (M : Int) = (List.range M).map fun k => V.int (k : Nat) := by
  unfold rgV
  rw [show ((M : Int) - 0).toNat = M by omega]
  refine List.map_congr_left fun k _ => ?_
  show V.int (0 + (k : Int)) = V.int (k : Nat)
  rw [Int.zero_add]
/-- the rows as they stand -/
def QInv (K : PySem.W.Frag) (n : Nat) (cs : List Clm) (H : Hp) (a b r D : Addr) : Nat → L2.St → Hp → Prop := fun m σ H' => ∃ (s : Nat) (layer : List (List Nat)) (rw : Addr) (xs : List V) (y5 y6 : Option V), m = cs.length + 1 - s ∧ s ≤ cs.length + 1 ∧ σ = [some (.ref a), some (.ref b), some (.ref r), some (.ref D), some (.ref rw), y5, y6, none, none, none, none] ∧
  Same H H' ∧ H' rw = some (.lst xs) ∧ Paired (QV K H' fun _ => True) xs (layer.map (withLeft (cs.map (hl1 n)) (FA n).length)) ∧ Lay cs.length s layer ∧ (s = cs.length + 1 → layer = []) ∧ wt cs.length layer ≤ 4096 ∧ quarGo (bad n cs) cs.length (cs.length - s) layer = quarL n cs
section
variable {P : Program} {w : World} {K : PySem.W.Frag} {mg : Str → Option Value} {base : Heap}
def spQuarrel (K : PySem.W.Frag) : Sp := fun vs H Q _ => ∃ (a b : Addr) (n : Nat) (cs : List Clm), vs = [.ref a, .ref b] ∧ NmA K H a n ∧ ClA K H b n cs ∧ ∀ H' v, Same H H' → Dp K H' v (dOpt (quarL n cs)) → Q v H'
theorem c_quarrel (T : Tx K mg) : Cl P w K mg base CX0 9 "quarrel" (spQuarrel K) := by
  refine cl0 T.d_quarrel (ps := ["names", "claims"]) (fun _ _ _ _ _ _ us hl => match us, hl with | [_, _], _ => rfl) sc_quarrel (fun vs H Q E h => ?_) (fun f cdv A outer st H vs Q E hr h => ?_)
  · obtain ⟨a, b, n, cs, rfl, _⟩ := h
    rfl
  · obtain ⟨a, b, n, cs, rfl, hN, hC, q⟩ := h
    have nd := sc_quarrel.nd
    refine ⟨_, (pss_cons (ps_expr (pe_k (c_need_names T) hr (by decide) (by rfl) (pa_cons (pv 0) pa_nil)))
    (pss_cons (ps_expr (pe_k (c_need_claims T) hr (by decide) (by rfl) (pa_cons (pv 0) (pa_cons (pv 1) pa_nil))))
    (pss_cons (ps_set (i := 2) nd rfl (.inr rfl) (pe_k (c_all_fields T) hr (by decide) (by rfl) (pa_cons (pv 0) pa_nil)))
    (pss_cons (ps_set (i := 3) nd rfl (.inr rfl) (pe_lc (own := [("claim", 7)]) (g := (gName 7)) (tt := tYes) (by rfl) nd (pi_tup (pv 1)) (blkOk_by (own := [("claim", 7)]) (N := ["names", "claims", "fields", "holding", "rows", "numbers", "left", "claim", "at", "field", "longer"]) (sc := defScope s_quarrel) (by decide +kernel)) (fun _ _ _ _ _ => (pg_name (i := 7) nd rfl (by first | exact Or.inl rfl | exact Or.inr rfl))) (fun _ _ _ _ _ => pts_nil) (fun _ _ _ _ _ => (pe_lc (own := [("at", 8), ("field", 9)]) (g := (gTup K 2 (gCons (gName 8) (gCons (gName 9) gNil)))) (tt := _) (by rfl) nd (pi_enumk (K := K) rfl (by rfl) T.b_enumerate (pa_cons (pv 2) pa_nil)) (blkOk_by (own := [("at", 8), ("field", 9)]) (N := ["names", "claims", "fields", "holding", "rows", "numbers", "left", "claim", "at", "field", "longer"]) (sc := _) (by rfl)) (fun _ _ _ _ _ => (pg_tup rfl (pgs_cons (pg_name (i := 8) nd rfl (by first | exact Or.inl rfl | exact Or.inr rfl)) (pgs_cons (pg_name (i := 9) nd rfl (by first | exact Or.inl rfl | exact Or.inr rfl)) pgs_nil)))) (fun _ _ _ _ _ => pts_one (pt_val (pe_k (c_does_hold T) hr (by decide) (by rfl) (pa_cons (pv 9) (pa_cons (pv 7) pa_nil))))) (fun _ _ _ _ _ => (pv 8))))))
    (pss_cons (ps_set (i := 4) nd rfl (.inl rfl) (pe_lst (pa_cons (pe_tup (pa_cons (pe_tup pa_nil) (pa_cons (pe_listRg (by rfl) (by rfl) T.b_list (prg_1 (by rfl) T.b_range (pe_lenS (by rfl) T.b_len (pv 2)))) pa_nil))) pa_nil)))
    (pss_cons (ps_while PassesOwn.never (pt_truthk (K := K) rfl (pv 4))
    (pss_cons (ps_setLc2 (i := 4) (own := [("numbers", 5), ("left", 6), ("longer", 10)]) (vs1 := [10]) (g := (gTup K 2 (gCons (gName 5) (gCons (gName 6) gNil)))) (tt := tYes) (g1 := (gName 10)) (tt1 := tYes) rfl nd rfl rfl (sw_true rfl rfl rfl (by decide +kernel)) (pi_list (pv 4)) (blkOk_by (own := [("numbers", 5), ("left", 6), ("longer", 10)]) (N := ["names", "claims", "fields", "holding", "rows", "numbers", "left", "claim", "at", "field", "longer"]) (sc := defScope s_quarrel) (by decide +kernel)) (by decide) (fun _ _ _ _ _ => (pg_tup rfl (pgs_cons (pg_name (i := 5) nd rfl (by first | exact Or.inl rfl | exact Or.inr rfl)) (pgs_cons (pg_name (i := 6) nd rfl (by first | exact Or.inl rfl | exact Or.inr rfl)) pgs_nil)))) (fun _ _ _ _ _ => pts_nil) (fun _ _ _ _ _ => (pi_listk (K := K) rfl (pe_k (c_longer_rows T) hr (by decide) (by rfl) (pa_cons (pv 3) (pa_cons (pv 5) (pa_cons (pv 6) pa_nil)))))) (fun _ _ _ _ _ => (pg_name (i := 10) nd rfl (by first | exact Or.inl rfl | exact Or.inr rfl))) (fun _ _ _ _ _ => pts_nil) (fun _ _ _ _ _ => (pv 10)))
    (pss_one (ps_for PassesOwn.never rfl (pi_list (pv 4)) (pg_tup rfl (pgs_cons (pg_name (i := 5) nd rfl (.inl rfl)) (pgs_cons (pg_name (i := 6) nd rfl (.inl rfl)) pgs_nil)))
    (pss_one (ps_if (pt_cmpR (op_eqD hr.units) (pv 6) (pe_lst pa_nil) (nomark _)) (pss_one (ps_ret (pv 5))) pss_nil))))))
    (pss_one (ps_ret pe_non)))))))), ?_⟩
    have n2 := hN.2.1
    have n4 := hN.2.2
    have l64 := fa_64 n2 n4
    have l12 := hC.2.2
    refine ⟨_, rfl, a, n, rfl, hN, fun H1 s1 => ?_⟩
    refine ⟨_, rfl, _, rfl, a, b, n, cs, rfl, hN.same s1, hC.same s1, fun H2 s2 => ?_⟩
    have s12 := s1.trans s2
    refine ⟨_, rfl, a, n, rfl, hN.same s12, fun H3 r s3 n3 ⟨fs, eR, hR⟩ => ?_⟩
    have s13 := s12.trans s3
    have lfs := hR.len
    rw [List.length_map] at lfs
    obtain ⟨_, ys, ey, hyS, hyV⟩ := tup_of (hC.same s13).1
    cases ey
    have lys := hyV.len
    rw [List.length_map] at lys
    refine ⟨_, rfl, b, rfl, ⟨_, hyS⟩, fun D hD => ?_⟩
    refine lc_it (walk_tup (xs := ys)) (fun i H' => ∃ xs, H' D = some (.lst xs) ∧ Paired (fun v c => ∃ e, v = .ref e ∧ H' e = some (.lst ((hl1 n c).map fun k => V.int (k : Nat))) ∧ e ≠ D) xs (cs.take i) ∧ Same H3 H') ⟨[], upd_same, .nil, same_upd hD⟩ (fun _ _ _ ⟨_, _, _, s'⟩ => (Tk.of s').sqT hyS) (fun i x H4o H4 hi ⟨xs, eD, hP, s4⟩ hy => ?_) (fun H4 ⟨xs, eD, hP, s4⟩ => ?_)
    · obtain ⟨rfl, hx⟩ := hy
      obtain ⟨dd, g1, p1⟩ := hyV.get hx
      rw [List.getElem?_map] at g1
      obtain ⟨c, k1, rfl⟩ := Option.map_eq_some_iff.mp g1
      have p1 := Dp.sm s4 _ p1
      have lP := hP.length
      rw [List.length_take] at lP
      have hR4 := DpAll.sm s4 _ hR
      refine ⟨rfl, yes_ ⟨_, rfl, r, fs, rfl, SqL.of (s4 _ _ eR), fun E hE => ?_⟩⟩
      have hED : E ≠ D := fun e => by
        rw [e, eD] at hE
        cases hE
      refine lc_it (walk_enum (xs := fs)) (fun j H' => H' E = some (.lst ((((List.range (FA n).length).take j).filter (holdAt n c)).map fun k => V.int (k : Nat))) ∧ Same H4 H') ⟨upd_same, same_upd hE⟩ (fun _ _ _ ⟨_, s'⟩ => SqL.of ((s4.trans s') _ _ eR)) (fun j y H5o H5 hj ⟨eE, s5⟩ hy => ?_) (fun H5 ⟨eE, s5⟩ => ?_)
      · obtain ⟨Tt, x1, x2, rfl, nT, rfl, f1, f2⟩ := hy
        obtain ⟨d', g1, p2⟩ := hR4.get f2
        rw [List.getElem?_map] at g1
        obtain ⟨F, k2, rfl⟩ := Option.map_eq_some_iff.mp g1
        have hx1 : x1 = .int (j : Nat) := (Option.some.inj f1).symm
        subst hx1
        obtain ⟨okF, enF⟩ := fa_ok (by omega) (by omega) F (List.mem_of_getElem? k2)
        have sT := same_upd (o := .tup [.int (j : Nat), x2]) nT
        have s6 := s5.trans sT
        have eE6 := sT _ _ eE
        have p2 := Dp.sm s6 _ p2
        obtain ⟨o, os, eo, _⟩ := tup_of p2
        subst eo
        have e7 : SqT K (upd H5o Tt (.tup [.int (j : Nat), .ref o])) Tt [.int (j : Nat), .ref o] := SqT.of upd_same
        refine ⟨Tt, _, rfl, e7, rfl, _, _, rfl, _, _, rfl, rfl, rfl, ?_⟩
        generalize upd H5o Tt (.tup [.int (j : Nat), .ref o]) = H6 at s6 eE6 p2 e7 ⊢
        refine ⟨_, rfl, _, rfl, o, x, F, n, c, rfl, p2, okF, enF, Dp.sm s6 _ p1, hC.2.1 c (List.mem_of_getElem? k1), fun H7 s7 => ?_⟩
        have s47 := s6.trans s7
        have eE7 := s7 _ _ eE6
        have hjr : (List.range (FA n).length)[j]? = some j := by
          have : j < (FA n).length := (List.getElem?_eq_some_iff.mp k2).1
          rw [List.getElem?_eq_getElem (by rw [List.length_range]; exact this), List.getElem_range]
        have hh : holdAt n c j = holdsB F c := by
          unfold holdAt
          rw [k2]
        rw [take_snoc hjr, List.filter_append, List.map_append]
        refine ⟨_, rfl, ite2 (fun h => ?_) (fun h => ?_)⟩
        · have h : holdsB F c = true := h
          rw [show [j].filter (holdAt n c) = [j] by simp only [List.filter_cons, hh, h, if_true, List.filter_nil]]
          refine ⟨_, rfl, _, eE7, small1000 ?_, upd_same, same_put s47 hE⟩
          rw [List.length_map]
          have := List.length_filter_le (holdAt n c) ((List.range (FA n).length).take j)
          rw [List.length_take, List.length_range] at this
          omega
        · have h : ¬ holdsB F c = true := h
          rw [show [j].filter (holdAt n c) = [] by simp only [List.filter_cons, hh, h, List.filter_nil]; rfl, List.map_nil, List.append_nil]
          exact ⟨eE7, s47⟩
      · rw [lfs, List.take_of_length_le (by rw [List.length_range]; exact Nat.le_refl _)] at eE
        have eD5 := s5 _ _ eD
        refine ⟨xs, eD5, small1000 (by omega), xs ++ [.ref E], upd_same, ?_, same_put (s4.trans s5) hD⟩
        rw [take_snoc k1]
        refine Paired.snoc (Paired.mono (fun v c ⟨e, h1, h2, h3⟩ => ⟨e, h1, ?_, h3⟩) hP) ⟨E, rfl, ?_, hED⟩
        · rw [upd_ne hED]
          exact eE
        · rename_i h2 h3
          rw [upd_ne h3]
          exact s5 _ _ h2
    · rw [lys, List.take_length] at hP
      have hHG : RowG K H4 D ((cs.map (hl1 n)).map dI) := by
        refine ⟨xs, eD, ?_⟩
        have gen : ∀ {xs : List V} {l : List Clm}, Paired (fun v c => ∃ e, v = .ref e ∧ H4 e = some (.lst ((hl1 n c).map fun k => V.int (k : Nat))) ∧ e ≠ D) xs l → DpAll K H4 xs ((l.map (hl1 n)).map dI) := by
          intro xs l h
          induction h with
          | nil => exact .nil
          | cons h _ ih =>
            obtain ⟨e, rfl, h2, _⟩ := h
            exact .cons (.lst (SqL.of h2) (dints K H4 _)) ih
        exact gen hP
      have s14 := s13.trans s4
      have lhl : (cs.map (hl1 n)).length = cs.length := List.length_map ..
      have lh64 : ∀ l ∈ cs.map (hl1 n), l.length ≤ 64 := fun l hl => by
        obtain ⟨c, _, rfl⟩ := List.mem_map.mp hl
        have := List.length_filter_le (holdAt n c) (List.range (FA n).length)
        rw [List.length_range] at this
        unfold hl1
        omega
      have ll64 : ∀ nums, (leftOf (cs.map (hl1 n)) (FA n).length nums).length ≤ 64 := fun nums => by
        have := List.length_filter_le (fun t => nums.all fun k => ((cs.map (hl1 n)).getD k []).contains t) (List.range (FA n).length)
        rw [List.length_range] at this
        unfold leftOf
        omega
      refine ⟨Nat.zero_le _, fun t0 nt0 => upd_gen nt0 fun H5 s5 e5 => ?_⟩
      refine ⟨_, rfl, r, fs, rfl, .inl (SqL.of ((s4.trans s5) _ _ eR)), _, rfl, ⟨by omega, by omega⟩, fun l0 nl0 => upd_gen nl0 fun H6 s6 e6 => ?_⟩
      rw [lfs, rg_nat] at e6
      refine ⟨two_sz, fun t1 nt1 => upd_gen nt1 fun H7 s7 e7 => ⟨one_sz, fun l1 nl1 => upd_gen nl1 fun H8 s8 e8 => ?_⟩⟩
      have s48 := (s5.trans s6).trans (s7.trans s8)
      refine ⟨QInv K n cs H4 a b r D, ⟨_, 0, [[]], l1, _, none, none, rfl, by omega, rfl, s48, e8, .cons ⟨t1, t0, l0, rfl, (Tk.of s8).sqT (SqT.of e7), (Tk.of (s6.trans (s7.trans s8))).sqT (SqT.of e5), ?_, trivial⟩ .nil, ⟨fun nums hn => by rw [List.mem_singleton.mp hn]; exact ⟨Nat.le_refl _, Nat.zero_le _, rfl⟩⟩, fun h => by omega, ?_, rfl⟩, ?_⟩
      · show H8 l0 = some (.lst ((leftOf (cs.map (hl1 n)) (FA n).length []).map fun k => V.int (k : Nat)))
        rw [left_eq, left_nil]
        exact (s7.trans s8) _ _ e6
      · show 2 ^ (cs.length - 0) + 0 ≤ 4096
        exact Nat.pow_le_pow_right (by decide) (show cs.length - 0 ≤ 12 by omega)
      rintro m σ H9 ⟨s, layer, rw', xs9, y5, y6, rfl, hs, rfl, s9, eRw, hP9, hLay, hend, hwt, hgo⟩
      have lP9 := hP9.length
      rw [List.length_map] at lP9
      have lw := len_wt cs.length layer
      refine ⟨_, rfl, _, .inl ⟨xs9, SqL.of eRw, rfl⟩, ?_⟩
      by_cases hne : layer = []
      · have : xs9 = [] := List.length_eq_zero_iff.mp (by rw [lP9, hne]; rfl)
        subst this
        rw [hne, go_nil] at hgo
        refine iteF ?_
        refine q H9 .non (s14.trans s9) ?_
        rw [← hgo]
        exact .non
      · have hx9 : (!xs9.isEmpty) = true := by
          cases xs9 with
          | nil => exact absurd (List.length_eq_zero_iff.mp lP9.symm) hne
          | cons _ _ => rfl
        rw [hx9]
        have hs' : s ≤ cs.length := by
          by_cases h : s = cs.length + 1
          · exact absurd (hend h) hne
          · omega
        refine iteT ⟨fun σ' H' => ∃ m', m' < cs.length + 1 - s ∧ QInv K n cs H4 a b r D m' σ' H', fun _ _ h => h, ?_⟩
        refine ⟨_, rfl, rw', rfl, ⟨_, SqL.of eRw⟩, fun E hE => ?_⟩
        have hE4 : H4 E = none := fresh_of s9 hE
        have wt2 := wt_ext cs.length layer
        have le2 := len_wt cs.length (ext cs.length layer)
        have stp := rows_step (cs.map (hl1 n)) (FA n).length layer
        rw [lhl] at stp
        refine lc2_out (walk_list (xs := xs9)) (fun i H' => ∃ zs, H' E = some (.lst zs) ∧ Paired (QV K H' fun e => e ≠ E) zs (((layer.map (withLeft (cs.map (hl1 n)) (FA n).length)).take i).flatMap (longerL (cs.map (hl1 n)))) ∧ Same H9 H') ⟨[], upd_same, .nil, same_upd hE⟩ (fun _ _ _ ⟨_, _, _, s'⟩ => SqL.of (s' _ _ eRw)) (fun i x H10o H10 hi ⟨zs, eE, hZ, s10⟩ hy => ?_) (fun H10 ⟨zs, eE, hZ, s10⟩ => ?_)
        · obtain ⟨rfl, hx⟩ := hy
          obtain ⟨xx, hxx, hq⟩ := XB.Paired.get hP9 hx
          have hq := hq.same s10
          have hl0 : xx ∈ layer.map (withLeft (cs.map (hl1 n)) (FA n).length) := List.mem_of_getElem? hxx
          obtain ⟨nums, hnm, rfl⟩ := List.mem_map.mp hl0
          obtain ⟨hb1, hb2, hb3⟩ := hLay.b nums hnm
          obtain ⟨t, p, e, rfl, ht, hp, he, _⟩ := hq
          refine ⟨t, _, rfl, ht, rfl, _, _, rfl, _, _, rfl, rfl, rfl, yes_ ?_⟩
          refine ⟨_, rfl, _, rfl, _, rfl, D, p, e, cs.map (hl1 n), withLeft (cs.map (hl1 n)) (FA n).length nums, rfl, hHG.same (s9.trans s10), .tup hp (dints K _ _), .lst (SqL.of he) (dints K _ _), by rw [lhl]; omega, ?_, ll64 nums, ?_, lh64, fun H11 r11 zs11 s11 n11 e11 hP11 => ⟨r11, rfl, ⟨_, SqL.of e11⟩, ?_⟩⟩
          · show nums.length ≤ 60
            omega
          · show bgn nums ≤ 60
            omega
          have eE11 := s11 _ _ eE
          have hrE : r11 ≠ E := fun e => by
            rw [e, eE] at n11
            cases n11
          have hNE : ∀ a, (H10 a = none ∧ a ≠ r11) → a ≠ E := fun a ⟨h, _⟩ e => by
            rw [e, eE] at h
            cases h
          have lP11 := hP11.length
          refine lc2_in (walk_list (xs := zs11)) (fun j H' => ∃ zs', H' E = some (.lst zs') ∧ Paired (QV K H' fun e => e ≠ E) zs' (((layer.map (withLeft (cs.map (hl1 n)) (FA n).length)).take i).flatMap (longerL (cs.map (hl1 n))) ++ (longerL (cs.map (hl1 n)) (withLeft (cs.map (hl1 n)) (FA n).length nums)).take j) ∧ Same H9 H' ∧ Tk H11 H' ∧ ∀ b ys, b ≠ E → H11 b = some (.lst ys) → H' b = some (.lst ys)) ⟨zs, eE11, by rw [List.take_zero, List.append_nil]; exact Paired.mono (fun _ _ h => h.same s11) hZ, s10.trans s11, Tk.refl, fun _ _ _ h => h⟩ (fun _ _ _ ⟨_, _, _, _, _, k⟩ => SqL.of (k _ _ hrE e11)) (fun j y H12o H12 hj ⟨zs', eE12, hZ12, s12', t12, k12⟩ hy => ?_) (fun H12 ⟨zs', eE12, hZ12, s12', t12, k12⟩ => ?_)
          · obtain ⟨rfl, hy2⟩ := hy
            obtain ⟨yy, hyy, hqy⟩ := XB.Paired.get hP11 hy2
            have hqy := QV.ex hqy t12 k12 hNE
            have lz := hZ12.length
            have lpre : (((layer.map (withLeft (cs.map (hl1 n)) (FA n).length)).take i).flatMap (longerL (cs.map (hl1 n)))).length + (longerL (cs.map (hl1 n)) (withLeft (cs.map (hl1 n)) (FA n).length nums)).length ≤ 4096 := by
              have h1 : (((layer.map (withLeft (cs.map (hl1 n)) (FA n).length)).take (i + 1)).flatMap (longerL (cs.map (hl1 n)))).length ≤ ((layer.map (withLeft (cs.map (hl1 n)) (FA n).length)).flatMap (longerL (cs.map (hl1 n)))).length := by
                conv => rhs; rw [← List.take_append_drop (i + 1) (layer.map (withLeft (cs.map (hl1 n)) (FA n).length)), List.flatMap_append, List.length_append]
                omega
              rw [take_snoc hxx, List.flatMap_append, List.length_append, stp, List.length_map] at h1
              have e1 : [withLeft (cs.map (hl1 n)) (FA n).length nums].flatMap (longerL (cs.map (hl1 n))) = longerL (cs.map (hl1 n)) (withLeft (cs.map (hl1 n)) (FA n).length nums) := by simp
              rw [e1] at h1
              omega
            rw [List.length_append, List.length_take] at lz
            refine ⟨rfl, yes_ ⟨_, rfl, zs', eE12, Nat.lt_of_lt_of_le (show zs'.length < 9000 by omega) (by decide), zs' ++ [y], upd_same, ?_, same_put s12' hE, t12.lst eE12, fun b ys hb h => ?_⟩⟩
            · rw [take_snoc hyy, ← List.append_assoc]
              exact Paired.snoc (Paired.mono (fun _ _ h => h.put eE12 fun _ q => q) hZ12) (QV.put (QV.mono hqy hNE) eE12 fun _ q => q)
            · rw [upd_ne hb]
              exact k12 _ _ hb h
          · refine ⟨zs', eE12, ?_, s12'⟩
            rw [lP11, List.take_length] at hZ12
            rw [take_snoc hxx, List.flatMap_append]
            have e1 : [withLeft (cs.map (hl1 n)) (FA n).length nums].flatMap (longerL (cs.map (hl1 n))) = longerL (cs.map (hl1 n)) (withLeft (cs.map (hl1 n)) (FA n).length nums) := by simp
            rw [e1]
            exact hZ12
        · rw [show xs9.length = (layer.map (withLeft (cs.map (hl1 n)) (FA n).length)).length by rw [List.length_map]; exact lP9, List.take_length, stp] at hZ
          refine ⟨_, rfl, E, rfl, ⟨_, SqL.of eE⟩, ?_⟩
          have lZ := hZ.length
          rw [List.length_map] at lZ
          have step_nil : s = cs.length → ext cs.length layer = [] := fun h => ext_end (h ▸ hLay)
          refine for_it (walk_list (xs := zs)) (fun i σ H' => ∃ (y5 y6 : Option V), σ = [some (.ref a), some (.ref b), some (.ref r), some (.ref D), some (.ref E), y5, y6, none, none, none, none] ∧ Same H10 H' ∧ ((ext cs.length layer).take i).find? (bad n cs) = none)
            ⟨y5, y6, rfl, Same.refl _, by rw [List.take_zero]; rfl⟩ (fun _ _ _ _ ⟨_, _, _, s', _⟩ => SqL.of (s' _ _ eE)) (fun i x σ H11o H11 hi ⟨y5, y6, eσ, s11, hno⟩ hy => ?_) (fun σ H11 ⟨y5, y6, eσ, s11, hno⟩ => ?_)
          · obtain ⟨rfl, hx⟩ := hy
            subst eσ
            obtain ⟨xx, hxx, hq⟩ := XB.Paired.get hZ hx
            rw [List.getElem?_map] at hxx
            obtain ⟨nums, k1, rfl⟩ := Option.map_eq_some_iff.mp hxx
            have hq := hq.same s11
            obtain ⟨t, p, e, rfl, ht, hp, he, _⟩ := hq
            refine ⟨t, _, rfl, ht, rfl, _, _, rfl, _, _, rfl, rfl, ?_⟩
            refine ⟨_, rfl, Nat.zero_le _, fun l2 nl2 => upd_gen nl2 fun H12 s12 e12 => ?_⟩
            refine ⟨dI (leftL n cs nums), .list [], ?_, .lst (SqL.of e12) .nil, shN _, rfl, ?_⟩
            · rw [← left_eq]
              exact .lst (SqL.of (s12 _ _ he)) (dints K _ _)
            rw [show PyData.eqv (dI (leftL n cs nums)) (.list []) = bad n cs nums from eqv_emp _]
            refine ⟨_, rfl, ite2 (fun h => ?_) (fun h => ?_)⟩
            · have h : bad n cs nums = true := h
              refine ⟨_, rfl, ?_⟩
              refine q H12 _ (s14.trans (s9.trans (s10.trans (s11.trans s12)))) ?_
              have hlt : s < cs.length := by
                by_cases h2 : s = cs.length
                · rw [step_nil h2] at k1
                  cases k1
                · omega
              have hf : (ext cs.length layer).find? (bad n cs) = some nums := find_at hno k1 h
              rw [show cs.length - s = (cs.length - (s + 1)) + 1 by omega] at hgo
              rw [← hgo]
              show Dp K H12 (.ref p) (dOpt (match (ext cs.length layer).find? (bad n cs) with | some x => some x | none => quarGo (bad n cs) cs.length (cs.length - (s + 1)) (ext cs.length layer)))
              rw [hf]
              exact .tup ((Tk.of s12).sqT hp) (dints K _ _)
            · have h : ¬ bad n cs nums = true := h
              refine ⟨_, _, rfl, s11.trans s12, ?_⟩
              rw [take_snoc k1, List.find?_append, hno]
              show [nums].find? (bad n cs) = none
              rw [List.find?_cons, Bool.eq_false_iff.mpr h]
              rfl
          · subst eσ
            rw [lZ, List.take_length] at hno
            refine ⟨cs.length + 1 - (s + 1), show cs.length + 1 - (s + 1) < cs.length + 1 - s by omega, s + 1, ext cs.length layer, E, zs, y5, y6, rfl, show s + 1 ≤ cs.length + 1 by omega, rfl, s9.trans (s10.trans s11), s11 _ _ eE, ?_, hLay.ext, fun h => step_nil (by omega), Nat.le_trans wt2 hwt, ?_⟩
            · exact Paired.mono (fun _ _ h => QV.mono (h.same s11) fun _ _ => trivial) hZ
            · by_cases h2 : s = cs.length
              · rw [step_nil h2, go_nil]
                rw [h2, Nat.sub_self] at hgo
                exact hgo
              · rw [show cs.length - s = (cs.length - (s + 1)) + 1 by omega] at hgo
                rw [← hgo]
                show _ = (match (ext cs.length layer).find? (bad n cs) with | some x => some x | none => quarGo (bad n cs) cs.length (cs.length - (s + 1)) (ext cs.length layer))
                rw [hno]
end
end XB
set_option Elab.async false
set_option linter.all false
set_option maxRecDepth 100000
set_option maxHeartbeats 4000000
namespace XB
open PySem PySem.Spec PyProof.Rows L2
theorem slMid {K : PySem.W.Frag} {H : Hp} {a : Addr} {l : List (Str × Int)} {Q : VK} (h : Dp K H (.ref a) (dSteps l)) (q : ∀ H' p, Same H H' → Dp K H' (.ref p) (dSteps ((l.drop 1).take 1)) → Q (.ref p) H') : rSlA K (.ref a) (some ((1 : Nat) : Int)) (some ((2 : Nat) : Int)) H Q := by
  obtain ⟨_, xs, e, hS, hV⟩ := h.steps
  cases e
  have hl := hV.len
  rw [List.length_map] at hl
  have e1 : HT.sIx xs.length 0 (some ((1 : Nat) : Int)) = min 1 xs.length := HT.sIx_nat xs.length 0 1
  have e2 : HT.sIx xs.length xs.length (some ((2 : Nat) : Int)) = min 2 xs.length := HT.sIx_nat xs.length xs.length 2
  refine ⟨a, xs, rfl, hS, fun hw => ?_, fun _ p hp => ?_⟩
  · rw [e1] at hw
    have : l = [] := List.length_eq_zero_iff.mp (by omega)
    refine q _ _ (Same.refl _) ?_
    rw [this] at h ⊢
    exact h
  · refine q _ p (same_upd hp) (.tup (SqT.of upd_same) ?_)
    have ec : cutV xs (some ((1 : Nat) : Int)) (some ((2 : Nat) : Int)) = (xs.drop 1).take 1 := by
      unfold cutV
      rw [e1, e2]
      match xs with
      | [] => rfl
      | [x] => rfl
      | x :: y :: z =>
        show ((x :: y :: z).drop (min 1 (z.length + 1 + 1))).take (min 2 (z.length + 1 + 1) - min 1 (z.length + 1 + 1)) = _
        rw [show min 1 (z.length + 1 + 1) = 1 by omega, show min 2 (z.length + 1 + 1) = 2 by omega]
    rw [ec, List.map_take, List.map_drop]
    exact ((DpAll.tk (Tk.of (same_upd hp)) _ (flat_all_steps l) hV).drop 1).take 1
section
variable {P : Program} {w : World} {K : PySem.W.Frag} {mg : Str → Option Value} {base : Heap}
theorem c__law_holds (T : Tx K mg) : Cl P w K mg base CX0 5 "_law_holds" (spDoesHold K) := by
  refine cl0 T.d__law_holds (ps := ["field", "claim"]) (fun _ _ _ _ _ _ us hl => match us, hl with | [_, _], _ => rfl) sc__law_holds (fun vs H Q E h => ?_) (fun f cdv A outer st H vs Q E hr h => ?_)
  · obtain ⟨a, v, F, n, c, rfl, _⟩ := h
    rfl
  · obtain ⟨a, v, F, n, c, rfl, hF, ok, en, hC, gc, q⟩ := h
    have nd := sc__law_holds.nd
    refine ⟨_, (pss_one (ps_ret (pe_cmpR op_eq (pe_cmpR (op_eqD hr.units) (pe_k (c__law_least3 T F) hr (by decide) (by rfl) (pa_cons (pv 0) (pa_cons (pe_ix (ixk_tup (K := K) rfl) (pv 1) pe_int (fun _ _ => rfl)) pa_nil))) (pe_k (c__law_least3 T F) hr (by decide) (by rfl) (pa_cons (pv 0) (pa_cons (pe_ix (ixk_tup (K := K) rfl) (pv 1) pe_int (fun _ _ => rfl)) pa_nil))) (nomark _)) (pe_ix (ixk_tup (K := K) rfl) (pv 1) pe_int (fun _ _ => rfl)) (nomark _)))), ?_⟩
    obtain ⟨b, p, r, rfl, hS, h1, h2⟩ := claim_of hC
    obtain ⟨_, xs, e1, hxS, hxV⟩ := id h1.steps
    cases e1
    obtain ⟨_, ys, e2, hyS, hyV⟩ := id h2.steps
    cases e2
    have g1 := goodS_F en gc.1
    have g2 := goodS_F en gc.2
    have l1 := g1.1
    have l2 := g2.1
    refine ⟨_, rfl, _, rfl, ix0 hS ?_⟩
    refine ⟨a, _, xs, c.1, rfl, hF, ok, .inr hxS, hxV, g1.names, GoodAll.nz g1.2, by omega, fun H1 r1 s1 k1 => ?_⟩
    refine ⟨_, rfl, _, rfl, ix1 ((Tk.of s1).sqT hS) ?_⟩
    refine ⟨a, _, ys, c.2.1, rfl, Dp.sm s1 _ hF, ok, .inr ((Tk.of s1).sqT hyS), DpAll.sm s1 _ hyV, g2.names, GoodAll.nz g2.2, by omega, fun H2 r2 s2 k2 => ?_⟩
    have s12 := s1.trans s2
    refine ⟨_, _, Dp.sm s2 _ k1, k2, sh_dsteps (good_pile ok g1.names), sh_dsteps (good_pile ok g2.names), ?_⟩
    rw [eqv_steps, show decide (lpile F c.1 = lpile F c.2.1) = _ from rev_dec _ _]
    refine ⟨_, rfl, b, _, 2, _, rfl, rfl, (Tk.of s12).sqT hS, atI_nat (j := 2) rfl, rfl, ?_⟩
    rw [bl_dec]
    exact q H2 s12
/-- a drawn claim -/
def spClaim (K : PySem.W.Frag) : Sp := fun vs H Q _ => ∃ (m c g f : Addr) (s : Int) (n : Nat) (F : Fld), vs = [.ref m, .ref f] ∧ Dr H m c g s ∧ Dp K H (.ref f) (dField F) ∧ F.Ok ∧ F.names = ML.take n ∧ s < 800000000 ∧
  ∀ H' r d s', Dr H' m c g s' → s' ≤ s + 19 → Kp m g H H' → Dp K H' (.ref r) (dClaim d) → GoodC n d → Q (.ref r) H'
theorem goodS_of {n : Nat} {F : Fld} {l : List (Str × Int)} (e : F.names = ML.take n) (hl : l.length ≤ 60) (h : GoodAll F l) : GoodS n l := ⟨hl, fun s hs => by rw [← e]; exact h s hs⟩
theorem good_rev {F : Fld} {l : List (Str × Int)} (h : GoodAll F l) : GoodAll F l.reverse := fun s hs => h s (List.mem_reverse.mp hs)
theorem c__law_claim (T : Tx K mg) : Cl P w K mg base CX0 5 "_law_claim" (spClaim K) := by
  refine cl0 T.d__law_claim (ps := ["m", "field"]) (fun _ _ _ _ _ _ us hl => match us, hl with | [_, _], _ => rfl) sc__law_claim (fun vs H Q E h => ?_) (fun fa cdv A outer st H vs Q E hr h => ?_)
  · obtain ⟨m, c, g, f, s, n, F, rfl, _⟩ := h
    rfl
  · obtain ⟨m, c, g, f, s, n, F, rfl, R, hF, ok, en, hs, q⟩ := h
    have nd := sc__law_claim.nd
    have hu := hu_of hr
    refine ⟨_, (pss_cons (ps_set (i := 2) nd rfl (.inl rfl) (pe_k (c__law_steps T) hr (by decide) (by rfl) (pa_cons (pv 0) (pa_cons (pv 1) (pa_cons pe_int (pa_cons pe_bl pa_nil))))))
    (pss_cons (ps_set (i := 3) nd rfl (.inl rfl) (pe_ix (ixk_list (K := K) rfl) (pe_lst (pa_cons (pe_revT (pv 2)) (pa_cons (pe_op (op_catAk (K := K) rfl) (pe_slice sl_tupA (pv 2) (po_some pe_int) po_none) (pe_slice sl_tupA (pv 2) po_none (po_some pe_int))) (pa_cons (pe_k (c__law_back3 T) hr (by decide) (by rfl) (pa_cons (pv 2) pa_nil)) (pa_cons (pe_op (op_catAk (K := K) rfl) (pe_op (op_catAk (K := K) rfl) (pe_slice sl_tupA (pv 2) po_none (po_some pe_int)) (pe_slice sl_tupA (pv 2) (po_some pe_int) po_none)) (pe_slice sl_tupA (pv 2) (po_some pe_int) (po_some pe_int))) pa_nil))))) (pe_k (c_draw T) hr (by decide) (by rfl) (pa_cons (pv 0) (pa_cons pe_int pa_nil))) (fun _ _ => rfl)))
    (pss_cons (ps_set (i := 4) nd rfl (.inl rfl) (pe_cmpR (op_eqD hr.units) (pe_k (c__law_least3 T F) hr (by decide) (by rfl) (pa_cons (pv 1) (pa_cons (pv 2) pa_nil))) (pe_k (c__law_least3 T F) hr (by decide) (by rfl) (pa_cons (pv 1) (pa_cons (pv 3) pa_nil))) (nomark _)))
    (pss_one (ps_ret (pe_tup (pa_cons (pv 2) (pa_cons (pv 3) (pa_cons (pe_ifExp (pt_cmpR op_gt (pe_k (c_draw T) hr (by decide) (by rfl) (pa_cons (pv 0) (pa_cons pe_int pa_nil))) pe_int (nomark _)) (pv 4) (pe_not (pv 4))) pa_nil))))))))), ?_⟩
    refine ⟨_, rfl, _, rfl, m, c, g, f, s, 4, false, F, rfl, R, hF, ok, by decide, by decide, by omega, fun H1 r l s1 R1 hs1 k1 hL gL hl4 => ?_⟩
    obtain ⟨_, xs, e, hS, hV⟩ := id hL.steps
    cases e
    have lV := hV.len
    rw [List.length_map] at lV
    have l4 : l.length ≤ 4 := by omega
    refine ⟨_, rfl, r, xs, rfl, hS, fun p2 n2 => upd_gen n2 fun H2 s2 e2 => ?_⟩
    have d2 : Dp K H2 (.ref p2) (dSteps l.reverse) := .tup (SqT.of e2) (by
      rw [List.map_reverse]
      exact (DpAll.tk (Tk.of s2) _ (flat_all_steps l) hV).rev)
    refine ⟨_, rfl, ((1 : Nat) : Int), rfl, noPart (slFrom (k := 1) (tS hL s2) fun H3 p3 s3 h3 => ?_)⟩
    refine ⟨_, rfl, noPart ⟨((1 : Nat) : Int), rfl, slTo (k := 1) (tS hL (s2.trans s3)) fun H4 p4 s4 h4 => ?_⟩⟩
    refine catD (tS h3 s4) h4 (by rw [List.length_drop, List.length_take]; omega) fun H5 p5 s5 h5 => ?_
    have s25 := (s2.trans s3).trans (s4.trans s5)
    refine ⟨_, rfl, r, l, rfl, tS hL s25, by omega, fun H6 p6 s6 h6 => ?_⟩
    have s26 := s25.trans s6
    refine ⟨_, rfl, noPart ⟨((1 : Nat) : Int), rfl, slTo (k := 1) (tS hL s26) fun H7 p7 s7 h7 => ?_⟩⟩
    refine ⟨_, rfl, ((2 : Nat) : Int), rfl, noPart (slFrom (k := 2) (tS hL (s26.trans s7)) fun H8 p8 s8 h8 => ?_)⟩
    refine catD (tS h7 s8) h8 (by rw [List.length_drop, List.length_take]; omega) fun H9 p9 s9 h9 => ?_
    have s29 := ((s26.trans s7).trans s8).trans s9
    refine ⟨_, rfl, ((1 : Nat) : Int), rfl, ((2 : Nat) : Int), rfl, slMid (tS hL s29) fun H10 p10 s10 h10 => ?_⟩
    refine catD (tS h9 s10) h10 (by rw [List.length_append, List.length_drop, List.length_take, List.length_take, List.length_drop]; omega) fun H11 p11 s11 h11 => ?_
    refine ⟨four_sz, fun D hD => upd_gen hD fun H12 s12 e12 => ?_⟩
    have s1012 := (s10.trans s11).trans s12
    have s212 := s29.trans s1012
    have R12 := R1.same s212
    have nD := (R1.same (s29.trans (s10.trans s11))).nm hD
    refine ⟨_, rfl, m, c, g, s1, 4, rfl, R12, by omega, by omega, by omega, fun rr H13 r0 r1 R13 k13 => ?_⟩
    have pick : ∃ (a : Nat) (o : Addr) (lo : List (Str × Int)), rr = (a : Int) ∧ [V.ref p2, .ref p5, .ref p6, .ref p11][a]? = some (.ref o) ∧ Dp K H12 (.ref o) (dSteps lo) ∧ GoodAll F lo ∧ lo.length ≤ 20 := by
      have s36 := ((s3.trans s4).trans (s5.trans s6)).trans ((s7.trans s8).trans s9)
      rcases (show rr = 0 ∨ rr = 1 ∨ rr = 2 ∨ rr = 3 by omega) with h | h | h | h
      · exact ⟨0, p2, _, h, rfl, tS d2 (s36.trans s1012), good_rev gL, by rw [List.length_reverse]; omega⟩
      · exact ⟨1, p5, _, h, rfl, tS h5 (((s6.trans s7).trans (s8.trans s9)).trans s1012), (gL.drop 1).app (gL.take 1), by rw [List.length_append, List.length_drop, List.length_take]; omega⟩
      · exact ⟨2, p6, _, h, rfl, tS h6 ((s7.trans (s8.trans s9)).trans s1012), good_back gL, by rw [len_back]; omega⟩
      · exact ⟨3, p11, _, h, rfl, tS h11 s12, ((gL.take 1).app (gL.drop 2)).app ((gL.drop 1).take 1), by rw [List.length_append, List.length_append, List.length_take, List.length_drop, List.length_take, List.length_drop]; omega⟩
    obtain ⟨ia, o, lo, erra, hpk, ho, gO, lo20⟩ := pick
    refine ⟨D, _, rr, .ref o, rfl, rfl, SqL.of (k13 _ _ nD.1 nD.2.2 e12), at_of (j := ia) erra hpk, ?_⟩
    have t13 := R12.tk k13
    have ho13 := Dp.tk t13 _ (flat_steps lo) ho
    have hL13 := Dp.tk t13 _ (flat_steps l) (tS hL s212)
    have hF13 := Dp.tk ((R.tk k1).trans ((Tk.of s212).trans t13)) _ (flat_field F) hF
    obtain ⟨_, xs13, e, hS13, hV13⟩ := id hL13.steps
    cases e
    obtain ⟨_, ys13, e, hyS13, hyV13⟩ := id ho13.steps
    cases e
    refine ⟨_, rfl, _, rfl, f, _, xs13, l, rfl, hF13, ok, .inr hS13, hV13, gL.names, gL.nz, by omega, fun H14 r14 s14 h14 => ?_⟩
    refine ⟨_, rfl, _, rfl, f, _, ys13, lo, rfl, tF hF13 s14, ok, .inr ((Tk.of s14).sqT hyS13), DpAll.tk (Tk.of s14) _ (flat_all_steps lo) hyV13, gO.names, gO.nz, by omega, fun H15 r15 s15 h15 => ?_⟩
    refine ⟨_, _, Dp.sm s15 _ h14, h15, sh_dsteps (good_pile ok gL.names), sh_dsteps (good_pile ok gO.names), ?_⟩
    generalize PyData.eqv (dSteps (lpile F l)) (dSteps (lpile F lo)) = bb
    have s135 := s14.trans s15
    have R15 := R13.same s135
    have kk := ((k1.trans (Kp.of s212)).trans k13).trans (Kp.of s135)
    refine ⟨_, rfl, _, rfl, ?_⟩
    refine ⟨_, rfl, m, c, g, s1 + 1, 4, rfl, R15, by omega, by omega, by omega, fun r3 H16 r0 r1 R16 k16 => ?_⟩
    have t16 := R15.tk k16
    have fin : ∀ (b2 : Bool) (t : Addr), H16 t = none → Q (.ref t) (upd H16 t (.tup [.ref r, .ref o, .bl b2])) := fun b2 t nt => upd_gen nt fun H17 s17 e17 => by
      refine q H17 t (l, lo, b2) (s1 + 1 + 1) (R16.same s17) (by omega) ((kk.trans k16).trans (Kp.of s17)) (.tup (SqT.of e17) (.cons ?_ (.cons ?_ (.cons (.bl _) .nil)))) ⟨goodS_of en (show l.length ≤ 60 by omega) gL, goodS_of en (show lo.length ≤ 60 by omega) gO⟩
      · exact tS (Dp.tk t16 _ (flat_steps l) (tS hL13 s135)) s17
      · exact tS (Dp.tk t16 _ (flat_steps lo) (tS ho13 s135)) s17
    refine ⟨_, _, rfl, rfl, _, rfl, ite2 (fun h => ?_) (fun h => ?_)⟩
    · exact ⟨_, rfl, three_sz, fun t nt => fin _ t nt⟩
    · exact ⟨_, rfl, _, rfl, three_sz, fun t nt => fin _ t nt⟩
end
end XB
set_option Elab.async false
set_option linter.all false
set_option maxRecDepth 100000
set_option maxHeartbeats 4000000
namespace XB
open PySem PySem.Spec PyProof.Rows L2
def dHv (n : Nat) (c : Clm) : PyData := .list ((FA n).map fun F => .bool (holdsB F c))
def dHeld (n : Nat) (cs : List Clm) : PyData := .list (cs.map (dHv n))
/-- numbers of claims are numbers of claims -/
def LtR (total : Nat) (layer : List (List Nat)) : Prop := ∀ nums ∈ layer, ∀ k ∈ nums, k < total
theorem LtR.ext {total : Nat} {layer : List (List Nat)} (h : LtR total layer) : LtR total (XB.ext total layer) := fun nums hn k hk => by
  unfold XB.ext at hn
  obtain ⟨n0, h0, h1⟩ := List.mem_flatMap.mp hn
  obtain ⟨j, hj, rfl⟩ := List.mem_map.mp h1
  obtain ⟨i, hi, rfl⟩ := List.mem_range'.mp hj
  rcases List.mem_append.mp hk with g | g
  · exact h n0 h0 k g
  · rw [List.mem_singleton.mp g]
    omega
theorem ext_snoc (total : Nat) (layer : List (List Nat)) (nums : List Nat) : ext total (layer ++ [nums]) = ext total layer ++ (List.range' (bgn nums) (total - bgn nums)).map fun k => nums ++ [k] := by
  unfold ext
  rw [List.flatMap_append]
  simp
theorem shT (l : List Nat) : SeqAt.shaped (dN l) = true := by
  have h := shN l
  exact h
theorem eqv_empT : ∀ l : List Nat, PyData.eqv (dN l) (.tuple []) = l.isEmpty
  | [] => rfl
  | _ :: _ => rfl
theorem bl_V {K : PySem.W.Frag} {H : Hp} {α : Type} {f : α → Bool} : ∀ {xs : List V} {l : List α}, DpAll K H xs (l.map fun t => .bool (f t)) → xs = l.map fun t => V.bl (f t)
  | _, [], .nil => rfl
  | _, k :: l, .cons h t => by
    have := bl_V t
    cases h
    rw [this]
    rfl
theorem no_false (l : List Bool) : (!inV (.bl false) (l.map V.bl)) = l.all id := by
  induction l with
  | nil => rfl
  | cons b l ih =>
    have ih : (!(l.map V.bl).any fun y => eqV y (V.bl false)) = l.all id := ih
    show (!((eqV (V.bl b) (V.bl false)) || (l.map V.bl).any fun y => eqV y (V.bl false))) = (b && l.all id)
    cases b with
    | false => rfl
    | true =>
      rw [show eqV (V.bl true) (V.bl false) = false from rfl, Bool.false_or, Bool.true_and]
      exact ih
theorem flat_bls (l : List Bool) : (l.map V.bl).all flatV = true := by
  rw [List.all_map, List.all_eq_true]
  intro k _
  rfl
theorem ext_len (total : Nat) {layer : List (List Nat)} (h : wt total layer ≤ 64) : (ext total layer).length ≤ 64 := Nat.le_trans (len_wt _ _) (Nat.le_trans (wt_ext _ _) h)
theorem wt_take (total j : Nat) (layer : List (List Nat)) : wt total (layer.take j) ≤ wt total layer := by
  have h := wt_app total (layer.take j) (layer.drop j)
  rw [List.take_append_drop] at h
  omega
theorem flat_nums (l : List Nat) : flatD (dN l) = true := by
  show flatAll (l.map iD) = true
  exact flatAll_of fun d hd => by
    obtain ⟨y, _, rfl⟩ := List.mem_map.mp hd
    rfl
section
variable {P : Program} {w : World} {K : PySem.W.Frag} {mg : Str → Option Value} {base : Heap}
def spLQuarrel (K : PySem.W.Frag) : Sp := fun vs H Q _ => ∃ (a : Addr) (n : Nat) (cs : List Clm), vs = [.ref a, .int cs.length] ∧ 2 ≤ n ∧ n ≤ 4 ∧ Dp K H (.ref a) (dHeld n cs) ∧ cs ≠ [] ∧ cs.length ≤ 6 ∧ ∀ H' v, Same H H' → Dp K H' v (dOpt (quarL n cs)) → Q v H'
theorem c__law_quarrel (T : Tx K mg) : Cl P w K mg base CX0 1 "_law_quarrel" (spLQuarrel K) := by
  refine cl0 T.d__law_quarrel (ps := ["held", "total"]) (fun _ _ _ _ _ _ us hl => match us, hl with | [_, _], _ => rfl) sc__law_quarrel (fun vs H Q E h => ?_) (fun f cdv A outer st H vs Q E hr h => ?_)
  · obtain ⟨a, n, cs, rfl, _⟩ := h
    rfl
  · obtain ⟨a, n, cs, rfl, n2, n4, hH, hne, l6, q⟩ := h
    have nd := sc__law_quarrel.nd
    have hu := u65 hr
    refine ⟨_, (pss_cons (ps_set (i := 2) nd rfl (.inl rfl) (pe_lst (pa_cons (pe_tup pa_nil) pa_nil)))
    (pss_cons (ps_for PassesOwn.never rfl (pi_range1 (by rfl) T.b_range (pa_cons (pv 1) pa_nil)) (pg_name (i := 3) nd rfl (.inl rfl))
    (pss_cons (ps_set (i := 4) nd rfl (.inl rfl) (pe_lst pa_nil))
    (pss_cons (ps_for PassesOwn.never rfl (pi_list (pv 2)) (pg_name (i := 5) nd rfl (.inr rfl))
    (pss_cons (ps_set (i := 6) nd rfl (.inl rfl) (pe_ifExp (pt_cmpR (op_neD hr.units) (pv 5) (pe_tup pa_nil) (nomark _)) (pe_op op_add (pe_ix (ixk_tup (K := K) rfl) (pv 5) (pe_un un_neg pe_int) (fun _ _ => rfl)) pe_int) pe_int))
    (pss_one (ps_set (i := 4) nd rfl (.inl rfl) (pe_op op_cat (pv 4) (pe_lc (own := [("k", 7)]) (g := (gName 7)) (tt := tYes) (by rfl) nd (pi_range2 (by rfl) T.b_range (pa_cons (pv 6) (pa_cons (pv 1) pa_nil))) (blkOk_by (own := [("k", 7)]) (N := ["held", "total", "layer", "size", "longer", "numbers", "begin", "k", "far"]) (sc := defScope s__law_quarrel) (by decide +kernel)) (fun _ _ _ _ _ => (pg_name (i := 7) nd rfl (by first | exact Or.inl rfl | exact Or.inr rfl))) (fun _ _ _ _ _ => pts_nil) (fun _ _ _ _ _ => (pe_op (op_catAk (K := K) rfl) (pv 5) (pe_tup (pa_cons (pv 7) pa_nil))))))))))
    (pss_cons (ps_for PassesOwn.never rfl (pi_list (pv 4)) (pg_name (i := 5) nd rfl (.inr rfl))
    (pss_one (ps_if (pt_cmpR (op_eqD hr.units) (pe_lc (own := [("k", 7)]) (g := (gName 7)) (tt := _) (by rfl) nd (pi_range1 (by rfl) T.b_range (pa_cons (pe_lenS (by rfl) T.b_len (pe_ix (ixk_list (K := K) rfl) (pv 0) pe_int (fun _ _ => rfl))) pa_nil)) (blkOk_by (own := [("k", 7)]) (N := ["held", "total", "layer", "size", "longer", "numbers", "begin", "k", "far"]) (sc := defScope s__law_quarrel) (by decide +kernel)) (fun _ _ _ _ _ => (pg_name (i := 7) nd rfl (by first | exact Or.inl rfl | exact Or.inr rfl))) (fun _ _ _ _ _ => pts_one (pt_cmpR (opk_notIn_seq (K := K) rfl) pe_bl (pe_lc (own := [("far", 8)]) (g := (gName 8)) (tt := tYes) (by rfl) nd (pi_tupk (K := K) rfl (pv 5)) (blkOk_by (own := [("far", 8)]) (N := ["held", "total", "layer", "size", "longer", "numbers", "begin", "k", "far"]) (sc := _) (by rfl)) (fun _ _ _ _ _ => (pg_name (i := 8) nd rfl (by first | exact Or.inl rfl | exact Or.inr rfl))) (fun _ _ _ _ _ => pts_nil) (fun _ _ _ _ _ => (pe_ix (ixk_list (K := K) rfl) (pe_ix (ixk_list (K := K) rfl) (pv 0) (pv 8) (fun _ _ => rfl)) (pv 7) (fun _ _ => rfl)))) (by rfl))) (fun _ _ _ _ _ => (pv 7))) (pe_lst pa_nil) (nomark _)) (pss_one (ps_ret (pv 5))) pss_nil)))
    (pss_one (ps_set (i := 2) nd rfl (.inl rfl) (pv 4)))))))
    (pss_one (ps_ret pe_non)))), ?_⟩
    have l64 := fa_64 n2 n4
    obtain ⟨_, hs, e, hhS, hhV⟩ := lst_of hH
    cases e
    have lhs := hhV.len
    rw [List.length_map] at lhs
    have fl64 := l64
    -- a claim's row
    have rowAt : ∀ {H' : Hp}, Same H H' → ∀ k, k < cs.length → ∃ (c : Clm) (u : Addr) (us : List V), cs[k]? = some c ∧ hs[k]? = some (.ref u) ∧ SqL K H' u us ∧ us = (FA n).map fun F => V.bl (holdsB F c) := fun {H'} s k hk => by
      have hc : cs[k]? = some cs[k] := List.getElem?_eq_getElem hk
      have hv : hs[k]? = some hs[k] := List.getElem?_eq_getElem (by omega)
      obtain ⟨d, g1, p1⟩ := hhV.get hv
      rw [List.getElem?_map, hc] at g1
      cases g1
      obtain ⟨u, us, eu, huS, huV⟩ := lst_of (Dp.sm s _ p1)
      rw [eu] at hv
      exact ⟨_, u, us, hc, hv, huS, bl_V huV⟩
    refine ⟨Nat.zero_le _, fun t0 nt0 => upd_gen nt0 fun H1 s1 e1 => ⟨one_sz, fun D0 nD0 => upd_gen nD0 fun H2 s2 e2 => ?_⟩⟩
    refine ⟨_, rfl, cs.length, rfl, by omega, by omega, ?_⟩
    refine for_range (lo := 0) (n := cs.length) (fun i σ H' => ∃ (D : Addr) (y3 y4 y5 y6 : Option V) (layer : List (List Nat)), σ = [some (.ref a), some (.int cs.length), some (.ref D), y3, y4, y5, y6, none, none] ∧ Same H H' ∧ RowG K H' D (layer.map dN) ∧ Lay cs.length i layer ∧ LtR cs.length layer ∧ wt cs.length layer ≤ 64 ∧ quarGo (bad n cs) cs.length (cs.length - i) layer = quarL n cs)
      ⟨D0, none, none, none, none, [[]], rfl, s1.trans s2, ⟨_, e2, .cons (.tup ((Tk.of s2).sqT (SqT.of e1)) .nil) .nil⟩, ⟨fun nums hn => by rw [List.mem_singleton.mp hn]; exact ⟨Nat.le_refl _, Nat.zero_le _, rfl⟩⟩, (fun nums hn k hk => by rw [List.mem_singleton.mp hn] at hk; cases hk), ?_, rfl⟩ (fun i σ H3 hi ⟨D, y3, y4, y5, y6, layer, eσ, s3, hD, hLay, hLt, hwt, hgo⟩ => ?_) (fun σ H3 ⟨D, y3, y4, y5, y6, layer, eσ, s3, hD, hLay, hLt, hwt, hgo⟩ => ?_)
    · show 2 ^ (cs.length - 0) + 0 ≤ 64
      exact Nat.pow_le_pow_right (by decide) (show cs.length - 0 ≤ 6 by omega)
    · subst eσ
      rw [Int.zero_add]
      obtain ⟨xs, eD, hX⟩ := id hD
      have lxs := hX.len
      rw [List.length_map] at lxs
      have ll := len_wt cs.length layer
      refine ⟨Nat.zero_le _, fun L0 nL0 => upd_gen nL0 fun H4 s4 e4 => ?_⟩
      refine ⟨_, rfl, D, rfl, ⟨_, SqL.of (s4 _ _ eD)⟩, ?_⟩
      refine for_it (walk_list (xs := xs)) (fun j σ H' => ∃ (L : Addr) (y5 y6 : Option V), σ = [some (.ref a), some (.int cs.length), some (.ref D), some (.int (i : Nat)), some (.ref L), y5, y6, none, none] ∧ Same H4 H' ∧ RowG K H' L ((ext cs.length (layer.take j)).map dN))
        ⟨L0, y5, y6, rfl, Same.refl _, ⟨[], e4, .nil⟩⟩ (fun _ _ _ _ ⟨_, _, _, _, s', _⟩ => SqL.of ((s4.trans s') _ _ eD)) (fun j x σ H5o H5 hj ⟨L, y5, y6, eσ, s5, hL⟩ hy => ?_) (fun σ H5 ⟨L, y5, y6, eσ, s5, hL⟩ => ?_)
      · obtain ⟨rfl, hx⟩ := hy
        subst eσ
        obtain ⟨d, g1, p1⟩ := hX.get hx
        rw [List.getElem?_map] at g1
        obtain ⟨nums, k1, rfl⟩ := Option.map_eq_some_iff.mp g1
        obtain ⟨hb1, hb2, hb3⟩ := hLay.b nums (List.mem_of_getElem? k1)
        have p1 := Dp.sm (s4.trans s5) _ p1
        obtain ⟨t, ts, et, htS, htV⟩ := tup_of p1
        subst et
        have ets := ints_V htV
        subst ets
        show tIf _ _ _ _ _ _
        refine by_q (fun v H' => v = .int (bgn nums : Nat) ∧ Same H5 H') (fun Qx hQ => ?_) (fun v H6 ⟨ev, s6⟩ => ?_)
        · refine ⟨_, rfl, Nat.zero_le _, fun t0 m0 => upd_gen m0 fun H6 s6 e6 => ⟨dN nums, .tuple [], Dp.sm s6 _ p1, .tup (SqT.of e6) .nil, shT _, rfl, ?_⟩⟩
          have htS6 := (Tk.of s6).sqT htS
          rw [eqv_empT]
          rcases List.eq_nil_or_concat nums with e | ⟨l, k, e⟩
          · rw [e] at hQ ⊢
            exact ⟨_, rfl, iteF (hQ _ _ ⟨rfl, s6⟩)⟩
          · rw [e] at hQ htS6 ⊢
            rw [List.concat_eq_append] at hQ htS6 ⊢
            rw [List.map_append] at htS6
            rw [show (!(l ++ [k]).isEmpty) = true by cases l <;> rfl]
            refine ⟨_, rfl, iteT ⟨_, rfl, 1, rfl, _, _, _, _, rfl, rfl, htS6, at_last _ _, _, _, rfl, rfl, hQ _ _ ⟨?_, s6⟩⟩⟩
            rw [bgn_snoc]
            rfl
        · subst ev
          refine ⟨_, rfl, _, rfl, _, rfl, _, _, rfl, by omega, fun E hE => ?_⟩
          rw [show ((cs.length : Int) - ((bgn nums : Nat) : Int)).toNat = cs.length - bgn nums by omega]
          refine lc_range (lo := ((bgn nums : Nat) : Int)) (n := cs.length - bgn nums) (fun m H' => RowG K H' E (((List.range' (bgn nums) (cs.length - bgn nums)).take m).map fun k => dN (nums ++ [k])) ∧ Same H6 H') ⟨⟨[], upd_same, .nil⟩, same_upd hE⟩ (fun m H7 hm ⟨⟨zs, eE, hZ⟩, s7⟩ => ?_) (fun H7 ⟨⟨zs, eE, hZ⟩, s7⟩ => ?_)
          · rw [show ((bgn nums : Nat) : Int) + (m : Int) = ((bgn nums + m : Nat) : Int) by omega]
            have lz := hZ.len
            rw [List.length_map, List.length_take] at lz
            refine ⟨rfl, yes_ ⟨_, rfl, _, rfl, one_sz, fun u mu => upd_gen mu fun H8 s8 e8 => ?_⟩⟩
            refine catA ((Tk.of ((s6.trans s7).trans s8)).sqT htS) (SqT.of e8) (Nat.le_of_lt (small1000 (by rw [List.length_singleton, List.length_map]; omega))) fun H9 p9 s9 h9 => ?_
            have s79 := s8.trans s9
            have e9 := s79 _ _ eE
            refine ⟨zs, e9, small1000 (by omega), ⟨_, upd_same, ?_⟩, same_put (s7.trans s79) hE⟩
            have hrg : (List.range' (bgn nums) (cs.length - bgn nums))[m]? = some (bgn nums + m) := by
              rw [List.getElem?_range' hm, Nat.one_mul]
            rw [take_snoc hrg, List.map_append]
            have t10 : Tk H9 (upd H9 E (.lst (zs ++ [.ref p9]))) := Tk.refl.lst e9
            have fl : ∀ l : List Nat, flatAll (l.map fun k => dN (nums ++ [k])) = true := fun l => flatAll_of fun d hd => by
              obtain ⟨y, _, rfl⟩ := List.mem_map.mp hd
              exact flat_nums _
            refine (DpAll.tk ((Tk.of s79).trans t10) _ (fl _) hZ).app (.cons (Dp.tk t10 _ (flat_nums _) (.tup ?_ (dints K _ (nums ++ [bgn nums + m])))) .nil)
            rw [List.map_append]
            exact h9
          · rw [List.take_of_length_le (by rw [List.length_range']; exact Nat.le_refl _)] at hZ
            have w1 := wt_take cs.length j layer
            have w2 := ext_len cs.length (layer := layer.take j) (by omega)
            refine rowCatG (hL.same (s6.trans s7)) ⟨zs, eE, hZ⟩ (by rw [List.length_map, List.length_map, List.length_range']; omega) fun H8 p8 s8 n8 h8 => ⟨p8, _, _, rfl, (s5.trans s6).trans (s7.trans s8), ?_⟩
            rw [take_snoc k1, ext_snoc, List.map_append, List.map_map]
            exact h8
      · subst eσ
        rw [lxs, List.take_length] at hL
        obtain ⟨zs, eL, hZ⟩ := id hL
        have lzs := hZ.len
        rw [List.length_map] at lzs
        have hLx := hLt.ext
        have s05 := (s3.trans s4).trans s5
        refine ⟨_, rfl, L, rfl, ⟨_, SqL.of eL⟩, ?_⟩
        refine for_it (walk_list (xs := zs)) (fun j σ H' => ∃ (y5 : Option V), σ = [some (.ref a), some (.int cs.length), some (.ref D), some (.int (i : Nat)), some (.ref L), y5, y6, none, none] ∧ Same H5 H' ∧ ((ext cs.length layer).take j).find? (bad n cs) = none)
          ⟨y5, rfl, Same.refl _, rfl⟩ (fun _ _ _ _ ⟨_, _, s', _⟩ => SqL.of (s' _ _ eL)) (fun j x σ H6o H6 hj ⟨y5, eσ, s6, hno⟩ hy => ?_) (fun σ H6 ⟨y5, eσ, s6, hno⟩ => ?_)
        · obtain ⟨rfl, hx⟩ := hy
          subst eσ
          obtain ⟨d, g1, p1⟩ := hZ.get hx
          rw [List.getElem?_map] at g1
          obtain ⟨nums, k1, rfl⟩ := Option.map_eq_some_iff.mp g1
          have hlt := hLx nums (List.mem_of_getElem? k1)
          have p1 := Dp.sm s6 _ p1
          obtain ⟨t, ts, et, htS, htV⟩ := tup_of p1
          subst et
          have ets := ints_V htV
          subst ets
          have hln := (hLay.ext.b nums (List.mem_of_getElem? k1)).2.2
          have s06 := s05.trans s6
          obtain ⟨c0, u0, us0, _, hv0, hu0, eus⟩ := rowAt s06 0 (by omega)
          have lus : us0.length = (FA n).length := by rw [eus, List.length_map]
          refine ⟨_, rfl, _, _, 0, _, rfl, rfl, s06.seq hhS, at_of (j := 0) rfl hv0, u0, us0, rfl, .inl hu0, us0.length, rfl, by omega, by omega, fun E hE => ?_⟩
          rw [show ((us0.length : Int)).toNat = (FA n).length by omega]
          refine lc_range (lo := 0) (n := (FA n).length) (fun m H' => H' E = some (.lst ((((List.range (FA n).length).take m).filter fun t => nums.all fun k => holdK n cs k t).map fun k => V.int (k : Nat))) ∧ Same H6 H') ⟨upd_same, same_upd hE⟩ (fun m H7 hm ⟨eE, s7⟩ => ?_) (fun H7 ⟨eE, s7⟩ => ?_)
          · rw [Int.zero_add]
            refine ⟨rfl, _, rfl, t, rfl, ⟨_, (Tk.of s7).sqT htS⟩, fun E2 hE2 => ?_⟩
            have hm2 : (FA n)[m]? = some (FA n)[m] := List.getElem?_eq_getElem hm
            refine lc_it (walk_tup (xs := nums.map fun k => V.int (k : Nat))) (fun q H' => H' E2 = some (.lst (((nums.take q).map fun k => holdK n cs k m).map V.bl)) ∧ Same H7 H') ⟨upd_same, same_upd hE2⟩ (fun _ _ _ ⟨_, s'⟩ => (Tk.of (s7.trans s')).sqT htS) (fun q y H8o H8 hq ⟨eE2, s8⟩ hy => ?_) (fun H8 ⟨eE2, s8⟩ => ?_)
            · obtain ⟨rfl, hx2⟩ := hy
              rw [List.getElem?_map] at hx2
              obtain ⟨k, k2, rfl⟩ := Option.map_eq_some_iff.mp hx2
              have s08 := s06.trans (s7.trans s8)
              obtain ⟨c, u, us, hc, hv, huS, eu⟩ := rowAt s08 k (hlt k (List.mem_of_getElem? k2))
              have hb : us[m]? = some (V.bl (holdsB (FA n)[m] c)) := by rw [eu, List.getElem?_map, hm2]; rfl
              have hK : holdK n cs k m = holdsB (FA n)[m] c := by
                unfold holdK holdAt
                rw [hc]
                show (match (FA n)[m]? with | some F => holdsB F c | none => false) = _
                rw [hm2]
              refine ⟨rfl, yes_ ⟨_, rfl, _, rfl, _, _, _, _, rfl, rfl, s08.seq hhS, at_of (j := k) rfl hv, _, rfl, _, _, _, _, rfl, rfl, huS, at_of (j := m) rfl hb, _, eE2, ?_, ?_, same_put s8 hE2⟩⟩
              · rw [List.length_map, List.length_map, List.length_take]
                exact small1000 (by omega)
              · rw [upd_same, take_snoc k2, List.map_append, List.map_append]
                show _ = some (HO.lst (_ ++ [V.bl (holdK n cs k m)]))
                rw [hK]
            · rw [List.length_map, List.take_length] at eE2
              have eE8 := s8 _ _ eE
              have hjr : (List.range (FA n).length)[m]? = some m := by
                rw [List.getElem?_eq_getElem (by rw [List.length_range]; exact hm), List.getElem_range]
              have ea : (nums.map fun k => holdK n cs k m).all id = nums.all fun k => holdK n cs k m := by rw [List.all_map]; rfl
              refine ⟨E2, _, rfl, .inl (SqL.of eE2), rfl, flat_bls _, ?_⟩
              have nf := no_false (nums.map fun k => holdK n cs k m)
              rw [ea] at nf
              rw [take_snoc hjr, List.filter_append, List.map_append]
              rw [if_pos rfl, nf]
              refine ⟨_, rfl, ite2 (fun h => ?_) (fun h => ?_)⟩
              · have h : (nums.all fun k => holdK n cs k m) = true := h
                rw [show [m].filter (fun t => nums.all fun k => holdK n cs k t) = [m] by simp only [List.filter_cons, h, if_true, List.filter_nil]]
                refine ⟨_, rfl, _, eE8, small1000 ?_, upd_same, same_put (s7.trans s8) hE⟩
                rw [List.length_map]
                have := List.length_filter_le (fun t => nums.all fun k => holdK n cs k t) ((List.range (FA n).length).take m)
                rw [List.length_take, List.length_range] at this
                omega
              · have h : ¬ (nums.all fun k => holdK n cs k m) = true := h
                rw [show [m].filter (fun t => nums.all fun k => holdK n cs k t) = [] by simp only [List.filter_cons, h, List.filter_nil]; rfl, List.map_nil, List.append_nil]
                exact ⟨eE8, s7.trans s8⟩
          · rw [List.take_of_length_le (by rw [List.length_range]; exact Nat.le_refl _)] at eE
            refine ⟨Nat.zero_le _, fun l2 nl2 => upd_gen nl2 fun H8 s8 e8 => ?_⟩
            refine ⟨dI (leftL n cs nums), .list [], .lst (SqL.of (s8 _ _ eE)) (dints K _ _), .lst (SqL.of e8) .nil, shN _, rfl, ?_⟩
            rw [show PyData.eqv (dI (leftL n cs nums)) (.list []) = bad n cs nums from eqv_emp _]
            have s68 := s7.trans s8
            refine ⟨_, rfl, ite2 (fun h => ?_) (fun h => ?_)⟩
            · have h : bad n cs nums = true := h
              refine ⟨_, rfl, q H8 _ (s06.trans s68) ?_⟩
              have hf : (ext cs.length layer).find? (bad n cs) = some nums := find_at hno k1 h
              rw [show cs.length - i = (cs.length - (i + 1)) + 1 by omega] at hgo
              rw [← hgo]
              show Dp K H8 (.ref t) (dOpt (match (ext cs.length layer).find? (bad n cs) with | some x => some x | none => quarGo (bad n cs) cs.length (cs.length - (i + 1)) (ext cs.length layer)))
              rw [hf]
              exact .tup ((Tk.of s68).sqT htS) (dints K _ _)
            · have h : ¬ bad n cs nums = true := h
              refine ⟨_, rfl, s6.trans s68, ?_⟩
              rw [take_snoc k1, List.find?_append, hno]
              show [nums].find? (bad n cs) = none
              rw [List.find?_cons, Bool.eq_false_iff.mpr h]
              rfl
        · subst eσ
          rw [lzs, List.take_length] at hno
          refine ⟨_, rfl, L, _, _, y5, y6, ext cs.length layer, rfl, s05.trans s6, hL.same s6, hLay.ext, hLx, Nat.le_trans (wt_ext _ _) hwt, ?_⟩
          rw [show cs.length - i = (cs.length - (i + 1)) + 1 by omega] at hgo
          rw [← hgo]
          show _ = (match (ext cs.length layer).find? (bad n cs) with | some x => some x | none => quarGo (bad n cs) cs.length (cs.length - (i + 1)) (ext cs.length layer))
          rw [hno]
    · subst eσ
      refine q H3 .non s3 ?_
      rw [Nat.sub_self] at hgo
      rw [← hgo]
      exact .non
end
end XB
set_option linter.all false
namespace XM
section
variable {α : Type} [DecidableEq α] {O O2 : Ord α}
/-- what is apart in one is apart in the other: a least pile of the one does in the other what its steps did -/
theorem ins_more (hm : ∀ a b, O.tc a b = false → O2.tc a b = false) {x : α × Int} : ∀ {r q : Row α}, NF O r → x.2 ≠ 0 → NF O2 q → act O2 (ins O x r).reverse q = ins O2 x (act O2 r.reverse q)
  | [], _, _, _, _ => rfl
  | y :: r, q, h, hx, hq => by
    obtain ⟨y0, yt, yr⟩ := h
    have hQ : NF O2 (act O2 r.reverse q) := nf_act (fun w hw => nf_nz yr w (List.mem_reverse.mp hw)) hq
    by_cases e : y.1 = x.1
    · obtain ⟨y1, y2⟩ := y
      obtain ⟨x1, x2⟩ := x
      have e : y1 = x1 := e
      subst e
      rw [ins_same, List.reverse_cons, act_app, act_cons, act_nil, ins_join y0 hx hQ]
      by_cases h0 : y2 + x2 = 0
      · rw [if_pos h0, if_pos h0]
      · rw [if_neg h0, if_neg h0, List.reverse_cons, act_app]
        rfl
    · have stay : act O2 (x :: y :: r).reverse q = ins O2 x (act O2 (y :: r).reverse q) := by
        rw [List.reverse_cons, act_app]
        rfl
      cases hc : O.tc y.1 x.1
      · rw [ins_apart hc]
        cases hA : O.lt y.1 x.1 && top O x.1 r
        · rw [if_neg (by decide), List.reverse_cons, act_app, ins_more hm yr hx hq, List.reverse_cons, act_app]
          exact ins_comm (hm _ _ hc) hQ
        · rw [if_pos rfl]
          exact stay
      · rw [ins_touch hc e]
        exact stay
theorem act_more (hm : ∀ a b, O.tc a b = false → O2.tc a b = false) : ∀ {l r q : Row α}, NZ l → NF O r → NF O2 q → act O2 (act O l r).reverse q = act O2 l (act O2 r.reverse q) := by
  intro l
  induction l with
  | nil => exact fun _ _ _ => rfl
  | cons x l ih =>
    intro r q z hr hq
    have hx := z x List.mem_cons_self
    rw [act_cons, act_cons, ih (fun y hy => z y (List.mem_cons_of_mem _ hy)) (nf_ins hx hr) hq, ins_more hm hr hx hq]
theorem alike_more (hm : ∀ a b, O.tc a b = false → O2.tc a b = false) {l m : Row α} (zl : NZ l) (zm : NZ m) (h : act O l [] = act O m []) : act O2 l [] = act O2 m [] := by
  have n1 : NF O ([] : Row α) := True.intro
  have n2 : NF O2 ([] : Row α) := True.intro
  have a := act_more hm zl n1 n2
  have b := act_more hm zm n1 n2
  have e : act O2 l [] = act O2 (act O l []).reverse [] := a.symm
  rw [e, h]
  exact b
end
end XM
set_option Elab.async false
set_option linter.all false
set_option maxRecDepth 100000
set_option maxHeartbeats 4000000
namespace XB
open PySem PySem.Spec PyProof.Rows L2
theorem lt_pair (p q : Str × Str) : PySem.W.dataLt (dPair p) (dPair q) = ltP p q := by
  obtain ⟨a, b⟩ := p
  obtain ⟨c, d⟩ := q
  show PySem.W.dataLt (.tuple [.str a, .str b]) (.tuple [.str c, .str d]) = _
  rw [PySem.W.dataLt_pair (by simp [PySem.W.alike]) (by simp [PySem.W.alike]), PySem.W.dataLt_str, PySem.W.dataLt_str]
  rfl
theorem le_pair (p q : Str × Str) : PySem.W.dataLe false dPair p q = !ltP q p := by
  rw [PySem.W.dataLe_eq]
  show (!PySem.W.dataLt (dPair q) (dPair p)) = _
  rw [lt_pair]
theorem ltP_irr (p : Str × Str) : ltP p p = false := by
  unfold ltP
  simp
theorem sLt_asym {a b : Str} (h : sLt a b = true) : sLt b a = false := by
  cases e : sLt b a with
  | false => rfl
  | true =>
    have := sLt_trans _ _ _ h e
    rw [sLt_irr] at this
    cases this
theorem ltP_asym {p q : Str × Str} (h : ltP p q = true) : ltP q p = false := by
  obtain ⟨a, b⟩ := p
  obtain ⟨c, d⟩ := q
  unfold ltP at h ⊢
  by_cases e : a = c
  · subst e
    by_cases e2 : b = d
    · subst e2
      simp
    · have e2' : ¬ d = b := fun q => e2 q.symm
      simp [e2] at h
      simp [e2', sLt_asym h]
  · have e' : ¬ c = a := fun q => e q.symm
    simp [e] at h
    simp [e', sLt_asym h]
theorem ltP_anti {p q : Str × Str} (h : ltP p q = false) (g : ltP q p = false) : p = q := by
  obtain ⟨a, b⟩ := p
  obtain ⟨c, d⟩ := q
  unfold ltP at h g
  by_cases e : a = c
  · subst e
    by_cases e2 : b = d
    · rw [e2]
    · have e2' : ¬ d = b := fun q => e2 q.symm
      simp [e2] at h
      simp [e2'] at g
      rw [sLt_tot _ _ e2 h] at g
      cases g
  · have e' : ¬ c = a := fun q => e q.symm
    simp [e] at h
    simp [e'] at g
    rw [sLt_tot _ _ e h] at g
    cases g
/-- a row with one pair more, in its order -/
def addP (r : List (Str × Str)) (p : Str × Str) : List (Str × Str) := (r ++ [p]).mergeSort (PySem.W.dataLe false dPair)
theorem addP_sort (r : List (Str × Str)) (p : Str × Str) : sortD ((r ++ [p]).map dPair) = (addP r p).map dPair := by
  unfold sortD addP
  rw [List.map_mergeSort (r := PySem.W.dataLe false dPair) (s := PySem.W.dataLe false id) (f := dPair) (l := r ++ [p]) (fun _ _ _ _ => rfl)]
theorem addP_perm (r : List (Str × Str)) (p : Str × Str) : (addP r p).Perm (r ++ [p]) := List.mergeSort_perm _ _
theorem addP_len (r : List (Str × Str)) (p : Str × Str) : (addP r p).length = r.length + 1 := by
  rw [(addP_perm r p).length_eq, List.length_append]
  rfl
theorem addP_mem {r : List (Str × Str)} {p x : Str × Str} : x ∈ addP r p ↔ x ∈ r ∨ x = p := by
  rw [(addP_perm r p).mem_iff, List.mem_append, List.mem_singleton]
theorem pm_pw {n : Nat} (h0 : 1 ≤ n) (h6 : n ≤ 6) : (PM n n).Pairwise fun p q => ltP p q = true := by
  have ok : (Fld.mk (ML.take n) (PM n n)).Ok := fld_okM h0 h6 (List.Sublist.refl _)
  exact ok.asP
theorem nodup_lt {l : List (Str × Str)} (h : l.Pairwise fun p q => ltP p q = true) : l.Nodup := h.imp fun {a b} q e => by
  rw [e, ltP_irr] at q
  cases q
theorem addP_sub {n : Nat} (h0 : 1 ≤ n) (h6 : n ≤ 6) {r : List (Str × Str)} {p : Str × Str} (hr : r.Sublist (PM n n)) (hp : p ∈ PM n n) (hn : p ∉ r) : (addP r p).Sublist (PM n n) := by
  have pw := pm_pw h0 h6
  have e : addP r p = (PM n n).filter fun q => (r ++ [p]).contains q := by
    have tl := PySem.W.sortLe_total (PyProof.Rows.listOrd PyProof.Rows.itemOrd) false fun b => PySem.W.keyToks (dPair b)
    refine List.Perm.eq_of_pairwise (le := fun a b => PySem.W.dataLe false dPair a b = true) (fun a b _ _ h1 h2 => ?_) (List.pairwise_mergeSort (fun a b c => tl.trans a b c) (fun a b => by rw [Bool.or_eq_true]; exact tl.total a b) _) ?_ ?_
    · rw [le_pair, Bool.not_eq_true'] at h1 h2
      exact ltP_anti h2 h1
    · refine (pw.sublist List.filter_sublist).imp fun {a b} q => ?_
      rw [le_pair, ltP_asym q]
      rfl
    · refine (addP_perm r p).trans ((List.perm_ext_iff_of_nodup ?_ ?_).mpr fun q => ?_)
      · rw [List.nodup_append]
        refine ⟨nodup_lt (pw.sublist hr), List.nodup_cons.mpr ⟨(fun h => nomatch h), List.nodup_nil⟩, fun a ha b hb => ?_⟩
        rw [List.mem_singleton.mp hb]
        exact fun e => hn (e ▸ ha)
      · exact (nodup_lt pw).sublist List.filter_sublist
      · rw [List.mem_filter, List.contains_iff_mem]
        refine ⟨fun h => ⟨?_, h⟩, fun h => h.2⟩
        rcases List.mem_append.mp h with h | h
        · exact hr.subset h
        · rw [List.mem_singleton.mp h]
          exact hp
  rw [e]
  exact List.filter_sublist
theorem rows_all : ∀ (ps r : List (Str × Str)), r.Sublist ps → r ∈ rowsL ps := by
  have gen : ∀ (m : Nat) (ps : List (Str × Str)), ps.length = m → ∀ r : List (Str × Str), r.Sublist ps → r ∈ rowsL ps := by
    intro m
    induction m with
    | zero =>
      intro ps h r hr
      rw [List.length_eq_zero_iff.mp h] at hr ⊢
      rw [List.sublist_nil.mp hr]
      exact List.mem_singleton.mpr rfl
    | succ m ih =>
      intro ps h r hr
      obtain ⟨q, x, rfl⟩ : ∃ q x, ps = q ++ [x] := ⟨ps.dropLast, ps.getLast (fun e => by rw [e] at h; cases h), (List.dropLast_concat_getLast _).symm⟩
      have hq : q.length = m := by
        rw [List.length_append, List.length_singleton] at h
        omega
      rw [rowsL_snoc]
      obtain ⟨r1, r2, rfl, h1, h2⟩ := List.sublist_append_iff.mp hr
      have i1 := ih q hq r1 h1
      rcases List.sublist_cons_iff.mp h2 with h3 | ⟨r3, rfl, h3⟩
      · rw [List.sublist_nil.mp h3, List.append_nil]
        exact List.mem_append_left _ i1
      · rw [List.sublist_nil.mp h3]
        exact List.mem_append_right _ (List.mem_map_of_mem i1)
  exact fun ps => gen _ ps rfl
theorem fa_mem {n : Nat} {r : List (Str × Str)} : (⟨ML.take n, r⟩ : Fld) ∈ FA n ↔ r.Sublist (PM n n) := by
  unfold FA
  rw [List.mem_map]
  constructor
  · rintro ⟨r', h, e⟩
    have : r' = r := congrArg Fld.pairs e
    rw [← this]
    exact rows_sub _ _ ((afr_perm n).mem_iff.mp h)
  · intro h
    exact ⟨r, (afr_perm n).mem_iff.mpr (rows_all _ _ h), rfl⟩
theorem fa_at {n : Nat} {F : Fld} (h : F ∈ FA n) : F = ⟨ML.take n, F.pairs⟩ ∧ F.pairs.Sublist (PM n n) := by
  obtain ⟨r, hr, rfl⟩ := List.mem_map.mp h
  exact ⟨rfl, fa_mem.mp h⟩
theorem goodS_nz {n : Nat} {l : List (Str × Int)} (h : GoodS n l) : XM.NZ l := fun x hx => (h.2 x hx).2.1
theorem fh_add {n : Nat} (h2 : 2 ≤ n) (h4 : n ≤ 4) {c : Clm} (gc : GoodC n c) {F : Fld} {p : Str × Str} (hF : F ∈ FH n [c]) (ht : c.2.2 = true) (hp : p ∈ PM n n) (hn : p ∉ F.pairs) : (⟨ML.take n, addP F.pairs p⟩ : Fld) ∈ FH n [c] := by
  obtain ⟨hA, hh⟩ := List.mem_filter.mp hF
  obtain ⟨eF, hs⟩ := fa_at hA
  have hs2 := addP_sub (n := n) (by omega) (by omega) hs hp hn
  have hA2 : (⟨ML.take n, addP F.pairs p⟩ : Fld) ∈ FA n := fa_mem.mpr hs2
  have okF := (fa_ok (by omega) (by omega) F hA).1
  have okG := (fa_ok (by omega) (by omega) _ hA2).1
  refine List.mem_filter.mpr ⟨hA2, ?_⟩
  rw [List.all_cons, List.all_nil, Bool.and_true] at hh ⊢
  unfold holdsB at hh ⊢
  rw [ht] at hh ⊢
  have hh : XM.act (OF F) c.1 [] = XM.act (OF F) c.2.1 [] := by simpa using hh
  have : XM.act (OF ⟨ML.take n, addP F.pairs p⟩) c.1 [] = XM.act (OF ⟨ML.take n, addP F.pairs p⟩) c.2.1 [] := by
    refine XM.alike_more (fun a b h => ?_) (goodS_nz gc.1) (goodS_nz gc.2) hh
    rw [tc_eq okF] at h
    rw [tc_eq okG]
    rw [Bool.not_eq_false'] at h ⊢
    unfold apart at h ⊢
    rw [Bool.or_eq_true, List.contains_iff_mem, List.contains_iff_mem] at h ⊢
    exact h.imp (fun q => addP_mem.mpr (.inl q)) (fun q => addP_mem.mpr (.inl q))
  simp [this]
end XB
set_option Elab.async false
set_option linter.all false
set_option maxRecDepth 100000
set_option maxHeartbeats 4000000
namespace XB
open PySem PySem.Spec PyProof.Rows L2
theorem sz_pair {p : Str × Str} (h : GoodName p.1 ∧ GoodName p.2) : Sz (dPair p) 14 := (SzA.cons (sz_str h.1) (by simp [PyData.depth]) (SzA.cons (sz_str h.2) (by simp [PyData.depth]) SzA.nil)).tup.mono (by omega)
theorem dep_pair (p : Str × Str) : (dPair p).depth ≤ 2 := by
  show PyData.depth (.tuple [.str p.1, .str p.2]) ≤ 2
  simp [PyData.depth, PyData.depthAll]
theorem sz_pairsA : ∀ {l : List (Str × Str)}, (∀ p ∈ l, GoodName p.1 ∧ GoodName p.2) → SzA (l.map dPair) (15 * l.length)
  | [], _ => SzA.nil
  | p :: l, h => by
    have t := sz_pairsA fun x hx => h x (List.mem_cons_of_mem _ hx)
    have e := dep_pair p
    have q := SzA.cons (sz_pair (h p List.mem_cons_self)) (by omega) t
    exact ⟨q.sh, q.nd, q.dp, q.lv, Nat.le_trans q.bk (by rw [List.length_cons]; omega)⟩
theorem sz_field {F : Fld} (ok : F.Ok) (hl : F.pairs.length ≤ 6) : Sz (dField F) 150 := by
  have a := (sz_strsA ok.sgn).tup
  have b := (sz_pairsA ok.good).tup
  have d1 := deep_names' F.names
  have d2 := deep_pairs F.pairs
  have n6 := ok.n6
  have q := SzA.cons (d := .tuple (F.names.map PyData.str)) a (by rw [PyData.depth]; omega) (SzA.cons (d := .tuple (F.pairs.map dPair)) b (by rw [PyData.depth]; omega) SzA.nil)
  exact q.tup.mono (by omega)
theorem sz_fieldsA : ∀ {l : List Fld}, (∀ F ∈ l, F.Ok ∧ F.pairs.length ≤ 6) → SzA (l.map dField) (151 * l.length)
  | [], _ => SzA.nil
  | F :: l, h => by
    have t := sz_fieldsA fun x hx => h x (List.mem_cons_of_mem _ hx)
    have e := deep_field' F
    have hF := h F List.mem_cons_self
    have q := SzA.cons (sz_field hF.1 hF.2) (by omega) t
    exact ⟨q.sh, q.nd, q.dp, q.lv, Nat.le_trans q.bk (by rw [List.length_cons]; omega)⟩
theorem fh_sz {n : Nat} (h2 : 2 ≤ n) (h4 : n ≤ 4) (cs : List Clm) : Sz (.tuple ((FH n cs).map dField)) 9664 := by
  have l := fh_64 h2 h4 cs
  refine (sz_fieldsA fun F hF => ⟨fh_ok h2 h4 cs F hF, ?_⟩).tup.mono (by omega)
  have hs := (fa_at (List.mem_filter.mp hF).1).2.length_le
  have := PM_6 h2 h4
  omega
theorem fh_sz2 {n : Nat} (h2 : 2 ≤ n) (h4 : n ≤ 4) (cs : List Clm) : Sz (.list [.tuple ((FH n cs).map dField), .tuple ((FH n cs).map dField)]) 90000 := by
  have z := fh_sz h2 h4 cs
  have d : (PyData.tuple ((FH n cs).map dField)).depth ≤ 19 := by
    have := deep_fields (FH n cs)
    rw [PyData.depth]
    omega
  exact (SzA.cons z d (SzA.cons z d SzA.nil)).lst.mono (by omega)
theorem good_word (fs : List Fld) (p : Str × Str) : GoodName (wordS fs p) := by
  have a : GoodName "apart" := good_of (by decide +kernel)
  have e : GoodName "either" := good_of (by decide +kernel)
  have t : GoodName "touch" := good_of (by decide +kernel)
  unfold wordS
  split
  · exact a
  · split
    · exact e
    · exact t
theorem sz_word {fs : List Fld} {p : Str × Str} (h : GoodName p.1 ∧ GoodName p.2) : Sz (dWord fs p) 21 := (SzA.cons (sz_str h.1) (by simp [PyData.depth]) (SzA.cons (sz_str h.2) (by simp [PyData.depth]) (SzA.cons (sz_str (good_word fs p)) (by simp [PyData.depth]) SzA.nil))).tup.mono (by omega)
theorem sz_wordsA {fs : List Fld} : ∀ {l : List (Str × Str)}, (∀ p ∈ l, GoodName p.1 ∧ GoodName p.2) → SzA (l.map (dWord fs)) (22 * l.length)
  | [], _ => SzA.nil
  | p :: l, h => by
    have t := sz_wordsA (fs := fs) fun x hx => h x (List.mem_cons_of_mem _ hx)
    have e : (dWord fs p).depth ≤ 19 := by
      show PyData.depth (.tuple [.str p.1, .str p.2, .str _]) ≤ 19
      simp [PyData.depth, PyData.depthAll]
    have q := SzA.cons (sz_word (fs := fs) (h p List.mem_cons_self)) e t
    exact ⟨q.sh, q.nd, q.dp, q.lv, Nat.le_trans q.bk (by rw [List.length_cons]; omega)⟩
theorem told_sz {n : Nat} (h2 : 2 ≤ n) (h4 : n ≤ 4) (fs : List Fld) : Sz (dTold n fs) 90000 := by
  unfold dTold
  split
  · exact ⟨rfl, rfl, by simp [PyData.depth], rfl, Nat.zero_le _⟩
  · have := PM_6 h2 h4
    exact (sz_wordsA (pm_good h2 h4)).tup.mono (by omega)
/-- the numbers that are told -/
theorem go_mem {b : List Nat → Bool} {total : Nat} : ∀ {k s : Nat} {layer : List (List Nat)} {x : List Nat}, Lay total s layer → LtR total layer → quarGo b total k layer = some x → x.length ≤ total ∧ ∀ i ∈ x, i < total
  | 0, _, _, _, _, _, h => by cases h
  | k + 1, s, layer, x, hL, hR, h => by
    have h : (match (ext total layer).find? b with | some x => some x | none => quarGo b total k (ext total layer)) = some x := h
    cases e : (ext total layer).find? b with
    | some y =>
      rw [e] at h
      cases h
      have hm := List.mem_of_find?_eq_some e
      have := hL.ext.b _ hm
      exact ⟨by omega, hR.ext _ hm⟩
    | none =>
      rw [e] at h
      exact go_mem hL.ext hR.ext h
theorem lay0 (total : Nat) : Lay total 0 [[]] := ⟨fun nums hn => by
  rw [List.mem_singleton.mp hn]
  exact ⟨Nat.le_refl _, Nat.zero_le _, rfl⟩⟩
theorem lt0 (total : Nat) : LtR total [[]] := fun nums hn k hk => by
  rw [List.mem_singleton.mp hn] at hk
  cases hk
theorem sz_natsA : ∀ {l : List Nat}, (∀ k ∈ l, k < 1000) → SzA (l.map iD) l.length
  | [], _ => SzA.nil
  | k :: l, h => by
    have t := sz_natsA fun x hx => h x (List.mem_cons_of_mem _ hx)
    have hk := h k List.mem_cons_self
    have z : Sz (iD k) 0 := sz_int (by
      rw [Int.natAbs_natCast]
      exact Nat.lt_trans hk (by decide))
    have q := SzA.cons z (by show PyData.depth (.int _) ≤ 19; simp [PyData.depth]) t
    exact ⟨q.sh, q.nd, q.dp, q.lv, Nat.le_trans q.bk (by rw [List.length_cons]; omega)⟩
theorem opt_sz2 {n : Nat} {cs : List Clm} (hl : cs.length ≤ 12) : Sz (.list [dOpt (quarL n cs), dOpt (quarL n cs)]) 90000 := by
  have z : Sz (dOpt (quarL n cs)) 12 ∧ (dOpt (quarL n cs)).depth ≤ 19 := by
    cases h : quarL n cs with
    | none => exact ⟨⟨rfl, rfl, by show PyData.depth .none ≤ 20; simp [PyData.depth], rfl, Nat.zero_le _⟩, by show PyData.depth .none ≤ 19; simp [PyData.depth]⟩
    | some x =>
      obtain ⟨h1, h2⟩ := go_mem (lay0 _) (lt0 _) h
      have q := sz_natsA (l := x) fun k hk => by
        have := h2 k hk
        omega
      refine ⟨q.tup.mono (by omega), ?_⟩
      show PyData.depth (.tuple (x.map iD)) ≤ 19
      have e : ∀ l : List Nat, PyData.depthAll (l.map iD) = 0 := fun l => by
        induction l with
        | nil => rfl
        | cons k l ih =>
          show max (PyData.depth (.int _)) (PyData.depthAll (l.map iD)) = 0
          rw [ih]
          rfl
      rw [PyData.depth, e]
      decide
  exact (SzA.cons z.1 z.2 (SzA.cons z.1 z.2 SzA.nil)).lst.mono (by omega)
/-- the law's word of a pair -/
def wordT (fs : List Fld) (p : Str × Str) : Str := if (fs.any fun F => F.pairs.contains p) && (fs.any fun F => !F.pairs.contains p) then "either" else if fs.any fun F => F.pairs.contains p then "apart" else "touch"
theorem word_eq {fs : List Fld} (h : fs ≠ []) (p : Str × Str) : wordT fs p = wordS fs p := by
  unfold wordT wordS
  have lf := List.length_filter_le (fun F : Fld => F.pairs.contains p) fs
  by_cases h1 : (fs.any fun F => F.pairs.contains p) = true
  · have c1 : 0 < (fs.filter fun F => F.pairs.contains p).length := by
      obtain ⟨F, hF, hp⟩ := List.any_eq_true.mp h1
      exact List.length_pos_of_mem (List.mem_filter.mpr ⟨hF, hp⟩)
    rw [h1, Bool.true_and, if_pos c1]
    by_cases h2 : (fs.any fun F => !F.pairs.contains p) = true
    · rw [if_pos h2, if_neg]
      intro e
      have ef := List.filter_eq_self.mp (List.filter_sublist.eq_of_length e)
      obtain ⟨F, hF, hp⟩ := List.any_eq_true.mp h2
      rw [ef F hF] at hp
      cases hp
    · rw [if_neg h2, if_pos rfl, if_pos]
      have : fs.filter (fun F => F.pairs.contains p) = fs := List.filter_eq_self.mpr fun F hF => by
        cases hc : F.pairs.contains p with
        | true => rfl
        | false => exact absurd (List.any_eq_true.mpr ⟨F, hF, by rw [hc]; rfl⟩) h2
      rw [this]
  · have c0 : fs.filter (fun F => F.pairs.contains p) = [] := List.filter_eq_nil_iff.mpr fun F hF hp => h1 (List.any_eq_true.mpr ⟨F, hF, hp⟩)
    have hl : 0 < fs.length := List.length_pos_iff.mpr h
    rw [Bool.eq_false_iff.mpr h1, Bool.false_and, if_neg Bool.false_ne_true, if_neg Bool.false_ne_true, c0, if_neg (by show ¬ 0 = fs.length; omega), if_neg (by decide)]
def dWordT (fs : List Fld) (p : Str × Str) : PyData := .tuple [.str p.1, .str p.2, .str (wordT fs p)]
theorem dword_eq {fs : List Fld} (h : fs ≠ []) : dWordT fs = dWord fs := by
  funext p
  unfold dWordT dWord
  rw [word_eq h]
theorem flat_wordsT (fs : List Fld) (l : List (Str × Str)) : flatAll (l.map (dWordT fs)) = true := flatAll_of fun d hd => by
  obtain ⟨y, _, rfl⟩ := List.mem_map.mp hd
  rfl
theorem sh_claims {n : Nat} (h2 : 2 ≤ n) (h4 : n ≤ 4) {cs : List Clm} (h : ∀ c ∈ cs, GoodC n c) : SeqAt.shaped (.tuple (cs.map dClaim)) = true := by
  have okN : (Fld.mk (ML.take n) []).Ok := fld_okM (by omega) (by omega) (List.nil_sublist _)
  have lay : ∀ cs : List Clm, (∀ c ∈ cs, GoodC n c) → PyData.canLayAll0 (cs.map dClaim) = true := fun cs => by
    induction cs with
    | nil => exact fun _ => rfl
    | cons c cs ih =>
      intro h
      rw [List.map_cons, PyData.canLayAll0, ih fun x hx => h x (List.mem_cons_of_mem _ hx)]
      have g := h c List.mem_cons_self
      have e1 := lay_steps (l := c.1) fun s hs => okN.sgn _ (g.1.2 s hs).1
      have e2 := lay_steps (l := c.2.1) fun s hs => okN.sgn _ (g.2.2 s hs).1
      show (PyData.canLay0 (.tuple [.tuple (c.1.map dStep), .tuple (c.2.1.map dStep), .bool c.2.2]) && true) = true
      simp only [PyData.canLay0, PyData.canLayAll0, e1, e2, Bool.and_true]
  have dep : ∀ cs : List Clm, PyData.depthAll (cs.map dClaim) ≤ 4 := fun cs => by
    induction cs with
    | nil => decide
    | cons c cs ih =>
      rw [List.map_cons, PyData.depthAll]
      have e1 := deep_steps c.1
      have e2 := deep_steps c.2.1
      have : (dClaim c).depth ≤ 4 := by
        show PyData.depth (.tuple [.tuple (c.1.map dStep), .tuple (c.2.1.map dStep), .bool c.2.2]) ≤ 4
        simp only [PyData.depth, PyData.depthAll]
        omega
      omega
  have d := dep cs
  show (PyData.canLayAll0 (cs.map dClaim) && decide (PyData.depthAll (cs.map dClaim) + 1 ≤ 64)) = true
  rw [lay cs h, Bool.true_and]
  exact decide_eq_true (by omega)
theorem eqv_claims (cs : List Clm) : PyData.eqv (.tuple (cs.map dClaim)) (.tuple []) = cs.isEmpty := by
  cases cs <;> rfl
theorem eqv_fields0 (fs : List Fld) : PyData.eqv (.tuple (fs.map dField)) (.tuple []) = fs.isEmpty := by
  cases fs <;> rfl
theorem has_true {α : Type} (f : α → Bool) (l : List α) : inV (.bl true) ((l.map f).map V.bl) = l.any f := by
  induction l with
  | nil => rfl
  | cons a l ih =>
    show (eqV (V.bl (f a)) (V.bl true) || inV (.bl true) ((l.map f).map V.bl)) = (f a || l.any f)
    rw [ih]
    cases f a <;> rfl
theorem has_false {α : Type} (f : α → Bool) (l : List α) : inV (.bl false) ((l.map f).map V.bl) = l.any fun a => !f a := by
  induction l with
  | nil => rfl
  | cons a l ih =>
    show (eqV (V.bl (f a)) (V.bl false) || inV (.bl false) ((l.map f).map V.bl)) = (!f a || l.any fun a => !f a)
    rw [ih]
    cases f a <;> rfl
end XB
set_option Elab.async false
set_option linter.all false
set_option maxRecDepth 100000
set_option maxHeartbeats 4000000
namespace XB
open PySem PySem.Spec PyProof.Rows L2
section
variable {P : Program} {w : World} {K : PySem.W.Frag} {mg : Str → Option Value} {base : Heap}
def spRight (K : PySem.W.Frag) : Sp := fun vs H Q _ => ∃ (a b : Addr) (n : Nat) (cs : List Clm), vs = [.ref a, .ref b] ∧ NmA K H a n ∧ ClA K H b n cs ∧ cs.length ≤ 6 ∧ ∀ H', Same H H' → Q (.bl true) H'
theorem seq_if {A : TT} {B C : TE} {g : TG} {u : TS} {D : Ends} {r : VK} {b c : L2.St → Hp → Prop} {σ : L2.St} {H : Hp} (h : tIf A B C σ H fun x H1 => g x σ H1 (u D)) : tNext ⟨tSeq (tAsg (tIf A B C) g) u D, r, b, c⟩ σ H := h
/-- a claim's row as the law keeps it -/
def HeldV (H : Hp) (n : Nat) (D : Addr) (v : V) (c : Clm) : Prop := ∃ e, v = .ref e ∧ H e = some (.lst ((FA n).map fun F => V.bl (holdsB F c))) ∧ e ≠ D
theorem HeldV.same {H H' : Hp} {n : Nat} {D : Addr} {v : V} {c : Clm} (h : HeldV H n D v c) (s : Same H H') : HeldV H' n D v c := by
  obtain ⟨e, h1, h2, h3⟩ := h
  exact ⟨e, h1, s _ _ h2, h3⟩
theorem HeldV.put {H : Hp} {n : Nat} {D : Addr} {o : HO} {v : V} {c : Clm} (h : HeldV H n D v c) : HeldV (upd H D o) n D v c := by
  obtain ⟨e, h1, h2, h3⟩ := h
  refine ⟨e, h1, ?_, h3⟩
  rw [upd_ne h3]
  exact h2
theorem held_data {K : PySem.W.Frag} {H : Hp} {n : Nat} {D : Addr} : ∀ {xs : List V} {cs : List Clm}, Paired (HeldV H n D) xs cs → DpAll K H xs (cs.map (dHv n))
  | _, _, .nil => .nil
  | _, _, .cons h t => by
    obtain ⟨e, rfl, h2, _⟩ := h
    have gen : ∀ (c : Clm) (l : List Fld), DpAll K H (l.map fun F => V.bl (holdsB F c)) (l.map fun F => .bool (holdsB F c)) := fun c l => by
      induction l with
      | nil => exact .nil
      | cons F l ih => exact .cons (.bl _) ih
    exact .cons (.lst (SqL.of h2) (gen _ _)) (held_data t)
theorem g__law_right (T : Tx K mg) : Cg P w K mg base CX0 10 "_law_right" (spRight K) := by
  refine cg0 T.d__law_right (ps := ["names", "claims"]) (fun _ _ _ _ _ _ us hl => match us, hl with | [_, _], _ => rfl) sc__law_right (fun vs H Q E h => ?_) (fun f cdv A outer st H vs Q E hgu hr h => ?_)
  · obtain ⟨a, b, n, cs, rfl, _⟩ := h
    rfl
  · obtain ⟨a, b, n, cs, rfl, hN, hC, l6, q⟩ := h
    have nd := sc__law_right.nd
    have hu : (A.deeper (envOfC "_law_right" (defScope s__law_right) st.heap.objs.size f cdv)).units + 65 < cLine := by
      have := hr.un
      omega
    have hu64 : (A.deeper (envOfC "_law_right" (defScope s__law_right) st.heap.objs.size f cdv)).units + 64 < cLine := by omega
    refine ⟨_, (pss_cons (ps_set (i := 2) nd rfl (.inr rfl) (pe_k (c__law_fields T) hr (by decide) (by rfl) (pa_cons (pv 0) pa_nil)))
    (pss_cons (ps_set (i := 3) nd rfl (.inr rfl) (pe_lc (own := [("claim", 9)]) (g := (gName 9)) (tt := tYes) (by rfl) nd (pi_tup (pv 1)) (blkOk_by (own := [("claim", 9)]) (N := ["names", "claims", "every", "held", "due", "words", "pair", "some", "least", "claim", "field", "k", "row"]) (sc := defScope s__law_right) (by decide +kernel)) (fun _ _ _ _ _ => (pg_name (i := 9) nd rfl (by first | exact Or.inl rfl | exact Or.inr rfl))) (fun _ _ _ _ _ => pts_nil) (fun _ _ _ _ _ => (pe_lc (own := [("field", 10)]) (g := (gName 10)) (tt := tYes) (by rfl) nd (pi_listk (K := K) rfl (pv 2)) (blkOk_by (own := [("field", 10)]) (N := ["names", "claims", "every", "held", "due", "words", "pair", "some", "least", "claim", "field", "k", "row"]) (sc := _) (by rfl)) (fun _ _ _ _ _ => (pg_name (i := 10) nd rfl (by first | exact Or.inl rfl | exact Or.inr rfl))) (fun _ _ _ _ _ => pts_nil) (fun _ _ _ _ _ => (pe_k (c__law_holds T) hr (by decide) (by rfl) (pa_cons (pv 10) (pa_cons (pv 9) pa_nil))))))))
    (pss_cons (ps_set (i := 4) nd rfl (.inl rfl) (pe_tupleOf (by rfl) T.b_tuple (pe_lc (own := [("k", 11), ("field", 10)]) (g := (gTup K 2 (gCons (gName 11) (gCons (gName 10) gNil)))) (tt := _) (by rfl) nd (pi_enumk (K := K) rfl (by rfl) T.b_enumerate (pa_cons (pv 2) pa_nil)) (blkOk_by (own := [("k", 11), ("field", 10)]) (N := ["names", "claims", "every", "held", "due", "words", "pair", "some", "least", "claim", "field", "k", "row"]) (sc := defScope s__law_right) (by decide +kernel)) (fun _ _ _ _ _ => (pg_tup rfl (pgs_cons (pg_name (i := 11) nd rfl (by first | exact Or.inl rfl | exact Or.inr rfl)) (pgs_cons (pg_name (i := 10) nd rfl (by first | exact Or.inl rfl | exact Or.inr rfl)) pgs_nil)))) (fun _ _ _ _ _ => pts_one (pt_cmpR (opk_notIn_seq (K := K) rfl) pe_bl (pe_lc (own := [("row", 12)]) (g := (gName 12)) (tt := tYes) (by rfl) nd (pi_listk (K := K) rfl (pv 3)) (blkOk_by (own := [("row", 12)]) (N := ["names", "claims", "every", "held", "due", "words", "pair", "some", "least", "claim", "field", "k", "row"]) (sc := _) (by rfl)) (fun _ _ _ _ _ => (pg_name (i := 12) nd rfl (by first | exact Or.inl rfl | exact Or.inr rfl))) (fun _ _ _ _ _ => pts_nil) (fun _ _ _ _ _ => (pe_ix (ixk_list (K := K) rfl) (pv 12) (pv 11) (fun _ _ => rfl)))) (by rfl))) (fun _ _ _ _ _ => (pv 10)))))
    (pss_cons (ps_if (pt_not (pt_val (pe_g (g__law_like T) hgu hr (by decide) (by rfl) (pa_cons (pe_lst (pa_cons (pe_k (c_fields_of T) hr (by decide) (by rfl) (pa_cons (pv 0) (pa_cons (pv 1) pa_nil))) (pa_cons (pe_k (c_fields_of T) hr (by decide) (by rfl) (pa_cons (pv 0) (pa_cons (pv 1) pa_nil))) pa_nil))) (pa_cons (pe_lst (pa_cons (pv 4) (pa_cons (pv 4) pa_nil))) pa_nil))))) pss_never pss_nil)
    (pss_cons (ps_set (i := 5) nd rfl (.inl rfl) (pe_lst pa_nil))
    (pss_cons (ps_for PassesOwn.never rfl (pi_list (pe_k (c__law_pairs T) hr (by decide) (by rfl) (pa_cons (pv 0) pa_nil))) (pg_name (i := 6) nd rfl (.inr rfl))
    (pss_cons (ps_setLc (i := 7) (own := [("field", 10)]) (g := (gName 10)) (tt := tYes) rfl nd rfl rfl (sw_true rfl rfl rfl (by decide +kernel)) (pi_tup (pv 4)) (blkOk_by (own := [("field", 10)]) (N := ["names", "claims", "every", "held", "due", "words", "pair", "some", "least", "claim", "field", "k", "row"]) (sc := defScope s__law_right) (by decide +kernel)) (fun _ _ _ _ _ => (pg_name (i := 10) nd rfl (by first | exact Or.inl rfl | exact Or.inr rfl))) (fun _ _ _ _ _ => pts_nil) (fun _ _ _ _ _ => (pe_cmpR (op_inDTk (K := K) rfl hu) (pv 6) (pe_ix (ixk_tup (K := K) rfl) (pv 10) pe_int (fun _ _ => rfl)) (by rfl))))
    (pss_one (ps_expr (pe_bm PySem.F.plainAttrs_list PySem.F.slot_list_append PySem.F.type_list_append mt_append (pv 5) (pa_cons (pe_op (op_catAk (K := K) rfl) (pv 6) (pe_tup (pa_cons (pe_ifExp (PW.pt (pw_and (pt_cmpR (opk_in_seq (K := K) rfl) pe_bl (pv 7) (by rfl)) (pw_and1 (pt_cmpR (opk_in_seq (K := K) rfl) pe_bl (pv 7) (by rfl))))) pe_str (pe_ifExp (pt_cmpR (opk_in_seq (K := K) rfl) pe_bl (pv 7) (by rfl)) pe_str pe_str)) pa_nil))) pa_nil))))))
    (pss_cons (ps_if (pt_not (pt_val (pe_g (g__law_like T) hgu hr (by decide) (by rfl) (pa_cons (pe_k (c_told_pairs T) hr (by decide) (by rfl) (pa_cons (pv 0) (pa_cons (pv 1) pa_nil))) (pa_cons (pe_ifExp (pt_cmpR (op_neD hu64) (pv 4) (pe_tup pa_nil) (nomark _)) (pe_tupleOf (by rfl) T.b_tuple (pv 5)) pe_non) pa_nil))))) pss_never pss_nil)
    (pss_cons (ps_set (i := 8) nd rfl (.inl rfl) (pe_ifExp (pt_cmpR (op_neD hu64) (pv 1) (pe_tup pa_nil) (nomark _)) (pe_k (c__law_quarrel T) hr (by decide) (by rfl) (pa_cons (pv 3) (pa_cons (pe_lenS (by rfl) T.b_len (pv 1)) pa_nil))) pe_non))
    (pss_one (ps_ret (pe_g (g__law_like T) hgu hr (by decide) (by rfl) (pa_cons (pe_lst (pa_cons (pe_k (c_quarrel T) hr (by decide) (by rfl) (pa_cons (pv 0) (pa_cons (pv 1) pa_nil))) (pa_cons (pe_k (c_quarrel T) hr (by decide) (by rfl) (pa_cons (pv 0) (pa_cons (pv 1) pa_nil))) pa_nil))) (pa_cons (pe_lst (pa_cons (pv 8) (pa_cons (pv 8) pa_nil))) pa_nil))))))))))))), ?_⟩
    have n2 := hN.2.1
    have n4 := hN.2.2
    have l64 := fa_64 n2 n4
    refine ⟨_, rfl, a, n, rfl, hN, fun H1 r s1 m1 ⟨fs, eR, hR⟩ => ?_⟩
    have lfs := hR.len
    rw [List.length_map] at lfs
    obtain ⟨_, ys, ey, hyS, hyV⟩ := tup_of (hC.same s1).1
    cases ey
    have lys := hyV.len
    rw [List.length_map] at lys
    -- which claims hold in which fields
    refine ⟨_, rfl, b, rfl, ⟨_, hyS⟩, fun D hD => ?_⟩
    refine lc_it (walk_tup (xs := ys)) (fun i H' => ∃ xs, H' D = some (.lst xs) ∧ Paired (HeldV H' n D) xs (cs.take i) ∧ Same H1 H') ⟨[], upd_same, .nil, same_upd hD⟩ (fun _ _ _ ⟨_, _, _, s'⟩ => (Tk.of s').sqT hyS) (fun i x H2o H2 hi ⟨xs, eD, hP, s2⟩ hy => ?_) (fun H2 ⟨hv, eD, hP, s2⟩ => ?_)
    · obtain ⟨rfl, hx⟩ := hy
      obtain ⟨dd, g1, p1⟩ := hyV.get hx
      rw [List.getElem?_map] at g1
      obtain ⟨c, k1, rfl⟩ := Option.map_eq_some_iff.mp g1
      have p1 := Dp.sm s2 _ p1
      have lP := hP.length
      rw [List.length_take] at lP
      have hR2 := DpAll.sm s2 _ hR
      refine ⟨rfl, yes_ ⟨_, rfl, r, rfl, ⟨_, SqL.of (s2 _ _ eR)⟩, fun E hE => ?_⟩⟩
      have hED : E ≠ D := fun e => by
        rw [e, eD] at hE
        cases hE
      refine lc_it (walk_list (xs := fs)) (fun j H' => H' E = some (.lst (((FA n).take j).map fun F => V.bl (holdsB F c))) ∧ Same H2 H') ⟨upd_same, same_upd hE⟩ (fun _ _ _ ⟨_, s'⟩ => SqL.of ((s2.trans s') _ _ eR)) (fun j y H3o H3 hj ⟨eE, s3⟩ hy => ?_) (fun H3 ⟨eE, s3⟩ => ?_)
      · obtain ⟨rfl, hx2⟩ := hy
        obtain ⟨d', g2, p2⟩ := hR2.get hx2
        rw [List.getElem?_map] at g2
        obtain ⟨F, k2, rfl⟩ := Option.map_eq_some_iff.mp g2
        obtain ⟨okF, enF⟩ := fa_ok (by omega) (by omega) F (List.mem_of_getElem? k2)
        have p2 := Dp.sm s3 _ p2
        obtain ⟨o, os, eo, _⟩ := tup_of p2
        subst eo
        refine ⟨rfl, yes_ ⟨_, rfl, _, rfl, o, x, F, n, c, rfl, p2, okF, enF, Dp.sm s3 _ p1, hC.2.1 c (List.mem_of_getElem? k1), fun H4 s4 => ⟨_, s4 _ _ eE, ?_, ?_, same_put (s3.trans s4) hE⟩⟩⟩
        · rw [List.length_map, List.length_take]
          exact small1000 (by omega)
        · rw [upd_same, take_snoc k2, List.map_append]
          rfl
      · rw [lfs, List.take_length] at eE
        have eD3 := s3 _ _ eD
        refine ⟨xs, eD3, small1000 (by omega), xs ++ [.ref E], upd_same, ?_, same_put (s2.trans s3) hD⟩
        rw [take_snoc k1]
        exact Paired.snoc (Paired.mono (fun v c h => (h.same s3).put) hP) (HeldV.put ⟨E, rfl, eE, hED⟩)
    · rw [lys, List.take_length] at hP
      have lhv := hP.length
      have hHeld : Dp K H2 (.ref D) (dHeld n cs) := .lst (SqL.of eD) (held_data hP)
      have s12 := s1.trans s2
      have hR2 := DpAll.sm s2 _ hR
      -- the fields in which all hold
      refine ⟨_, rfl, r, fs, rfl, SqL.of (s2 _ _ eR), fun E hE => ?_⟩
      refine lc_it (walk_enum (xs := fs)) (fun j H' => RowG K H' E ((((FA n).take j).filter fun F => cs.all (holdsB F)).map dField) ∧ Same H2 H') ⟨⟨[], upd_same, .nil⟩, same_upd hE⟩ (fun _ _ _ ⟨_, s'⟩ => SqL.of ((s2.trans s') _ _ eR)) (fun j y H3o H3 hj ⟨hE3, s3⟩ hy => ?_) (fun H3 ⟨⟨xs, eE, hX⟩, s3⟩ => ?_)
      · obtain ⟨Tt, x1, x2, rfl, nT, rfl, f1, f2⟩ := hy
        obtain ⟨d', g1, p2⟩ := hR2.get f2
        rw [List.getElem?_map] at g1
        obtain ⟨F, k2, rfl⟩ := Option.map_eq_some_iff.mp g1
        have hx1 : x1 = .int (j : Nat) := (Option.some.inj f1).symm
        subst hx1
        obtain ⟨okF, enF⟩ := fa_ok (by omega) (by omega) F (List.mem_of_getElem? k2)
        have sT := same_upd (o := .tup [.int (j : Nat), x2]) nT
        have s4 := s3.trans sT
        have hE4 := hE3.same sT
        have p2 := Dp.sm s4 _ p2
        obtain ⟨o, os, eo, _⟩ := tup_of p2
        subst eo
        have e7 : SqT K (upd H3o Tt (.tup [.int (j : Nat), .ref o])) Tt [.int (j : Nat), .ref o] := SqT.of upd_same
        refine ⟨Tt, _, rfl, e7, rfl, _, _, rfl, _, _, rfl, rfl, rfl, ?_⟩
        generalize upd H3o Tt (.tup [.int (j : Nat), .ref o]) = H4 at s4 hE4 p2 e7 ⊢
        refine ⟨_, rfl, D, rfl, ⟨_, SqL.of (s4 _ _ eD)⟩, fun G hG => ?_⟩
        refine lc_it (walk_list (xs := hv)) (fun i H' => H' G = some (.lst (((cs.take i).map (holdsB F)).map V.bl)) ∧ Same H4 H') ⟨upd_same, same_upd hG⟩ (fun _ _ _ ⟨_, s'⟩ => SqL.of ((s4.trans s') _ _ eD)) (fun i x H5o H5 hi ⟨eG, s5⟩ hy => ?_) (fun H5 ⟨eG, s5⟩ => ?_)
        · obtain ⟨rfl, hx2⟩ := hy
          obtain ⟨c, k3, u, rfl, hu5, _⟩ := XB.Paired.get hP hx2
          have hu5 := (s4.trans s5) _ _ hu5
          have hb : ((FA n).map fun F => V.bl (holdsB F c))[j]? = some (V.bl (holdsB F c)) := by rw [List.getElem?_map, k2]; rfl
          refine ⟨rfl, yes_ ⟨_, rfl, _, rfl, _, _, _, _, rfl, rfl, SqL.of hu5, at_of (j := j) rfl hb, _, eG, ?_, ?_, same_put s5 hG⟩⟩
          · rw [List.length_map, List.length_map, List.length_take]
            exact small1000 (by omega)
          · rw [upd_same, take_snoc k3, List.map_append, List.map_append]
            rfl
        · rw [lhv, List.take_length] at eG
          have s35 := s4.trans s5
          have ea : (cs.map (holdsB F)).all id = cs.all (holdsB F) := by rw [List.all_map]; rfl
          refine ⟨G, _, rfl, .inl (SqL.of eG), rfl, flat_bls _, ?_⟩
          have nf := no_false (cs.map (holdsB F))
          rw [ea] at nf
          rw [if_pos rfl, nf]
          rw [take_snoc k2, List.filter_append, List.map_append]
          obtain ⟨xs, eE, hX⟩ := hE4.same s5
          have lxs := hX.len
          have lf := List.length_filter_le (fun F => cs.all (holdsB F)) ((FA n).take j)
          rw [List.length_take] at lf
          rw [List.length_map] at lxs
          refine ⟨_, rfl, ite2 (fun h => ?_) (fun h => ?_)⟩
          · have h : cs.all (holdsB F) = true := h
            refine ⟨_, rfl, xs, eE, small1000 (by omega), ⟨_, upd_same, ?_⟩, same_put s35 hE⟩
            have t8 : Tk H5 (upd H5 E (.lst (xs ++ [.ref o]))) := Tk.refl.lst eE
            have fl : ∀ l : List Fld, flatAll (l.map dField) = true := fun l => flatAll_of fun d hd => by
              obtain ⟨y, _, rfl⟩ := List.mem_map.mp hd
              exact flat_field y
            rw [show [F].filter (fun F => cs.all (holdsB F)) = [F] by simp only [List.filter_cons, h, if_true, List.filter_nil]]
            exact (DpAll.tk t8 _ (fl _) hX).app (.cons (Dp.tk t8 _ (flat_field _) (Dp.sm s5 _ p2)) .nil)
          · have h : ¬ cs.all (holdsB F) = true := h
            refine ⟨⟨xs, eE, ?_⟩, s35⟩
            rw [show [F].filter (fun F => cs.all (holdsB F)) = [] by simp only [List.filter_cons, h, List.filter_nil]; rfl, List.map_nil, List.append_nil]
            exact hX
      · rw [lfs, List.take_length] at hX
        refine .inl ⟨E, xs, rfl, SqL.of eE, fun p np => upd_gen np fun H4 s4 e4 => ?_⟩
        have s14 := s12.trans (s3.trans s4)
        have hDue : Dp K H4 (.ref p) (.tuple ((FH n cs).map dField)) := .tup (SqT.of e4) (DpAll.sm s4 _ hX)
        have hHeld4 := Dp.sm (s3.trans s4) _ hHeld
        have okF := fh_ok n2 n4 cs
        have z2 := fh_sz2 n2 n4 cs
        -- fields_of
        refine ⟨_, rfl, _, rfl, a, b, n, cs, rfl, hN.same s14, hC.same s14, fun H5 r5 s5 h5 => ?_⟩
        refine ⟨_, rfl, _, rfl, a, b, n, cs, rfl, hN.same (s14.trans s5), hC.same (s14.trans s5), fun H6 r6 s6 h6 => ?_⟩
        refine ⟨two_sz, fun L nL => upd_gen nL fun H7 s7 e7 => ?_⟩
        refine ⟨_, rfl, _, rfl, two_sz, fun L2 nL2 => upd_gen nL2 fun H8 s8 e8 => ?_⟩
        have s48 := (s5.trans s6).trans (s7.trans s8)
        have s18 := s14.trans s48
        refine ⟨.ref L, .ref L2, _, rfl, .lst (SqL.of (s8 _ _ e7)) (.cons (Dp.sm (s6.trans (s7.trans s8)) _ h5) (.cons (Dp.sm (s7.trans s8) _ h6) .nil)), .lst (SqL.of e8) (.cons (Dp.sm s48 _ hDue) (.cons (Dp.sm s48 _ hDue) .nil)), z2, _, rfl, iteF ?_⟩
        have hDue8 := Dp.sm s48 _ hDue
        have hHeld8 := Dp.sm s48 _ hHeld4
        -- words
        refine ⟨Nat.zero_le _, fun W nW => upd_gen nW fun H9 s9 e9 => ?_⟩
        obtain ⟨_, dv, ed, hdS, hdV⟩ := tup_of hDue8
        cases ed
        have ldv := hdV.len
        rw [List.length_map] at ldv
        have lfh := fh_64 n2 n4 cs
        have s19 := s18.trans s9
        refine ⟨_, rfl, a, n, rfl, hN.same s19, fun H10 r10 s10 m10 ⟨ps, eP, hPp⟩ => ⟨r10, rfl, ⟨_, SqL.of eP⟩, ?_⟩⟩
        have lps := hPp.len
        rw [List.length_map] at lps
        have lpm := PM_6 n2 n4
        have hrW : r10 ≠ W := fun e => by
          rw [e, e9] at m10
          cases m10
        refine for_it (walk_list (xs := ps)) (fun i σ H' => ∃ (y6 y7 : Option V) (xs : List V), σ = [some (.ref a), some (.ref b), some (.ref r), some (.ref D), some (.ref p), some (.ref W), y6, y7, none, none, none, none, none] ∧ H' W = some (.lst xs) ∧ DpAll K H' xs (((PM n n).take i).map (dWordT (FH n cs))) ∧ Same H8 H' ∧ Tk H10 H' ∧ H' r10 = some (.lst ps))
          ⟨none, none, [], rfl, s10 _ _ e9, .nil, s9.trans s10, Tk.refl, eP⟩ (fun _ _ _ _ ⟨_, _, _, _, _, _, _, _, e'⟩ => SqL.of e') (fun i x σ H11o H11 hi ⟨y6, y7, xw, eσ, eW, hXw, s11, t11, eP11⟩ hy => ?_) (fun σ H11 ⟨y6, y7, xw, eσ, eW, hXw, s11, t11, eP11⟩ => ?_)
        · obtain ⟨rfl, hx⟩ := hy
          subst eσ
          obtain ⟨dd, g1, p1⟩ := hPp.get hx
          rw [List.getElem?_map] at g1
          obtain ⟨pr, k1, rfl⟩ := Option.map_eq_some_iff.mp g1
          have gp := pm_good n2 n4 pr (List.mem_of_getElem? k1)
          have p1 := Dp.tk t11 _ (show flatD (dPair pr) = true from rfl) p1
          obtain ⟨o, os, rfl, hoS, hoV⟩ := tup_of p1
          have los := hoV.len
          have lxw := hXw.len
          rw [List.length_map, List.length_take] at lxw
          refine ⟨_, rfl, p, rfl, ⟨_, (Tk.of s11).sqT hdS⟩, fun E hE => ?_⟩
          refine lc_it (walk_tup (xs := dv)) (fun j H' => H' E = some (.lst ((((FH n cs).take j).map fun F => F.pairs.contains pr).map V.bl)) ∧ Same H11 H') ⟨upd_same, same_upd hE⟩ (fun _ _ _ ⟨_, s'⟩ => (Tk.of (s11.trans s')).sqT hdS) (fun j y H12o H12 hj ⟨eE, s12⟩ hy => ?_) (fun H12 ⟨eE, s12⟩ => ?_)
          · obtain ⟨rfl, hx2⟩ := hy
            obtain ⟨d', g2, p2⟩ := hdV.get hx2
            rw [List.getElem?_map] at g2
            obtain ⟨F, k2, rfl⟩ := Option.map_eq_some_iff.mp g2
            have mF := List.mem_of_getElem? k2
            have p2 := Dp.sm (s11.trans s12) _ p2
            obtain ⟨u, us, eu, _⟩ := tup_of p2
            subst eu
            obtain ⟨_, n', p', ps', e, hA, hN', hP', hDp⟩ := p2.field
            cases e
            refine ⟨rfl, yes_ ⟨_, rfl, _, rfl, ix1 hA ⟨dPair pr, F.pairs.map dPair, Dp.sm s12 _ p1, .tup hP' hDp, sh_pair gp.1 gp.2, sh_pairs (okF F mF).good, ?_⟩⟩⟩
            rw [show (F.pairs.map dPair).any (fun z => PyData.eqv z (dPair pr)) = F.pairs.contains pr from any_pairs F.pairs pr.1 pr.2]
            refine ⟨_, eE, ?_, ?_, same_put s12 hE⟩
            · rw [List.length_map, List.length_map, List.length_take]
              exact small1000 (by omega)
            · rw [upd_same, take_snoc k2, List.map_append, List.map_append]
              rfl
          · rw [ldv, List.take_length] at eE
            have eW12 := s12 _ _ eW
            refine ⟨_, rfl, Or.inl ⟨rfl, _, SqL.of eW12⟩, ?_⟩
            refine ⟨_, rfl, ?_⟩
            have inT : ∀ {Q2 : VK}, Q2 (.bl ((FH n cs).any fun F => F.pairs.contains pr)) H12 → (rIn K false) (.bl true) (.ref E) H12 Q2 := fun {Q2} h => ⟨E, _, rfl, .inl (SqL.of eE), rfl, flat_bls _, by rw [if_neg Bool.false_ne_true, has_true]; exact h⟩
            have inF : ∀ {Q2 : VK}, Q2 (.bl ((FH n cs).any fun F => !F.pairs.contains pr)) H12 → (rIn K false) (.bl false) (.ref E) H12 Q2 := fun {Q2} h => ⟨E, _, rfl, .inl (SqL.of eE), rfl, flat_bls _, by rw [if_neg Bool.false_ne_true, has_false]; exact h⟩
            show tIf _ _ _ _ _ _
            refine by_q (fun v H' => v = .str (wordT (FH n cs) pr) ∧ H' = H12) (fun Qx hQ => ?_) (fun v H' ⟨ev, e'⟩ => ?_)
            · have hw : ∀ A B, ((FH n cs).any fun F => F.pairs.contains pr) = A → ((FH n cs).any fun F => !F.pairs.contains pr) = B → wordT (FH n cs) pr = if A && B then ("either" : Str) else if A then ("apart" : Str) else ("touch" : Str) := fun A B h1 h2 => by
                unfold wordT
                rw [h1, h2]
              refine ⟨_, rfl, inT ?_⟩
              cases hA : (FH n cs).any fun F => F.pairs.contains pr with
              | false =>
                refine ⟨_, rfl, iteF (iteF ⟨_, rfl, inT ?_⟩)⟩
                rw [hA]
                exact ⟨_, rfl, iteF (hQ _ _ ⟨by rw [hw _ _ hA rfl]; rfl, rfl⟩)⟩
              | true =>
                refine ⟨_, rfl, iteT ⟨_, rfl, inF ?_⟩⟩
                cases hB : (FH n cs).any fun F => !F.pairs.contains pr with
                | true => exact ⟨_, rfl, iteT (hQ _ _ ⟨by rw [hw _ _ hA hB]; rfl, rfl⟩)⟩
                | false =>
                  refine ⟨_, rfl, iteF ⟨_, rfl, inT ?_⟩⟩
                  rw [hA]
                  exact ⟨_, rfl, iteT (hQ _ _ ⟨by rw [hw _ _ hA hB]; rfl, rfl⟩)⟩
            · subst ev e'
              refine ⟨one_sz, fun t nt => upd_gen nt fun H13 s13 e13 => ?_⟩
              refine catA ((Tk.of (s12.trans s13)).sqT hoS) (SqT.of e13) (Nat.le_of_lt (small1000 (by rw [List.length_singleton, los]; show 2 + 1 ≤ 1000; omega))) fun H14 p14 s14 h14 => ?_
              have s1114 := s12.trans (s13.trans s14)
              have eW14 := s1114 _ _ eW
              refine ⟨W, xw, .ref p14, rfl, rfl, eW14, small1000 (by omega), ?_⟩
              have t8 : Tk H14 (upd H14 W (.lst (xw ++ [.ref p14]))) := Tk.refl.lst eW14
              refine ⟨_, _, xw ++ [.ref p14], rfl, upd_same, ?_, same_put (s11.trans s1114) nW, (t11.trans (Tk.of s1114)).trans t8, ?_⟩
              · rw [take_snoc k1, List.map_append]
                refine (DpAll.tk ((Tk.of s1114).trans t8) _ (flat_wordsT _ _) hXw).app (.cons (Dp.tk t8 _ rfl ?_) .nil)
                exact .tup h14 ((DpAll.sm s1114 _ hoV).app (.cons (.str _) .nil))
              · rw [upd_ne hrW]
                exact s1114 _ _ eP11
        · subst eσ
          rw [lps, List.take_length] at hXw
          have s111 := s18.trans s11
          refine ⟨_, rfl, _, rfl, a, b, n, cs, rfl, hN.same s111, hC.same s111, fun H12 v12 s12 h12 => ?_⟩
          show tIf _ _ _ _ _ _
          refine by_q (fun v H' => Same H12 H' ∧ Dp K H' v (dTold n (FH n cs))) (fun Qx hQ => ?_) (fun v H13 ⟨s13, h13⟩ => ?_)
          · refine ⟨_, rfl, Nat.zero_le _, fun t0 m0 => upd_gen m0 fun H13 s13 e13 => ⟨_, .tuple [], Dp.sm ((s11.trans s12).trans s13) _ hDue8, .tup (SqT.of e13) .nil, sh_fields okF, rfl, ?_⟩⟩
            rw [eqv_fields0]
            unfold dTold at hQ
            cases hE : (FH n cs).isEmpty with
            | true =>
              have h0 := List.isEmpty_iff.mp hE
              rw [if_pos h0] at hQ
              exact ⟨_, rfl, iteF (hQ _ _ ⟨s13, .non⟩)⟩
            | false =>
              have h0 : FH n cs ≠ [] := fun h => by
                rw [h] at hE
                cases hE
              rw [if_neg h0] at hQ
              rw [dword_eq h0] at hXw
              refine ⟨_, rfl, iteT ⟨_, rfl, .inl ⟨W, xw, rfl, SqL.of ((s12.trans s13) _ _ eW), fun pt mt => upd_gen mt fun H14 s14 e14 => hQ _ _ ⟨s13.trans s14, .tup (SqT.of e14) (DpAll.sm ((s12.trans s13).trans s14) _ hXw)⟩⟩⟩⟩
          · refine ⟨v12, v, _, rfl, Dp.sm s13 _ h12, h13, told_sz n2 n4 _, _, rfl, iteF ?_⟩
            have s113 := s111.trans (s12.trans s13)
            have s813 := s11.trans (s12.trans s13)
            refine seq_if ?_
            refine by_q (fun v H' => Same H13 H' ∧ Dp K H' v (dOpt (quarL n cs))) (fun Qx hQ => ?_) (fun lv H14 ⟨s14, h14⟩ => ?_)
            · refine ⟨_, rfl, Nat.zero_le _, fun t0 m0 => upd_gen m0 fun H14 s14 e14 => ⟨_, .tuple [], (hC.same (s113.trans s14)).1, .tup (SqT.of e14) .nil, sh_claims n2 n4 hC.2.1, rfl, ?_⟩⟩
              rw [eqv_claims]
              cases hE : cs.isEmpty with
              | true =>
                have h0 := List.isEmpty_iff.mp hE
                subst h0
                exact ⟨_, rfl, iteF (hQ _ _ ⟨s14, .non⟩)⟩
              | false =>
                have h0 : cs ≠ [] := fun h => by
                  rw [h] at hE
                  cases hE
                exact ⟨_, rfl, iteT ⟨_, rfl, _, rfl, b, ys, rfl, .inr ((Tk.of ((s2.trans (s3.trans s4)).trans ((s48.trans s813).trans s14))).sqT hyS), D, n, cs, (by rw [lys]; rfl), n2, n4, Dp.sm (s813.trans s14) _ hHeld8, h0, l6, fun H15 v15 s15 h15 => hQ _ _ ⟨s14.trans s15, h15⟩⟩⟩
            · have s114 := s113.trans s14
              refine ⟨_, rfl, _, rfl, a, b, n, cs, rfl, hN.same s114, hC.same s114, fun H15 v15 s15 h15 => ?_⟩
              refine ⟨_, rfl, _, rfl, a, b, n, cs, rfl, hN.same (s114.trans s15), hC.same (s114.trans s15), fun H16 v16 s16 h16 => ?_⟩
              refine ⟨two_sz, fun L3 nL3 => upd_gen nL3 fun H17 s17 e17 => ?_⟩
              refine ⟨_, rfl, _, rfl, two_sz, fun L4 nL4 => upd_gen nL4 fun H18 s18' e18 => ?_⟩
              have s1418 := (s15.trans s16).trans (s17.trans s18')
              exact ⟨.ref L3, .ref L4, _, rfl, .lst (SqL.of (s18' _ _ e17)) (.cons (Dp.sm (s16.trans (s17.trans s18')) _ h15) (.cons (Dp.sm (s17.trans s18') _ h16) .nil)), .lst (SqL.of e18) (.cons (Dp.sm s1418 _ h14) (.cons (Dp.sm s1418 _ h14) .nil)), opt_sz2 (by omega), q _ (s114.trans s1418)⟩
end
end XB
set_option Elab.async false
set_option linter.all false
namespace XB
open PySem PySem.Spec PyProof.Rows L2
/-- a def called without arguments -/
theorem pe_k0 {X : Cx} {k j : Nat} {x : Str} {sp : Sp} {p pos : Pos} (c : Cl X.prog X.w X.K X.mg X.base CX0 k x sp) (hr : Room j X.A) (hk : k ≤ j) (hg : Gl X x)
    (hdb : (x == ("__debug__" : Str)) = false := by decide) : PE X (.Call (.Name x p) [] [] pos) (tCall sp [] E0 tNil) := by
  obtain ⟨f, fd, ps, F, hm, kp, b⟩ := c.ex
  exact pe_call0 F (hr.mono hk) hg hm kp b .nil pass0 hdb
end XB
set_option Elab.async false
set_option linter.all false
set_option maxRecDepth 100000
set_option maxHeartbeats 4000000
namespace XB
open PySem PySem.Spec PyProof.Rows L2
theorem op_ninDTk {X : Cx} {K : PySem.W.Frag} (hk : X.K = K) (hu : X.A.units + 65 < cLine) : OpR X (compareOp .NotIn) (fun x y H Q => ∃ d ds, Dp K H x d ∧ Dp K H y (.tuple ds) ∧ SeqAt.shaped d = true ∧ SeqAt.shaped (.tuple ds) = true ∧ Q (.bl (!ds.any fun z => PyData.eqv z d)) H) := by
  subst hk
  intro pins s σ H x y v u Q I rx ry h
  obtain ⟨d, ds, hd, he, sd, se, q⟩ := h
  obtain ⟨as, r1⟩ := Dp.reads I d x v hd rx
  obtain ⟨bs, r2⟩ := Dp.reads I _ y u he ry
  exact SeqAt.notIn_tuple_reads r2 r1 (SeqAt.canLay_of_shaped se) (SeqAt.canLay_of_shaped sd) (room_in_shaped sd hu) ⟨.bl _, H, I, rfl, q⟩
theorem eqv_prs : ∀ l : List (Str × Str), PyData.eqvAll (l.map dPair) (l.map dPair) = true
  | [] => rfl
  | p :: l => by
    rw [List.map_cons, PyData.eqvAll, eqv_prs l, Bool.and_true]
    show (PyData.eqv (.str p.1) (.str p.1) && (PyData.eqv (.str p.2) (.str p.2) && true)) = true
    show ((p.1 == p.1) && ((p.2 == p.2) && true)) = true
    simp
theorem eqv_nms : ∀ l : List Str, PyData.eqvAll (l.map PyData.str) (l.map PyData.str) = true
  | [] => rfl
  | p :: l => by
    rw [List.map_cons, PyData.eqvAll, eqv_nms l, Bool.and_true]
    show (p == p) = true
    simp
theorem eqv_field (F : Fld) : PyData.eqv (dField F) (dField F) = true := by
  show (PyData.eqv (.tuple (F.names.map PyData.str)) (.tuple (F.names.map PyData.str)) && (PyData.eqv (.tuple (F.pairs.map dPair)) (.tuple (F.pairs.map dPair)) && true)) = true
  rw [PyData.eqv, PyData.eqv, eqv_prs, eqv_nms]
  rfl
theorem any_field {fs : List Fld} {F : Fld} (h : F ∈ fs) : (fs.map dField).any (fun z => PyData.eqv z (dField F)) = true := List.any_eq_true.mpr ⟨_, List.mem_map_of_mem h, eqv_field F⟩
theorem sort_prs (l : List (Str × Str)) : SortOkD (l.map dPair) := by
  refine ⟨PySem.W.AllAlike.of fun b b' => by simp [dPair, PySem.W.alike, PySem.W.alikeAll], .inl (PySem.W.Sortable.tuples fun b => ⟨_, _, rfl⟩), fun d hd => ?_⟩
  obtain ⟨x, _, rfl⟩ := List.mem_map.mp hd
  show PyData.depth (.tuple [.str x.1, .str x.2]) ≤ 60
  simp [PyData.depth, PyData.depthAll]
theorem sh_dfield {G : Fld} (hn : ∀ s ∈ G.names, GoodName s) (hp : ∀ p ∈ G.pairs, GoodName p.1 ∧ GoodName p.2) : SeqAt.shaped (dField G) = true := by
  have h := deep_field' G
  show (PyData.canLay0 (.tuple [.tuple (G.names.map PyData.str), .tuple (G.pairs.map dPair)]) && decide ((dField G).depth ≤ 64)) = true
  simp only [PyData.canLay0, PyData.canLayAll0, lay_names' hn, lay_pairs' hp, Bool.and_true, Bool.true_and]
  exact decide_eq_true (by omega)
section
variable {P : Program} {w : World} {K : PySem.W.Frag} {mg : Str → Option Value} {base : Heap}
def spRises (K : PySem.W.Frag) : Sp := fun vs H Q _ => ∃ (a : Addr) (v : V) (n : Nat) (c : Clm), vs = [.ref a, v] ∧ NmA K H a n ∧ Dp K H v (dClaim c) ∧ GoodC n c ∧ ∀ H', Same H H' → Q (.bl true) H'
theorem c__law_rises (T : Tx K mg) : Cl P w K mg base CX0 9 "_law_rises" (spRises K) := by
  refine cl0 T.d__law_rises (ps := ["names", "claim"]) (fun _ _ _ _ _ _ us hl => match us, hl with | [_, _], _ => rfl) sc__law_rises (fun vs H Q E h => ?_) (fun f cdv A outer st H vs Q E hr h => ?_)
  · obtain ⟨a, v, n, c, rfl, _⟩ := h
    rfl
  · obtain ⟨a, v, n, c, rfl, hN, hC, gc, q⟩ := h
    have nd := sc__law_rises.nd
    have hu := u65 hr
    refine ⟨_, (pss_cons (ps_set (i := 2) nd rfl (.inl rfl) (pe_k (c_fields_of T) hr (by decide) (by rfl) (pa_cons (pv 0) (pa_cons (pe_tup (pa_cons (pe_op (op_catAk (K := K) rfl) (pe_slice sl_tupA (pv 1) po_none (po_some pe_int)) (pe_tup (pa_cons pe_bl pa_nil))) pa_nil)) pa_nil))))
    (pss_cons (ps_for PassesOwn.never rfl (pi_tup (pv 2)) (pg_name (i := 3) nd rfl (.inl rfl))
    (pss_one (ps_for PassesOwn.never rfl (pi_list (pe_k (c__law_pairs T) hr (by decide) (by rfl) (pa_cons (pv 0) pa_nil))) (pg_name (i := 4) nd rfl (.inl rfl))
    (pss_one (ps_if (PW.pt (pw_and (pt_cmpR (op_ninDTk (K := K) rfl hu) (pe_tup (pa_cons (pv 0) (pa_cons (pe_tupleOf (by rfl) T.b_tuple (pe_callB (cr_sortedD (K := K) rfl hu) (by rfl) T.b_sorted (by decide +kernel) (pa_cons (pe_op (op_catAk (K := K) rfl) (pe_ix (ixk_tup (K := K) rfl) (pv 3) pe_int (fun _ _ => rfl)) (pe_tup (pa_cons (pv 4) pa_nil))) pa_nil))) pa_nil))) (pv 2) (by rfl)) (pw_and1 (pt_cmpR (op_ninDTk (K := K) rfl hu) (pv 4) (pe_ix (ixk_tup (K := K) rfl) (pv 3) pe_int (fun _ _ => rfl)) (by rfl))))) pss_never pss_nil)))))
    (pss_one (ps_ret pe_bl)))), ?_⟩
    have n2 := hN.2.1
    have n4 := hN.2.2
    obtain ⟨b, p, r, rfl, hS, h1, h2⟩ := claim_of hC
    refine ⟨_, rfl, _, rfl, noPart ⟨((2 : Nat) : Int), rfl, sl_pre (k := 2) hS fun H1 p1 s1 hp1 => ?_⟩⟩
    refine ⟨one_sz, fun t2 m2 => upd_gen m2 fun H2 s2 e2 => ?_⟩
    refine catA ((Tk.of s2).sqT hp1) (SqT.of e2) (by show 2 + 1 ≤ sizeLine; decide) fun H3 p3 s3 h3 => ?_
    refine ⟨one_sz, fun t4 m4 => upd_gen m4 fun H4 s4 e4 => ?_⟩
    have s14 := (s1.trans s2).trans (s3.trans s4)
    have h3 : SqT K H3 p3 [.ref p, .ref r, .bl true] := h3
    have gc' : GoodC n (c.1, c.2.1, true) := gc
    refine ⟨a, t4, n, [(c.1, c.2.1, true)], rfl, hN.same s14, ⟨.tup (SqT.of e4) (.cons (.tup ((Tk.of s4).sqT h3) (.cons (Dp.sm s14 _ h1) (.cons (Dp.sm s14 _ h2) (.cons (.bl true) .nil)))) .nil), fun d hd => by rw [List.mem_singleton.mp hd]; exact gc', (show 1 ≤ 12 by decide)⟩, fun H5 r5 s5 h5 => ?_⟩
    have s15 := s14.trans s5
    obtain ⟨_, fs, e, hfS, hfV⟩ := tup_of h5
    cases e
    have okF := fh_ok n2 n4 [(c.1, c.2.1, true)]
    refine ⟨_, rfl, r5, rfl, ⟨_, hfS⟩, ?_⟩
    refine for_it (walk_tup (xs := fs)) (fun i σ H' => ∃ (y3 y4 : Option V), σ = [some (.ref a), some (.ref b), some (.ref r5), y3, y4] ∧ Same H5 H')
      ⟨none, none, rfl, Same.refl _⟩ (fun _ _ _ _ ⟨_, _, _, s'⟩ => (Tk.of s').sqT hfS) (fun i x σ H6o H6 hi ⟨y3, y4, eσ, s6⟩ hy => ?_) (fun σ H6 ⟨y3, y4, eσ, s6⟩ => ?_)
    · obtain ⟨rfl, hx⟩ := hy
      subst eσ
      obtain ⟨dd, g1, p1⟩ := hfV.get hx
      rw [List.getElem?_map] at g1
      obtain ⟨F, k1, rfl⟩ := Option.map_eq_some_iff.mp g1
      have mF := List.mem_of_getElem? k1
      have ok := okF F mF
      have p1 := Dp.sm s6 _ p1
      obtain ⟨o, os, eo, _⟩ := tup_of p1
      subst eo
      obtain ⟨_, nn', pp', ps', e, hA, hNn, hP', hDp⟩ := p1.field
      cases e
      have s16 := s15.trans s6
      refine ⟨_, rfl, a, n, rfl, hN.same s16, fun H7 r7 s7 n7 ⟨ps, eP, hP⟩ => ⟨r7, rfl, ⟨_, SqL.of eP⟩, ?_⟩⟩
      refine for_it (walk_list (xs := ps)) (fun i σ H' => ∃ (y4 : Option V), σ = [some (.ref a), some (.ref b), some (.ref r5), some (.ref o), y4] ∧ Same H7 H')
        ⟨y4, rfl, Same.refl _⟩ (fun _ _ _ _ ⟨_, _, s'⟩ => SqL.of (s' _ _ eP)) (fun j x σ H8o H8 hj ⟨y4, eσ, s8⟩ hy => ?_) (fun σ H8 ⟨y4, eσ, s8⟩ => ?_)
      · obtain ⟨rfl, hx2⟩ := hy
        subst eσ
        obtain ⟨dd, g2, p2⟩ := hP.get hx2
        rw [List.getElem?_map] at g2
        obtain ⟨pr, k2, rfl⟩ := Option.map_eq_some_iff.mp g2
        have mp := List.mem_of_getElem? k2
        have gp := pm_good n2 n4 pr mp
        have p2 := Dp.sm s8 _ p2
        obtain ⟨t, ts, et, _⟩ := tup_of p2
        subst et
        have s68 := s7.trans s8
        have lps := hDp.len
        rw [List.length_map] at lps
        have lok := ok.len
        refine ⟨_, rfl, _, rfl, ix1 ((Tk.of s68).sqT hA) ?_⟩
        refine ⟨_, rfl, one_sz, fun t9 m9 => upd_gen m9 fun H9 s9 e9 => ?_⟩
        refine catA ((Tk.of (s68.trans s9)).sqT hP') (SqT.of e9) (Nat.le_of_lt (small1000 (by rw [List.length_singleton]; omega))) fun H10 p10 s10 h10 => ?_
        have s810 := s9.trans s10
        have hD10 : DpAll K H10 (ps' ++ [.ref t]) ((F.pairs ++ [pr]).map dPair) := by
          rw [List.map_append]
          exact (DpAll.sm (s68.trans s810) _ hDp).app (.cons (Dp.sm s810 _ p2) .nil)
        refine ⟨p10, _, _, rfl, .inr h10, hD10, sort_prs _, fun p11 zs m11 hZ => upd_gen m11 fun H11 s11 e11 => ?_⟩
        rw [addP_sort] at hZ
        refine .inl ⟨p11, zs, rfl, SqL.of e11, fun p12 m12 => upd_gen m12 fun H12 s12 e12 => ?_⟩
        refine ⟨two_sz, fun t13 m13 => upd_gen m13 fun H13 s13 e13 => ?_⟩
        have s1013 := (s11.trans s12).trans s13
        have s813 := s810.trans s1013
        have hG : Dp K H13 (.ref t13) (dField ⟨ML.take n, addP F.pairs pr⟩) := .tup (SqT.of e13) (.cons (.tup ((Tk.of ((s16.trans s68).trans s813)).sqT hN.1) (DpAll.strs _)) (.cons (.tup ((Tk.of s13).sqT (SqT.of e12)) (DpAll.sm s1013 _ hZ)) .nil))
        have okN : (Fld.mk (ML.take n) []).Ok := fld_okM (by omega) (by omega) (List.nil_sublist _)
        refine ⟨_, rfl, _, _, hG, Dp.sm ((s6.trans s68).trans s813) _ h5, sh_dfield okN.sgn (fun z hz => ?_), sh_fields okF, ?_⟩
        · rcases addP_mem.mp hz with h | h
          · exact ok.good z h
          · rw [h]
            exact gp
        refine ⟨_, rfl, ite2 (fun h => ?_) (fun h => ?_)⟩
        · have hn : (⟨ML.take n, addP F.pairs pr⟩ : Fld) ∉ FH n [(c.1, c.2.1, true)] := fun hm => by
            rw [any_field hm] at h
            cases h
          have hc : F.pairs.contains pr = true := by
            rw [List.contains_iff_mem]
            exact Classical.byContradiction fun hc => hn (fh_add n2 n4 gc' mF rfl mp hc)
          refine ⟨_, rfl, _, rfl, ix1 ((Tk.of (s68.trans s813)).sqT hA) ⟨_, _, Dp.sm s813 _ p2, .tup ((Tk.of (s68.trans s813)).sqT hP') (DpAll.sm (s68.trans s813) _ hDp), sh_pair gp.1 gp.2, sh_pairs ok.good, ?_⟩⟩
          rw [show (F.pairs.map dPair).any (fun z => PyData.eqv z (dPair pr)) = F.pairs.contains pr from any_pairs F.pairs pr.1 pr.2, hc]
          exact ⟨_, rfl, iteF ⟨_, rfl, s8.trans s813⟩⟩
        · exact iteF ⟨_, rfl, s8.trans s813⟩
      · subst eσ
        exact ⟨_, _, rfl, s6.trans (s7.trans s8)⟩
    · subst eσ
      exact q _ (s15.trans s6)
end
end XB
set_option Elab.async false
set_option linter.all false
set_option maxRecDepth 100000
set_option maxHeartbeats 4000000
namespace XB
open PySem PySem.Spec PyProof.Rows L2
/-- whether numbers of claims hold together in no field, over the rows as they come -/
def badP (n : Nat) (cs : List Clm) (nums : List Nat) : Bool := (rowsL (PM n n)).all fun r => !nums.all fun k => match cs[k]? with
  | some c => holdsB ⟨ML.take n, r⟩ c
  | none => false
theorem bad_eq (n : Nat) (cs : List Clm) (nums : List Nat) : bad n cs nums = badP n cs nums := by
  unfold bad badP leftL
  rw [Bool.eq_iff_iff, List.isEmpty_iff, List.filter_eq_nil_iff, List.all_eq_true]
  have key : ∀ t F, (FA n)[t]? = some F → (nums.all fun k => holdK n cs k t) = nums.all fun k => match cs[k]? with
      | some c => holdsB F c
      | none => false := fun t F h => by
    congr 1
    funext k
    unfold holdK
    cases cs[k]? with
    | none => rfl
    | some c =>
      show holdAt n c t = holdsB F c
      unfold holdAt
      rw [h]
  constructor
  · intro h r hr
    have hm : (⟨ML.take n, r⟩ : Fld) ∈ FA n := List.mem_map_of_mem ((afr_perm n).mem_iff.mpr hr)
    obtain ⟨t, ht, e⟩ := List.getElem_of_mem hm
    have e2 : (FA n)[t]? = some ⟨ML.take n, r⟩ := by rw [List.getElem?_eq_getElem ht, e]
    have := h t (List.mem_range.mpr ht)
    rw [key t _ e2] at this
    rw [Bool.not_eq_true'] 
    exact Bool.eq_false_iff.mpr this
  · intro h t ht
    have ht := List.mem_range.mp ht
    have e2 : (FA n)[t]? = some (FA n)[t] := List.getElem?_eq_getElem ht
    obtain ⟨r, hr, e⟩ := List.mem_map.mp (List.getElem_mem ht)
    rw [key t _ e2, ← e]
    have := h r ((afr_perm n).mem_iff.mp hr)
    rw [Bool.not_eq_true'] at this
    rw [this]
    exact Bool.false_ne_true
theorem go_eq {f g : List Nat → Bool} (h : ∀ l, f l = g l) (t k : Nat) (l : List (List Nat)) : quarGo f t k l = quarGo g t k l := by
  rw [show f = g from funext h]
theorem quar_eq (n : Nat) (cs : List Clm) : quarL n cs = quarGo (badP n cs) cs.length cs.length [[]] := go_eq (bad_eq n cs) _ _ _
def pairC (p : Str × Str) : Clm := ([(p.1, 1), (p.2, 1)], [(p.2, 1), (p.1, 1)], true)
def rowC : Clm := ([("a", 1), ("b", 1), ("c", 1), ("d", 1)], [("d", 1), ("c", 1), ("b", 1), ("a", 1)], false)
/-- seven claims that quarrel -/
def C7 : List Clm := (PM 4 4).map pairC ++ [rowC]
/-- which of the seven hold, row by row -/
def tabOf (cs : List Clm) : List (List Bool) := (rowsL (PM 4 4)).map fun r => cs.map fun c => holdsB ⟨ML.take 4, r⟩ c
def T7 : List (List Bool) := (List.range 64).map fun t => [t.testBit 0, t.testBit 1, t.testBit 2, t.testBit 3, t.testBit 4, t.testBit 5, t != 63]
theorem t7_is : tabOf C7 = T7 := by decide +kernel
def badT (tab : List (List Bool)) (nums : List Nat) : Bool := tab.all fun row => !nums.all fun k => row.getD k false
theorem badP_tab (cs : List Clm) (nums : List Nat) : badP 4 cs nums = badT (tabOf cs) nums := by
  unfold badP badT tabOf
  rw [List.all_map]
  congr 1
  funext r
  show _ = (!nums.all fun k => (cs.map fun c => holdsB ⟨ML.take 4, r⟩ c).getD k false)
  congr 2
  funext k
  rw [List.getD_eq_getElem?_getD, List.getElem?_map]
  cases cs[k]? <;> rfl
theorem go7 : quarGo (badT T7) 7 7 [[]] = some [0, 1, 2, 3, 4, 5, 6] := by decide +kernel
theorem go6 : quarGo (badT (T7.map (List.drop 1))) 6 6 [[]] = none := by decide +kernel
theorem quar7 : quarL 4 C7 = some [0, 1, 2, 3, 4, 5, 6] := by
  rw [quar_eq, go_eq (badP_tab C7), t7_is]
  exact go7
theorem tab_drop (cs : List Clm) : tabOf (cs.drop 1) = (tabOf cs).map (List.drop 1) := by
  unfold tabOf
  rw [List.map_map]
  refine List.map_congr_left fun r _ => ?_
  show _ = ((cs.map _).drop 1)
  rw [List.map_drop]
theorem quar6 : quarL 4 (C7.drop 1) = none := by
  rw [quar_eq, go_eq (badP_tab (C7.drop 1)), tab_drop, t7_is]
  exact go6
/-- the last two claims of the law -/
def C2 : List Clm := [([("a", 1), ("b", 1)], [("b", 1), ("a", 1)], true), ([("a", 2), ("b", 3)], [("b", 3), ("a", 2)], false)]
def tab2 (cs : List Clm) : List (List Bool) := (rowsL (PM 2 2)).map fun r => cs.map fun c => holdsB ⟨ML.take 2, r⟩ c
theorem badP_tab2 (cs : List Clm) (nums : List Nat) : badP 2 cs nums = badT (tab2 cs) nums := by
  unfold badP badT tab2
  rw [List.all_map]
  congr 1
  funext r
  show _ = (!nums.all fun k => (cs.map fun c => holdsB ⟨ML.take 2, r⟩ c).getD k false)
  congr 2
  funext k
  rw [List.getD_eq_getElem?_getD, List.getElem?_map]
  cases cs[k]? <;> rfl
theorem quar2 : quarL 2 C2 = some [0, 1] := by
  rw [quar_eq, go_eq (badP_tab2 C2)]
  decide +kernel
def C1 : List Clm := [([("a", 1), ("b", 1)], [("b", 1), ("a", 1)], true)]
def F1 : Fld := ⟨ML.take 2, [("a", "b")]⟩
theorem rows2 : rowsL (PM 2 2) = ([[], [("a", "b")]] : List (List (Str × Str))) := by decide +kernel
theorem h1f : (C1.all (holdsB ⟨ML.take 2, []⟩)) = false := by decide +kernel
theorem h1t : (C1.all (holdsB F1)) = true := by decide +kernel
theorem fh1 : FH 2 C1 = [F1] := by
  have h := (fa_perm 2).filter fun F => C1.all (holdsB F)
  rw [rows2, List.map_cons, List.map_cons, List.map_nil, List.filter_cons, List.filter_cons, List.filter_nil, h1f] at h
  have e : (C1.all (holdsB (⟨ML.take 2, [("a", "b")]⟩ : Fld))) = true := h1t
  rw [e, if_neg Bool.false_ne_true, if_pos rfl] at h
  exact List.perm_singleton.mp h
theorem pm2 : PM 2 2 = ([("a", "b")] : List (Str × Str)) := by decide +kernel
theorem word1 : wordS [F1] ("a", "b") = "apart" := by decide +kernel
theorem told1 : dTold 2 (FH 2 C1) = .tuple [.tuple [.str "a", .str "b", .str "apart"]] := by
  rw [fh1]
  unfold dTold
  rw [if_neg (fun h => nomatch h), pm2]
  show PyData.tuple [dWord [F1] ("a", "b")] = _
  unfold dWord
  rw [word1]
end XB
set_option Elab.async false
set_option linter.all false
set_option maxRecDepth 100000
set_option maxHeartbeats 4000000
namespace XB
open PySem PySem.Spec PyProof.Rows L2
def goodSB (n : Nat) (l : List (Str × Int)) : Bool := decide (l.length ≤ 60) && l.all fun s => (ML.take n).contains s.1 && decide (s.2 ≠ 0) && decide (-(10 ^ 30) ≤ s.2) && decide (s.2 ≤ 10 ^ 30)
theorem goodSB_of {n : Nat} {l : List (Str × Int)} (h : goodSB n l = true) : GoodS n l := by
  unfold goodSB at h
  rw [Bool.and_eq_true, decide_eq_true_eq, List.all_eq_true] at h
  refine ⟨h.1, fun s hs => ?_⟩
  have := h.2 s hs
  simp only [Bool.and_eq_true, decide_eq_true_eq] at this
  exact ⟨List.contains_iff_mem.mp this.1.1.1, this.1.1.2, this.1.2, this.2⟩
def goodCB (n : Nat) (cs : List Clm) : Bool := cs.all fun c => goodSB n c.1 && goodSB n c.2.1
theorem goodCB_of {n : Nat} {cs : List Clm} (h : goodCB n cs = true) : ∀ c ∈ cs, GoodC n c := fun c hc => by
  have := List.all_eq_true.mp h c hc
  rw [Bool.and_eq_true] at this
  exact ⟨goodSB_of this.1, goodSB_of this.2⟩
theorem good7 : goodCB 4 C7 = true := by decide +kernel
theorem good2 : goodCB 2 C2 = true := by decide +kernel
theorem good1 : goodCB 2 C1 = true := by decide +kernel
theorem dp_prs {K : PySem.W.Frag} {H : Hp} {v : V} {p : Str × Str} (h : Dp K H v (dPair p)) : ∃ o, v = .ref o ∧ SqT K H o [.str p.1, .str p.2] := by
  obtain ⟨o, os, rfl, hS, hA⟩ := tup_of h
  cases hA with
  | cons h1 hA =>
  cases hA with
  | cons h2 hA =>
  cases hA
  cases h1
  cases h2
  exact ⟨o, rfl, hS⟩
theorem seven_sz : 7 ≤ sizeLine := by decide
theorem dstep_of {K : PySem.W.Frag} {H H' : Hp} {p : Addr} (s : Str × Int) (e : H p = some (.tup [.str s.1, .int s.2])) (k : Same H H') : Dp K H' (.ref p) (dStep s) := Dp.of_step ((Tk.of k).sqT (SqT.of e))
section
variable {P : Program} {w : World} {K : PySem.W.Frag} {mg : Str → Option Value} {base : Heap}
def spSeven : Sp := fun vs H Q _ => vs = [] ∧ ∀ H', Same H H' → Q (.bl true) H'
theorem c__law_seven_right (T : Tx K mg) : Cl P w K mg base CX0 10 "_law_seven_right" spSeven := by
  refine cl0 T.d__law_seven_right (ps := []) (fun _ _ _ _ _ _ us hl => match us, hl with | [], _ => rfl) sc__law_seven_right (fun vs H Q E h => ?_) (fun f cdv A outer st H vs Q E hr h => ?_)
  · obtain ⟨rfl, _⟩ := h
    rfl
  · obtain ⟨rfl, q⟩ := h
    have nd := sc__law_seven_right.nd
    have hu := u65 hr
    refine ⟨_, (pss_cons (ps_asg (pe_tup (pa_cons (pe_tup (pa_cons pe_str (pa_cons pe_str (pa_cons pe_str (pa_cons pe_str pa_nil))))) (pa_cons (pe_tup pa_nil) pa_nil))) (pg_tup rfl (pgs_cons (pg_name (i := 0) nd rfl (.inl rfl)) (pgs_cons (pg_name (i := 1) nd rfl (.inl rfl)) pgs_nil))))
    (pss_cons (ps_for PassesOwn.never rfl (pi_list (pe_k (c__law_pairs T) hr (by decide) (by rfl) (pa_cons (pv 0) pa_nil))) (pg_tup rfl (pgs_cons (pg_name (i := 2) nd rfl (.inl rfl)) (pgs_cons (pg_name (i := 3) nd rfl (.inl rfl)) pgs_nil)))
    (pss_one (ps_set (i := 1) nd rfl (.inl rfl) (pe_op (op_catAk (K := K) rfl) (pv 1) (pe_tup (pa_cons (pe_tup (pa_cons (pe_tup (pa_cons (pe_tup (pa_cons (pv 2) (pa_cons pe_int pa_nil))) (pa_cons (pe_tup (pa_cons (pv 3) (pa_cons pe_int pa_nil))) pa_nil))) (pa_cons (pe_tup (pa_cons (pe_tup (pa_cons (pv 3) (pa_cons pe_int pa_nil))) (pa_cons (pe_tup (pa_cons (pv 2) (pa_cons pe_int pa_nil))) pa_nil))) (pa_cons pe_bl pa_nil)))) pa_nil))))))
    (pss_cons (ps_set (i := 4) nd rfl (.inl rfl) (pe_tupleOf (by rfl) T.b_tuple (pe_lc (own := [("name", 5)]) (g := (gName 5)) (tt := tYes) (by rfl) nd (pi_tup (pv 0)) (blkOk_by (own := [("name", 5)]) (N := ["names", "claims", "one", "other", "row", "name"]) (sc := defScope s__law_seven_right) (by decide +kernel)) (fun _ _ _ _ _ => (pg_name (i := 5) nd rfl (by first | exact Or.inl rfl | exact Or.inr rfl))) (fun _ _ _ _ _ => pts_nil) (fun _ _ _ _ _ => (pe_tup (pa_cons (pv 5) (pa_cons pe_int pa_nil)))))))
    (pss_cons (ps_set (i := 1) nd rfl (.inl rfl) (pe_op (op_catAk (K := K) rfl) (pv 1) (pe_tup (pa_cons (pe_tup (pa_cons (pv 4) (pa_cons (pe_revT (pv 4)) (pa_cons pe_bl pa_nil)))) pa_nil))))
    (pss_one (ps_ret (pe_and (pe_cmpR (op_eqD hr.units) (pe_k (c_quarrel T) hr (by decide) (by rfl) (pa_cons (pv 0) (pa_cons (pv 1) pa_nil))) (pe_tup (pa_cons pe_int (pa_cons pe_int (pa_cons pe_int (pa_cons pe_int (pa_cons pe_int (pa_cons pe_int (pa_cons pe_int pa_nil)))))))) (nomark _)) (pe_one (pe_cmpR op_isN (pe_k (c_quarrel T) hr (by decide) (by rfl) (pa_cons (pv 0) (pa_cons (pe_slice sl_tupA (pv 1) (po_some pe_int) po_none) pa_nil))) pe_non (nomark _)))))))))), ?_⟩
    refine ⟨four_sz, fun a na => upd_gen na fun H1 s1 e1 => ⟨Nat.zero_le _, fun c0 nc => upd_gen nc fun H2 s2' e2 => ⟨two_sz, fun TT hT => upd_gen hT fun H2b s2b e2b => ⟨TT, _, rfl, SqT.of e2b, rfl, _, _, rfl, _, _, rfl, rfl, ?_⟩⟩⟩⟩
    have s2 := s2'.trans s2b
    have hN : NmA K H2b a 4 := ⟨(Tk.of s2).sqT (SqT.of e1), by decide, by decide⟩
    refine ⟨_, rfl, a, 4, rfl, hN, fun H3 r3 s3 m3 ⟨ps, eP, hP⟩ => ⟨r3, rfl, ⟨_, SqL.of eP⟩, ?_⟩⟩
    have lps := hP.len
    rw [List.length_map] at lps
    have l6 : (PM 4 4).length = 6 := PM_lens.2.2
    have hN3 := hN.same s3
    refine for_it (walk_list (xs := ps)) (fun i σ H' => ∃ (cl : Addr) (y2 y3 : Option V), σ = [some (.ref a), some (.ref cl), y2, y3, none, none] ∧ Same H3 H' ∧ Dp K H' (.ref cl) (.tuple ((((PM 4 4).take i).map pairC).map dClaim)))
      ⟨c0, none, none, rfl, Same.refl _, .tup ((Tk.of (s2b.trans s3)).sqT (SqT.of e2)) .nil⟩ (fun _ _ _ _ ⟨_, _, _, _, s', _⟩ => SqL.of (s' _ _ eP)) (fun i x σ H4o H4 hi ⟨cl, y2, y3, eσ, s4, hcl⟩ hy => ?_) (fun σ H4 ⟨cl, y2, y3, eσ, s4, hcl⟩ => ?_)
    · obtain ⟨rfl, hx⟩ := hy
      subst eσ
      obtain ⟨dd, g1, p1⟩ := hP.get hx
      rw [List.getElem?_map] at g1
      obtain ⟨pr, k1, rfl⟩ := Option.map_eq_some_iff.mp g1
      obtain ⟨o, rfl, hoS⟩ := dp_prs (Dp.sm s4 _ p1)
      obtain ⟨_, cx, e, hcS, hcV⟩ := tup_of hcl
      cases e
      have lcx := hcV.len
      rw [List.length_map, List.length_map, List.length_take] at lcx
      refine ⟨o, _, rfl, hoS, rfl, _, _, rfl, _, _, rfl, rfl, ?_⟩
      refine ⟨_, rfl, _, rfl, two_sz, fun t1 m1 => upd_gen m1 fun J1 j1 f1 => ⟨_, rfl, two_sz, fun t2 m2 => upd_gen m2 fun J2 j2 f2 => ⟨two_sz, fun t3 m3 => upd_gen m3 fun J3 j3 f3 => ?_⟩⟩⟩
      refine ⟨_, rfl, two_sz, fun t4 m4 => upd_gen m4 fun J4 j4 f4 => ⟨_, rfl, two_sz, fun t5 m5 => upd_gen m5 fun J5 j5 f5 => ⟨two_sz, fun t6 m6 => upd_gen m6 fun J6 j6 f6 => ?_⟩⟩⟩
      refine ⟨three_sz, fun t7 m7 => upd_gen m7 fun J7 j7 f7 => ⟨one_sz, fun t8 m8 => upd_gen m8 fun J8 j8 f8 => ?_⟩⟩
      have j78 := j7.trans j8
      have j68 := j6.trans j78
      have j58 := j5.trans j68
      have j48 := j4.trans j58
      have j38 := j3.trans j48
      have j28 := j2.trans j38
      have j18 := j1.trans j28
      have hd : Dp K J8 (.ref t7) (dClaim (pairC pr)) := .tup ((Tk.of j8).sqT (SqT.of f7)) (.cons (.tup ((Tk.of j48).sqT (SqT.of f3)) (.cons (dstep_of (pr.1, 1) f1 j28) (.cons (dstep_of (pr.2, 1) f2 j38) .nil))) (.cons (.tup ((Tk.of j78).sqT (SqT.of f6)) (.cons (dstep_of (pr.2, 1) f4 j58) (.cons (dstep_of (pr.1, 1) f5 j68) .nil))) (.cons (.bl true) .nil)))
      refine catA ((Tk.of j18).sqT hcS) (SqT.of f8) (Nat.le_of_lt (small1000 (by rw [List.length_singleton]; omega))) fun J9 p9 j9 h9 => ?_
      refine ⟨p9, _, _, rfl, s4.trans (j18.trans j9), .tup h9 ?_⟩
      rw [take_snoc k1, List.map_append, List.map_append]
      exact (DpAll.sm (j18.trans j9) _ hcV).app (.cons (Dp.sm j9 _ hd) .nil)
    · subst eσ
      rw [lps, List.take_length] at hcl
      have hN4 := hN3.same s4
      refine ⟨_, rfl, a, rfl, ⟨_, hN4.1⟩, fun D hD => ?_⟩
      refine lc_it (walk_tup (xs := (ML.take 4).map V.str)) (fun j H' => Row2 K H' D (((ML.take 4).take j).map fun x => (x, (1 : Int))) ∧ Same H4 H') ⟨⟨[], upd_same, .nil⟩, same_upd hD⟩ (fun _ _ _ ⟨_, s'⟩ => (Tk.of s').sqT hN4.1) (fun j x H5o H5 hj ⟨⟨ys, eD, hY⟩, s5⟩ hy => ?_) (fun H5 ⟨⟨ys, eD, hY⟩, s5⟩ => ?_)
      · obtain ⟨rfl, hx⟩ := hy
        obtain ⟨x, k2, rfl⟩ := str_at hx
        have lY := hY.len
        rw [List.length_map, List.length_map, List.length_take] at lY
        have l4 : (ML.take 4).length = 4 := rfl
        refine ⟨rfl, yes_ ⟨_, rfl, two_sz, fun t nt => upd_gen nt fun H6 s6 e6 => ⟨ys, s6 _ _ eD, small1000 (by omega), ⟨ys ++ [.ref t], upd_same, ?_⟩, same_put (s5.trans s6) hD⟩⟩⟩
        have t8 : Tk H6 (upd H6 D (.lst (ys ++ [.ref t]))) := Tk.refl.lst (s6 _ _ eD)
        rw [take_snoc k2, List.map_append, List.map_append]
        exact (DpAll.tk ((Tk.of s6).trans t8) _ (flat_all_steps _) hY).app (.cons (Dp.of_step (s := (x, 1)) (t8.sqT (SqT.of e6))) .nil)
      · have hY : DpAll K H5 ys (([("a", 1), ("b", 1), ("c", 1), ("d", 1)] : List (Str × Int)).map fun (s : Str × Int) => dStep s) := hY
        refine .inl ⟨D, ys, rfl, SqL.of eD, fun r nr => upd_gen nr fun H6 s6 e6 => ?_⟩
        have hY6 := DpAll.sm s6 _ hY
        obtain ⟨_, cx, e, hcS, hcV⟩ := tup_of hcl
        cases e
        have lcx := hcV.len
        rw [List.length_map, List.length_map, l6] at lcx
        refine ⟨_, rfl, _, rfl, _, rfl, r, ys, rfl, SqT.of e6, fun p7 m7 => upd_gen m7 fun H7 s7 e7 => ⟨three_sz, fun t8 m8 => upd_gen m8 fun H8 s8 e8 => ⟨one_sz, fun t9 m9 => upd_gen m9 fun H9 s9 e9 => ?_⟩⟩⟩
        have s79 := s7.trans (s8.trans s9)
        have hd : Dp K H9 (.ref t8) (dClaim rowC) := .tup ((Tk.of s9).sqT (SqT.of e8)) (.cons (.tup ((Tk.of s79).sqT (SqT.of e6)) (DpAll.sm s79 _ hY6)) (.cons (.tup ((Tk.of (s8.trans s9)).sqT (SqT.of e7)) (DpAll.sm s79 _ hY6).rev) (.cons (.bl false) .nil)))
        have s49 := s5.trans (s6.trans s79)
        refine catA ((Tk.of s49).sqT hcS) (SqT.of e9) (Nat.le_of_lt (small1000 (by rw [List.length_singleton]; omega))) fun H10 p10 s10 h10 => ?_
        have s410 := s49.trans s10
        have hN10 := hN4.same s410
        have hA : DpAll K H10 (cx ++ [.ref t8]) (C7.map dClaim) := by
          unfold C7
          rw [List.map_append]
          exact (DpAll.sm s410 _ hcV).app (.cons (Dp.sm s10 _ hd) .nil)
        have l7 : C7.length ≤ 12 := by decide +kernel
        refine ⟨_, rfl, _, rfl, a, p10, 4, C7, rfl, hN10, ⟨.tup h10 hA, goodCB_of good7, l7⟩, fun H11 v11 s11 h11 => ?_⟩
        rw [quar7] at h11
        refine ⟨seven_sz, fun t12 m12 => upd_gen m12 fun H12 s12 e12 => ?_⟩
        refine ⟨_, dN [0, 1, 2, 3, 4, 5, 6], Dp.sm s12 _ h11, .tup (SqT.of e12) (dints K _ [0, 1, 2, 3, 4, 5, 6]), shT _, shT _, ?_⟩
        have s1012 := s11.trans s12
        refine ⟨_, rfl, iteT ?_⟩
        refine ⟨_, rfl, _, rfl, ((1 : Nat) : Int), rfl, noPart (sl_suf (k := 1) ((Tk.of s1012).sqT h10) fun H13 p13 s13 h13 => ?_)⟩
        have hA13 : DpAll K H13 ((cx ++ [V.ref t8]).drop 1) ((C7.drop 1).map dClaim) := by
          rw [List.map_drop]
          exact (DpAll.sm (s1012.trans s13) _ hA).drop 1
        refine ⟨a, p13, 4, C7.drop 1, rfl, hN10.same (s1012.trans s13), ⟨.tup h13 hA13, fun c hc => goodCB_of good7 c (List.mem_of_mem_drop hc), by rw [List.length_drop]; omega⟩, fun H14 v14 s14 h14 => ?_⟩
        rw [quar6] at h14
        cases h14
        exact ⟨rfl, q H14 (((s1.trans s2).trans s3).trans (s4.trans (s410.trans ((s1012.trans s13).trans s14))))⟩
end
end XB
set_option Elab.async false
set_option linter.all false
set_option maxRecDepth 100000
set_option maxHeartbeats 8000000
namespace XB
open PySem PySem.Spec PyProof.Rows L2
theorem flat_claim (c : Clm) : flatD (dClaim c) = true := by
  show (flatD (dSteps c.1) && (flatD (dSteps c.2.1) && (true && true))) = true
  rw [flat_steps, flat_steps]
  rfl
theorem flat_claims (cs : List Clm) : flatAll (cs.map dClaim) = true := flatAll_of fun d hd => by
  obtain ⟨y, _, rfl⟩ := List.mem_map.mp hd
  exact flat_claim y
theorem flat_flds (fs : List Fld) : flatAll (fs.map dField) = true := flatAll_of fun d hd => by
  obtain ⟨y, _, rfl⟩ := List.mem_map.mp hd
  exact flat_field y
theorem NmA.tk {K : PySem.W.Frag} {H H' : Hp} {a : Addr} {n : Nat} (h : NmA K H a n) (s : Tk H H') : NmA K H' a n := ⟨s.sqT h.1, h.2⟩
section
variable {P : Program} {w : World} {K : PySem.W.Frag} {mg : Str → Option Value} {base : Heap}
theorem fg_law (T : Tx K mg) {fl : Addr} {fd : FuncData} (FL : Fun K "law" "law" s_law fl fd) : FnG P w K mg base CX0 11 fl fd ["script"] (spLaw K) := by
  refine fg0 FL sc_law (fun vs H Q E h => sp_law_len h) (fun fa cdv A outer st H vs Q E hgu hr h => ?_)
  · obtain ⟨a, ns, rfl, hS, hl, q⟩ := h
    have nd := sc_law.nd
    have hu : (A.deeper (envOfC "law" (defScope s_law) st.heap.objs.size fa cdv)).units + 70 < cLine := by
      have := hr.un
      omega
    have hu64 : (A.deeper (envOfC "law" (defScope s_law) st.heap.objs.size fa cdv)).units + 64 < cLine := by omega
    refine ⟨_, (pss_cons (ps_set (i := 1) nd rfl (.inr rfl) (pe_k (c_begun T) hr (by decide) (by rfl) (pa_cons (pv 0) pa_nil)))
    (pss_cons (ps_for PassesOwn.never rfl (pi_range1 (by rfl) T.b_range (pa_cons (pe_op op_add pe_int (pe_callB (call_min2 rfl) (by rfl) T.b_min (by decide +kernel) (pa_cons pe_int (pa_cons (pe_lenS (by rfl) T.b_len (pv 0)) pa_nil)))) pa_nil)) (pg_name (i := 2) nd rfl (.inl rfl))
    (pss_cons (ps_set (i := 3) nd rfl (.inl rfl) (pe_ix (ixk_list (K := K) rfl) (pe_lst (pa_cons (pe_tup (pa_cons pe_str (pa_cons pe_str pa_nil))) (pa_cons (pe_tup (pa_cons pe_str (pa_cons pe_str (pa_cons pe_str pa_nil)))) (pa_cons (pe_tup (pa_cons pe_str (pa_cons pe_str (pa_cons pe_str pa_nil)))) (pa_cons (pe_tup (pa_cons pe_str (pa_cons pe_str (pa_cons pe_str (pa_cons pe_str pa_nil))))) pa_nil))))) (pe_k (c_draw T) hr (by decide) (by rfl) (pa_cons (pv 1) (pa_cons pe_int pa_nil))) (fun _ _ => rfl)))
    (pss_cons (ps_set (i := 4) nd rfl (.inr rfl) (pe_ix (ixk_list (K := K) rfl) (pe_k (c__law_fields T) hr (by decide) (by rfl) (pa_cons (pv 3) pa_nil)) (pe_k (c_draw T) hr (by decide) (by rfl) (pa_cons (pv 1) (pa_cons (pe_lenS (by rfl) T.b_len (pe_k (c__law_fields T) hr (by decide) (by rfl) (pa_cons (pv 3) pa_nil))) pa_nil))) (fun _ _ => rfl)))
    (pss_cons (ps_set (i := 5) nd rfl (.inl rfl) (pe_tupleOf (by rfl) T.b_tuple (pe_lc (own := [("k", 6)]) (g := (gName 6)) (tt := tYes) (by rfl) nd (pi_range1 (by rfl) T.b_range (pa_cons (pe_k (c_draw T) hr (by decide) (by rfl) (pa_cons (pv 1) (pa_cons pe_int pa_nil))) pa_nil)) (blkOk_by (own := [("k", 6)]) (N := ["script", "m", "turn", "names", "field", "claims", "k"]) (sc := defScope s_law) (by decide +kernel)) (fun _ _ _ _ _ => (pg_name (i := 6) nd rfl (by first | exact Or.inl rfl | exact Or.inr rfl))) (fun _ _ _ _ _ => pts_nil) (fun _ _ _ _ _ => (pe_k (c__law_claim T) hr (by decide) (by rfl) (pa_cons (pv 1) (pa_cons (pv 4) pa_nil)))))))
    (pss_cons (ps_if (PW.pt (pw_or (pt_not (pt_val (pe_g (g__law_right T) hgu hr (by decide) (by rfl) (pa_cons (pv 3) (pa_cons (pv 5) pa_nil))))) (pw_or1 (pt_not (pt_val (pe_g (g__law_right T) hgu hr (by decide) (by rfl) (pa_cons (pv 3) (pa_cons (pe_tup pa_nil) pa_nil)))))))) pss_never pss_nil)
    (pss_one (ps_if (PW.pt (pw_and (pt_cmpR (op_neD hu64) (pv 5) (pe_tup pa_nil) (nomark _)) (pw_and1 (pt_not (pt_val (pe_k (c__law_rises T) hr (by decide) (by rfl) (pa_cons (pv 3) (pa_cons (pe_ix (ixk_tup (K := K) rfl) (pv 5) pe_int (fun _ _ => rfl)) pa_nil)))))))) pss_never pss_nil)))))))
    (pss_cons (ps_if (pt_not (pt_val (pe_k0 (c__law_seven_right T) hr (by decide) (by rfl)))) pss_never pss_nil)
    (pss_cons (ps_set (i := 5) nd rfl (.inl rfl) (pe_tup (pa_cons (pe_tup (pa_cons (pe_tup (pa_cons (pe_tup (pa_cons pe_str (pa_cons pe_int pa_nil))) (pa_cons (pe_tup (pa_cons pe_str (pa_cons pe_int pa_nil))) pa_nil))) (pa_cons (pe_tup (pa_cons (pe_tup (pa_cons pe_str (pa_cons pe_int pa_nil))) (pa_cons (pe_tup (pa_cons pe_str (pa_cons pe_int pa_nil))) pa_nil))) (pa_cons pe_bl pa_nil)))) pa_nil)))
    (pss_cons (ps_if (pt_cmpR (op_neD hu64) (pe_k (c_told_pairs T) hr (by decide) (by rfl) (pa_cons (pe_tup (pa_cons pe_str (pa_cons pe_str pa_nil))) (pa_cons (pv 5) pa_nil))) (pe_tup (pa_cons (pe_tup (pa_cons pe_str (pa_cons pe_str (pa_cons pe_str pa_nil)))) pa_nil)) (nomark _)) pss_never pss_nil)
    (pss_one (ps_ret (pe_cmpR (op_eqD hu64) (pe_k (c_quarrel T) hr (by decide) (by rfl) (pa_cons (pe_tup (pa_cons pe_str (pa_cons pe_str pa_nil))) (pa_cons (pe_op (op_catAk (K := K) rfl) (pv 5) (pe_tup (pa_cons (pe_tup (pa_cons (pe_tup (pa_cons (pe_tup (pa_cons pe_str (pa_cons pe_int pa_nil))) (pa_cons (pe_tup (pa_cons pe_str (pa_cons pe_int pa_nil))) pa_nil))) (pa_cons (pe_tup (pa_cons (pe_tup (pa_cons pe_str (pa_cons pe_int pa_nil))) (pa_cons (pe_tup (pa_cons pe_str (pa_cons pe_int pa_nil))) pa_nil))) (pa_cons pe_bl pa_nil)))) pa_nil))) pa_nil))) (pe_tup (pa_cons pe_int (pa_cons pe_int pa_nil))) (nomark _))))))))), ?_⟩
    refine ⟨_, rfl, a, ns, rfl, hS, hl, fun H1 m c g s1 _ _ _ R1 => ?_⟩
    have lns : (ns.map V.int).length = ns.length := List.length_map ..
    refine ⟨_, rfl, a, _, rfl, .inl (s1.seq hS), 4, _, rfl, 2, _, rfl, rfl, _, rfl, by split <;> omega, by split <;> omega, ?_⟩
    have hcnt : (2 + (if ((ns.map V.int).length : Int) < 4 then ((ns.map V.int).length : Int) else 4)).toNat ≤ 6 := by split <;> omega
    refine for_range (lo := 0) (n := _) (fun i σ H2 => ∃ (y2 y3 y4 y5 : Option V) (s2 : Int), σ = [some (.ref a), some (.ref m), y2, y3, y4, y5, none] ∧ Dr H2 m c g s2 ∧ s2 ≤ 98 * (i : Int))
      ⟨_, _, _, _, 0, rfl, R1, by omega⟩ (fun i σ H2 hi ⟨y2, y3, y4, y5, s2, eσ, R2, hs2⟩ => ?_) (fun σ H2 ⟨y2, y3, y4, y5, s2, eσ, R2, hs2⟩ => ?_)
    · subst eσ
      -- the names
      refine ⟨two_sz, fun p1 m1 => upd_gen m1 fun J1 j1 e1 => ⟨three_sz, fun p2 m2 => upd_gen m2 fun J2 j2 e2 => ⟨three_sz, fun p3 m3 => upd_gen m3 fun J3 j3 e3 => ⟨four_sz, fun p4 m4 => upd_gen m4 fun J4 j4 e4 => ⟨four_sz, fun D hD => upd_gen hD fun J5 j5 e5 => ?_⟩⟩⟩⟩⟩
      have j45 := j4.trans j5
      have j35 := j3.trans j45
      have j25 := j2.trans j35
      have nD := (R2.same ((j1.trans j2).trans (j3.trans j4))).nm hD
      have R3 := R2.same (j1.trans j25)
      refine ⟨_, rfl, m, c, g, s2, 4, rfl, R3, by omega, by omega, by omega, fun rr H4 r0 r1 R4 k4 => ?_⟩
      have pick : ∃ (ia : Nat) (o : Addr) (n : Nat), rr = (ia : Int) ∧ [V.ref p1, .ref p2, .ref p3, .ref p4][ia]? = some (.ref o) ∧ NmA K J5 o n := by
        rcases (show rr = 0 ∨ rr = 1 ∨ rr = 2 ∨ rr = 3 by omega) with h | h | h | h
        · exact ⟨0, p1, 2, h, rfl, (Tk.of j25).sqT (SqT.of e1), by decide, by decide⟩
        · exact ⟨1, p2, 3, h, rfl, (Tk.of j35).sqT (SqT.of e2), by decide, by decide⟩
        · exact ⟨2, p3, 3, h, rfl, (Tk.of j45).sqT (SqT.of e3), by decide, by decide⟩
        · exact ⟨3, p4, 4, h, rfl, (Tk.of j5).sqT (SqT.of e4), by decide, by decide⟩
      obtain ⟨ia, o, n, err, hpk, hN⟩ := pick
      refine ⟨D, _, rr, .ref o, rfl, rfl, SqL.of (k4 _ _ nD.1 nD.2.2 e5), at_of (j := ia) err hpk, ?_⟩
      have hN4 := hN.tk (R3.tk k4)
      have n2 := hN.2.1
      have n4 := hN.2.2
      have l64 := fa_64 n2 n4
      -- the field
      refine ⟨_, rfl, o, n, rfl, hN4, fun H5 r5 s5 nr5 ⟨fs, eF, hF⟩ => ?_⟩
      have lfs := hF.len
      rw [List.length_map] at lfs
      have nr := R4.nm nr5
      refine ⟨_, rfl, _, rfl, o, n, rfl, hN4.same s5, fun H6 r6 s6 nr6 ⟨fs6, eF6, hF6⟩ => ?_⟩
      have lfs6 := hF6.len
      rw [List.length_map] at lfs6
      have R6 := R4.same (s5.trans s6)
      have f0 : 0 < (FA n).length := List.length_pos_of_mem (fa_mem.mpr (List.nil_sublist (PM n n)))
      refine ⟨r6, _, rfl, .inl (SqL.of eF6), m, c, g, s2 + 1, _, rfl, R6, by omega, by omega, by omega, fun r7 H7 q0 q1 R7 k7 => ?_⟩
      obtain ⟨j7, ej7⟩ := Int.eq_ofNat_of_zero_le q0
      have hj7 : j7 < fs.length := by omega
      have hat : fs[j7]? = some fs[j7] := List.getElem?_eq_getElem hj7
      obtain ⟨dd, g1, pf⟩ := hF.get hat
      rw [List.getElem?_map] at g1
      obtain ⟨F, kF, rfl⟩ := Option.map_eq_some_iff.mp g1
      have mF := List.mem_of_getElem? kF
      obtain ⟨ok, en⟩ := fa_ok (by omega) (by omega) F mF
      have t57 : Tk H5 H7 := (Tk.of s6).trans (R6.tk k7)
      have hF7 := Dp.tk t57 _ (flat_field F) pf
      obtain ⟨f, os, ef, _⟩ := tup_of hF7
      rw [ef] at hat hF7
      refine ⟨r5, _, r7, .ref f, rfl, rfl, SqL.of (k7 _ _ nr.1 nr.2.2 (s6 _ _ eF)), at_of (j := j7) ej7 hat, ?_⟩
      have hN7 := hN4.tk ((Tk.of s5).trans t57)
      -- the claims
      refine ⟨_, rfl, m, c, g, s2 + 1 + 1, 6, rfl, R7, by omega, by omega, by omega, fun r8 H8 b0 b1 R8 k8 => ⟨r8, rfl, by omega, by omega, fun E hE => ?_⟩⟩
      have nE := R8.nm hE
      have t8 := R7.tk k8
      have hN8 := hN7.tk t8
      have hF8 := Dp.tk t8 _ (flat_field F) hF7
      refine lc_range (lo := 0) (n := _) (fun j H' => ∃ (rs : List V) (ls : List Clm) (s' : Int), H' E = some (.lst rs) ∧ DpAll K H' rs (ls.map dClaim) ∧ (∀ l ∈ ls, GoodC n l) ∧ ls.length = j ∧ Dr H' m c g s' ∧ s' ≤ s2 + 3 + 19 * (j : Int) ∧ Tk H8 H')
        ⟨[], [], s2 + 1 + 1 + 1, upd_same, .nil, (fun _ h => nomatch h), rfl, R8.same (same_upd hE), by omega, Tk.of (same_upd hE)⟩ (fun j H9 hj ⟨rs, ls, s9, eE, hR, hg, hlj, R9, hs9, t9⟩ => ?_) (fun H9 ⟨rs, ls, s9, eE, hR, hg, hlj, R9, hs9, t9⟩ => ?_)
      · have lrs := hR.len
        rw [List.length_map] at lrs
        refine ⟨rfl, yes_ ⟨_, rfl, _, rfl, m, c, g, f, s9, n, F, rfl, R9, Dp.tk t9 _ (flat_field F) hF8, ok, en, by omega, fun H10 r d s10 R10 hs10 k10 hd gd => ?_⟩⟩
        have eE10 := k10 _ _ nE.1 nE.2.2 eE
        have t10 := R9.tk k10
        have tP : Tk H10 (upd H10 E (.lst (rs ++ [.ref r]))) := Tk.refl.lst eE10
        refine ⟨rs, eE10, small1000 (by omega), rs ++ [.ref r], ls ++ [d], s10, upd_same, ?_, fun z hz => ?_, by rw [List.length_append, hlj]; rfl, R10.put nE, by omega, (t9.trans t10).trans tP⟩
        · rw [List.map_append]
          exact (DpAll.tk (t10.trans tP) _ (flat_claims ls) hR).app (.cons (Dp.tk tP _ (flat_claim d) hd) .nil)
        · rcases List.mem_append.mp hz with h | h
          · exact hg z h
          · rw [List.mem_singleton.mp h]
            exact gd
      · have lls : ls.length ≤ 5 := by omega
        refine .inl ⟨E, rs, rfl, SqL.of eE, fun p nP => upd_gen nP fun H10 s10 e10 => ?_⟩
        have hC : ClA K H10 p n ls := ⟨.tup (SqT.of e10) (DpAll.sm s10 _ hR), hg, by omega⟩
        have hN10 := (hN8.tk t9).same s10
        refine ⟨_, rfl, _, rfl, o, p, n, ls, rfl, hN10, hC, by omega, fun H11 s11 => ?_⟩
        refine ⟨_, rfl, iteF ?_⟩
        refine ⟨_, rfl, Nat.zero_le _, fun z nz => upd_gen nz fun H12 s12 e12 => ?_⟩
        have s1012 := s11.trans s12
        refine ⟨o, z, n, [], rfl, hN10.same s1012, ⟨.tup (SqT.of e12) .nil, (fun _ h => nomatch h), by decide⟩, by decide, fun H13 s13 => ⟨_, rfl, iteF ?_⟩⟩
        have s1013 := s1012.trans s13
        have R13 := R9.same (s10.trans s1013)
        refine ⟨_, rfl, Nat.zero_le _, fun z2 nz2 => upd_gen nz2 fun H14 s14 e14 => ?_⟩
        have s1014 := s1013.trans s14
        refine ⟨_, .tuple [], (hC.same s1014).1, .tup (SqT.of e14) .nil, sh_claims n2 n4 hg, rfl, ?_⟩
        rw [eqv_claims]
        cases ls with
        | nil => exact ⟨_, rfl, iteF ⟨_, _, _, _, s9, rfl, R13.same s14, by omega⟩⟩
        | cons d ls =>
          obtain ⟨_, ys, ey, hyS, hyV⟩ := tup_of (hC.same s1014).1
          cases ey
          cases hyV with
          | cons h1 hyV =>
            refine ⟨_, rfl, iteT ⟨_, rfl, _, rfl, ix0 hyS ⟨o, _, n, d, rfl, hN10.same s1014, h1, hg d List.mem_cons_self, fun H15 s15 => ⟨_, rfl, iteF ⟨_, _, _, _, s9, rfl, R13.same (s14.trans s15), by omega⟩⟩⟩⟩⟩
    · subst eσ
      refine ⟨rfl, fun H3 s3 => ⟨_, rfl, iteF ?_⟩⟩
      refine ⟨two_sz, fun t1 m1 => upd_gen m1 fun J1 j1 f1 => ⟨two_sz, fun t2 m2 => upd_gen m2 fun J2 j2 f2 => ⟨two_sz, fun t3 m3 => upd_gen m3 fun J3 j3 f3 => ?_⟩⟩⟩
      refine ⟨two_sz, fun t4 m4 => upd_gen m4 fun J4 j4 f4 => ⟨two_sz, fun t5 m5 => upd_gen m5 fun J5 j5 f5 => ⟨two_sz, fun t6 m6 => upd_gen m6 fun J6 j6 f6 => ?_⟩⟩⟩
      refine ⟨three_sz, fun t7 m7 => upd_gen m7 fun J7 j7 f7 => ⟨one_sz, fun t8 m8 => upd_gen m8 fun J8 j8 f8 => ?_⟩⟩
      have j78 := j7.trans j8
      have j68 := j6.trans j78
      have j58 := j5.trans j68
      have j48 := j4.trans j58
      have j38 := j3.trans j48
      have j28 := j2.trans j38
      have hd : Dp K J8 (.ref t7) (dClaim ([("a", 1), ("b", 1)], [("b", 1), ("a", 1)], true)) := .tup ((Tk.of j8).sqT (SqT.of f7)) (.cons (.tup ((Tk.of j48).sqT (SqT.of f3)) (.cons (dstep_of ("a", 1) f1 j28) (.cons (dstep_of ("b", 1) f2 j38) .nil))) (.cons (.tup ((Tk.of j78).sqT (SqT.of f6)) (.cons (dstep_of ("b", 1) f4 j58) (.cons (dstep_of ("a", 1) f5 j68) .nil))) (.cons (.bl true) .nil)))
      have hC1 : ClA K J8 t8 2 C1 := ⟨.tup (SqT.of f8) (.cons hd .nil), goodCB_of good1, by decide⟩
      refine ⟨two_sz, fun a1 k1 => upd_gen k1 fun L1 l1 g1 => ⟨_, rfl, ?_⟩⟩
      refine ⟨a1, t8, 2, C1, rfl, ⟨SqT.of g1, by decide, by decide⟩, hC1.same l1, fun L2 v l2 hv => ?_⟩
      rw [told1] at hv
      refine ⟨three_sz, fun a3 k3 => upd_gen k3 fun L3 l3 g3 => ⟨one_sz, fun a4 k4 => upd_gen k4 fun L4 l4 g4 => ?_⟩⟩
      refine ⟨_, .tuple [.tuple [.str "a", .str "b", .str "apart"]], Dp.sm (l3.trans l4) _ hv, .tup (SqT.of g4) (.cons (.tup ((Tk.of l4).sqT (SqT.of g3)) (.cons (.str _) (.cons (.str _) (.cons (.str _) .nil)))) .nil), by decide +kernel, by decide +kernel, ?_⟩
      refine ⟨_, rfl, iteF ?_⟩
      have l14 := (l1.trans l2).trans (l3.trans l4)
      refine ⟨two_sz, fun a5 k5 => upd_gen k5 fun L5 l5 g5 => ⟨_, rfl, ?_⟩⟩
      refine ⟨two_sz, fun t1 m1 => upd_gen m1 fun J1 j1 f1 => ⟨two_sz, fun t2 m2 => upd_gen m2 fun J2 j2 f2 => ⟨two_sz, fun t3 m3 => upd_gen m3 fun J3 j3 f3 => ?_⟩⟩⟩
      refine ⟨two_sz, fun t4 m4 => upd_gen m4 fun J4 j4 f4 => ⟨two_sz, fun t5 m5 => upd_gen m5 fun J5 j5 f5 => ⟨two_sz, fun t6 m6 => upd_gen m6 fun J6 j6 f6 => ?_⟩⟩⟩
      refine ⟨three_sz, fun t7 m7 => upd_gen m7 fun J7 j7 f7 => ⟨one_sz, fun u8 m8 => upd_gen m8 fun U8 j8 f8 => ?_⟩⟩
      have i78 := j7.trans j8
      have i68 := j6.trans i78
      have i58 := j5.trans i68
      have i48 := j4.trans i58
      have i38 := j3.trans i48
      have i28 := j2.trans i38
      have i18 := j1.trans i28
      have hd2 : Dp K U8 (.ref t7) (dClaim ([("a", 2), ("b", 3)], [("b", 3), ("a", 2)], false)) := .tup ((Tk.of j8).sqT (SqT.of f7)) (.cons (.tup ((Tk.of i48).sqT (SqT.of f3)) (.cons (dstep_of ("a", 2) f1 i28) (.cons (dstep_of ("b", 3) f2 i38) .nil))) (.cons (.tup ((Tk.of i78).sqT (SqT.of f6)) (.cons (dstep_of ("b", 3) f4 i58) (.cons (dstep_of ("a", 2) f5 i68) .nil))) (.cons (.bl false) .nil)))
      have hC8 := hC1.same (l14.trans (l5.trans i18))
      obtain ⟨_, cx, ec, hcS, hcV⟩ := tup_of hC8.1
      cases ec
      have lcx := hcV.len
      rw [List.length_map] at lcx
      refine catA hcS (SqT.of f8) (by rw [lcx]; show 1 + 1 ≤ sizeLine; decide) fun U9 p9 j9 h9 => ?_
      refine ⟨a5, p9, 2, C2, rfl, ⟨(Tk.of (i18.trans j9)).sqT (SqT.of g5), by decide, by decide⟩, ⟨.tup h9 ((DpAll.sm j9 _ hcV).app (.cons (Dp.sm j9 _ hd2) .nil)), goodCB_of good2, by decide⟩, fun U10 v2 j10 hv2 => ?_⟩
      rw [quar2] at hv2
      refine ⟨two_sz, fun t12 m12 => upd_gen m12 fun U12 s12 e12 => ?_⟩
      refine ⟨_, dN [0, 1], Dp.sm s12 _ hv2, .tup (SqT.of e12) (dints K _ [0, 1]), shT _, shT _, ?_⟩
      exact q _
end
end XB
set_option Elab.async false
set_option linter.all false
set_option maxRecDepth 100000
set_option maxHeartbeats 4000000
/-! the head of a law whose promise holds where no repr runs around -/
namespace XB
open PySem PySem.Spec PyProof.Rows L2
section
variable {P : Program} {w : World} {K : PySem.W.Frag} {mg mb : Str → Option Value} {k : Nat} {fa a : Addr} {fd : FuncData} {x : Str} {sp : Sp} {st : Shared} {vs : List Value} {ns : List Int}
def scriptO (vs : List Value) : Obj := { cls := .type "list", data := .seq vs.toArray }
theorem end_g (kin : K.In st.heap) (gl : st.heap.Ns mainGlobals mg) (bl : st.heap.Ns builtinsNs mb) (bb : ∀ y : Str, y ≠ "__name__" → mb y = bootBuiltins y) (nl : st.heap.NoLimit) (ge : st.gens = #[])
    (at_ : st.heap.get? a = some (scriptO vs)) (whl : IntsAre vs ns) (short : ns.length ≤ sizeLine) (room : Room k callerA)
    (prom : ∀ base : Heap, K.In base → base.Ns mainGlobals mg → FnG P w K mg base CX0 k fa fd [x] sp) (bnd : ∀ (s : Shared) (u : Value), BindsTo s fd ⟨[u], []⟩ [(x, u)])
    (holds : ∀ H : Hp, SqL K H a (ns.map V.int) → sp [.ref a] H (fun v _ => v = .bl true) fun _ _ _ => False) :
    codeAny (model P w) callerA (.call (.ref fa) ⟨[.ref a], []⟩) (fun r t => r = .ok (.ret (.bool true)) ∧ OldK st.heap t.heap ∧ t.os = st.os ∧ AllBare t.gens) st := by
  have hv := vals_ints whl
  obtain ⟨G, hG⟩ : ∃ G : Hp, ∀ b, G b = if b = a ∧ (K.lookup a).isNone = true then some (.frz (scriptO vs) (.lst (ns.map V.int))) else none := ⟨fun b => if b = a ∧ (K.lookup a).isNone = true then _ else none, fun _ => rfl⟩
  have only : ∀ b u, G b = some u → b = a ∧ K.lookup a = none ∧ u = .frz (scriptO vs) (.lst (ns.map V.int)) := fun b u q => by
    rw [hG] at q
    by_cases c : b = a ∧ (K.lookup a).isNone = true
    · rw [if_pos c] at q
      exact ⟨c.1, by simpa using c.2, (Option.some.inj q).symm⟩
    · rw [if_neg c] at q
      cases q
  have row : SqL K G a (ns.map V.int) := by
    cases q : K.lookup a with
    | none => exact .inl (.inr ⟨scriptO vs, by rw [hG, if_pos ⟨rfl, by rw [q]; rfl⟩]⟩)
    | some o =>
      have q2 := kin a o q
      rw [at_] at q2
      have q3 : o = scriptO vs := (Option.some.inj q2).symm
      subst q3
      exact .inr ⟨_, vs.toArray, _, q, rfl, rfl, rfl, by rw [List.size_toArray, whl.length]; exact short, by simpa using hv⟩
  have sound : HOk P w G st.heap := fun b u q => by
    obtain ⟨rfl, _, rfl⟩ := only b u q
    exact ⟨at_, by rw [List.length_map]; exact short, vs, 0, hv, at_⟩
  have stays : ∀ {b : Addr} {o : Obj}, st.heap.get? b = some o → (b = a → o ≠ scriptO vs ∨ ∃ u, K.lookup a = some u) → (hidT st.heap G).get? b = some o := fun {b o} q c => by
    refine hidT_get q ?_
    cases g : G b with
    | none => rfl
    | some u =>
      obtain ⟨e1, e2, _⟩ := only b u g
      rcases c e1 with z | ⟨u', z⟩
      · rw [e1, at_] at q
        exact absurd (Option.some.inj q).symm z
      · rw [e2] at z
        cases z
  have names : ∀ {b : Addr} {f : Str → Option Value}, st.heap.Ns b f → (hidT st.heap G).Ns b f := fun {b f} h => by
    obtain ⟨o, es, ep, q, d, r⟩ := h
    refine ⟨o, es, ep, stays q fun _ => .inl fun z => ?_, d, r⟩
    rw [z] at d
    have d : Data.seq vs.toArray _ = Data.dict es ep := d
    cases d
  have kin' : K.In (hidT st.heap G) := fun b o q => stays (kin b o q) fun e => .inr ⟨o, by rw [← e]; exact q⟩
  have md : Mod K mg (hidT st.heap G) := ⟨kin', names gl, ⟨mb, names bl, bb⟩, by obtain ⟨mc, n1, n2⟩ := nl; exact ⟨mc, names n1, n2⟩⟩
  have none_in : ∀ {b : Addr}, b ∉ ([] : List Addr) := fun {b} z => by cases z
  have e0 : Env0 P w K mg (hidT st.heap G) callerA [] st G := { frames := rfl, mod := md, bs := fun _ _ q => of_hidT q, bsz := Nat.le_of_eq (hidT_size _ _), funs := trivial, frf := fun b z => absurd (show b ∈ ([] : List Addr) from z) none_in, hok := sound, bare := .of_eq ge }
  have ran := (prom _ kin' (names gl)).goes (A := callerA) (outer := []) (Q := fun v _ => v = .bl true) (E := fun _ _ _ => False) (args := ⟨[.ref a], []⟩) (us := [.ref a]) (vs := [.ref a]) rfl room e0 (bnd st (.ref a)) (.cons (show Value.ref a = Value.ref a from rfl) .nil) (holds G row)
  refine codeAny_mono ran ?_
  intro r t q
  match r, q with
  | .ok (.ret u), q =>
    obtain ⟨v, G', e1, e2, un, ok', rv, ev⟩ := q
    have ev : v = .bl true := ev
    subst ev
    have eu : u = Value.bool true := rv
    rw [eu]
    refine ⟨rfl, OldK.of_keep fun b o hb => ?_, e1, e2⟩
    cases g : G b with
    | none => exact un.keep b o hb g (fun z => absurd (show b ∈ ([] : List Addr) from z) none_in) none_in
    | some y =>
      obtain ⟨_, _, rfl⟩ := only b y g
      have c1 := (sound b _ g).1
      have c2 := (ok' b _ (un.frzs b _ _ g)).1
      rw [hb] at c1
      rw [c2, ← c1]
  | .ok .next, q => exact False.elim q
  | .ok .brk, q => exact False.elim q
  | .ok .cont, q => exact False.elim q
  | .error _, q => exact False.elim q
theorem walk_g {l : PySem.W.OpenLaw} {n k : Nat} {q : Program} {loose : List Str} {XP : (Str → Option Value) → Heap → Prop} {YP : World → Heap → Prop} {d : DefRec} {K : Params → PySem.W.Frag} {sp : PySem.W.Frag → Sp} {x : Str}
    (most : l.most = some n) (fits : n ≤ sizeLine) (plain : d.params.defaults = []) (room : Room k callerA) (inn : ∀ (w : World) (h : Heap), YP w h → (K w.params).In h)
    (prom : ∀ (w : World) (mg : Str → Option Value) (fa : Addr) (h : Heap), (K w.params).In h → h.Ns mainGlobals mg → mg d.name = some (.ref fa) →
      ∃ fd : FuncData, (∀ (s : Shared) (u : Value), BindsTo s fd ⟨[u], []⟩ [(x, u)]) ∧ ∀ base : Heap, (K w.params).In base → base.Ns mainGlobals mg → FnG l.prog w (K w.params) mg base CX0 k fa fd [x] (sp (K w.params)))
    (holds : ∀ (K : PySem.W.Frag) (H : Hp) (a : Addr) (ns : List Int), ns.length ≤ n → SqL K H a (ns.map V.int) → sp K [.ref a] H (fun v _ => v = .bl true) fun _ _ _ => False) : PySem.W.WalkO q loose XP YP l.row.toRowW d [] (fun f vs => PySem.call f vs) := by
  refine Att.attach_call most plain fun w s0 st mg mb fa o pm cd doc a vs ns gg y ho hd hcd hmg hobj hints hlen hgen => ?_
  have kin := inn w _ y
  obtain ⟨fd, b, pr⟩ := prom w mg fa _ kin gg.T.g hmg
  exact end_g kin gg.T.g gg.T.b gg.T.builtins gg.T.nolimit hgen hobj hints (Nat.le_trans hlen fits) room pr b fun H s => holds _ H a ns hlen s
/-- the same, with what the head tells of the globals beside the written part -/
theorem walk_gX {TX : (Str → Option Value) → Prop} {l : PySem.W.OpenLaw} {n k : Nat} {q : Program} {loose : List Str} {XP : (Str → Option Value) → Heap → Prop} {YP : World → Heap → Prop} {d : DefRec} {K : Params → PySem.W.Frag} {sp : PySem.W.Frag → Sp} {x : Str}
    (most : l.most = some n) (fits : n ≤ sizeLine) (plain : d.params.defaults = []) (room : Room k callerA) (told : ∀ (mg : Str → Option Value) (h : Heap), XP mg h → TX mg) (inn : ∀ (w : World) (h : Heap), YP w h → (K w.params).In h)
    (prom : ∀ (w : World) (mg : Str → Option Value) (fa : Addr) (h : Heap), (K w.params).In h → h.Ns mainGlobals mg → mg d.name = some (.ref fa) → TX mg →
      ∃ fd : FuncData, (∀ (s : Shared) (u : Value), BindsTo s fd ⟨[u], []⟩ [(x, u)]) ∧ ∀ base : Heap, (K w.params).In base → base.Ns mainGlobals mg → FnG l.prog w (K w.params) mg base CX0 k fa fd [x] (sp (K w.params)))
    (holds : ∀ (K : PySem.W.Frag) (H : Hp) (a : Addr) (ns : List Int), ns.length ≤ n → SqL K H a (ns.map V.int) → sp K [.ref a] H (fun v _ => v = .bl true) fun _ _ _ => False) : PySem.W.WalkO q loose XP YP l.row.toRowW d [] (fun f vs => PySem.call f vs) := by
  refine Att.attach_call most plain fun w s0 st mg mb fa o pm cd doc a vs ns gg y ho hd hcd hmg hobj hints hlen hgen => ?_
  have kin := inn w _ y
  obtain ⟨fd, b, pr⟩ := prom w mg fa _ kin gg.T.g hmg (told _ _ gg.X)
  exact end_g kin gg.T.g gg.T.b gg.T.builtins gg.T.nolimit hgen hobj hints (Nat.le_trans hlen fits) room pr b fun H s => holds _ H a ns hlen s
end
end XB
set_option Elab.async false
set_option linter.all false
set_option maxRecDepth 100000
namespace XB
open PySem PySem.Spec PyProof.Rows L2
theorem dn_mk {K : PySem.W.Frag} {h : Heap} {mg : Str → Option Value} {x : Str} {st : Stmt} {f : Addr} {oc : Value} {od an : Option Addr} {osl : Array (Option Value)} {kV doc pm cdv ct : Value} (X : K.In h) (G : h.Ns mainGlobals mg)
    (a : PySem.W.nsIn K mainGlobals x = some (some (.ref f))) (l : K.lookup f = some ⟨oc, od, .func (PySem.W.fnOf x x (defArgs st) (defBody st) (defScope st) .none kV doc pm an cdv ct), osl⟩)
    (c : PySem.W.codeIn K cdv x = true) (k : PySem.W.keepIn K (.ref f) = true) : Dn K mg x st := ⟨f, _, fun_mk l c k, PySem.W.mg_of X G a⟩
theorem int_mk {K : PySem.W.Frag} {h : Heap} {mg : Str → Option Value} {x : Str} {z n : Int} {t : Tok} (X : K.In h) (G : h.Ns mainGlobals mg) (a : PySem.W.nsIn K mainGlobals x = some (some (.int z t))) (e : z = n) : ∃ t, mg x = some (.int n t) :=
  ⟨t, by rw [← e]; exact PySem.W.mg_of X G a⟩
theorem loose_int {p : Program} {n : Str} {z : Int} {mg : Str → Option Value} {h : Heap} (x : PySem.W.XL p [(n, PySem.W.WData.int z)] mg h) : ∃ t, mg n = some (.int z t) := by
  obtain ⟨v, a, b⟩ := x.2.val _ List.mem_cons_self
  cases b
  exact ⟨_, a⟩
theorem law_mk {P : Program} {w : World} {K : PySem.W.Frag} {h : Heap} {mg : Str → Option Value} {fa f : Addr} {oc : Value} {od an : Option Addr} {osl : Array (Option Value)} {kV doc pm cdv ct : Value} (X : K.In h) (G : h.Ns mainGlobals mg) (hfa : mg "law" = some (.ref fa)) (T : Tx K mg)
    (a : PySem.W.nsIn K mainGlobals "law" = some (some (.ref f))) (l : K.lookup f = some ⟨oc, od, .func (PySem.W.fnOf "law" "law" (defArgs s_law) (defBody s_law) (defScope s_law) .none kV doc pm an cdv ct), osl⟩)
    (c : PySem.W.codeIn K cdv "law" = true) (k : PySem.W.keepIn K (.ref f) = true) :
    ∃ fd : FuncData, (∀ (s : Shared) (v : Value), BindsTo s fd ⟨[v], []⟩ [("script", v)]) ∧ ∀ base : Heap, K.In base → base.Ns mainGlobals mg → FnG P w K mg base CX0 11 fa fd ["script"] (spLaw K) := by
  have e := hfa.symm.trans (PySem.W.mg_of X G a)
  cases e
  exact ⟨_, fun s v => .of_eq rfl, fun base _ _ => fg_law T (fun_mk (st := s_law) l c k)⟩
end XB
open PySem PySem.W PyProof.Rows in
set_option maxRecDepth 100000 in
set_option maxHeartbeats 0 in
theorem PySem.Challenge.cw_deedpiles_k87_whole_fields_told_back_holds : PySem.Challenge.rw_deedpiles_k87_whole_fields_told_back.Holds := by
  w_on; o_law; k_head; (case hw => w_witness2)
  k_fill
  refine XB.walk_gX (TX := fun mg => (∃ t, mg "MOST_TIMES" = some (.int (10 ^ 30) t))) (l := PySem.Challenge.rw_deedpiles_k87_whole_fields_told_back) (n := 63) (k := 11) (x := "script") (sp := XB.spLaw) rfl (by decide) rfl ⟨rfl, by decide, by decide⟩ ?told (fun w h Y => PySem.W.kIn_of Y) ?F (fun _ _ a ns hl s => ⟨a, ns, rfl, s, Nat.le_trans hl (by decide), fun _ => rfl⟩)
  case told =>
    intro mg h x
    exact XB.loose_int x
  case F =>
    intro w mg fa h KX G hmg hMT
    refine' XB.law_mk KX G hmg ?T ?la ?ll ?lc ?lk
    case T =>
      constructor
      case b_OverflowError =>
        refine' PySem.W.mg_none_of KX G ?z1a
        (case z1a => k_is)
      case b_ValueError =>
        refine' PySem.W.mg_none_of KX G ?z2a
        (case z2a => k_is)
      case b_abs =>
        refine' PySem.W.mg_none_of KX G ?z3a
        (case z3a => k_is)
      case b_all =>
        refine' PySem.W.mg_none_of KX G ?z4a
        (case z4a => k_is)
      case b_bool =>
        refine' PySem.W.mg_none_of KX G ?z5a
        (case z5a => k_is)
      case b_enumerate =>
        refine' PySem.W.mg_none_of KX G ?z6a
        (case z6a => k_is)
      case b_int =>
        refine' PySem.W.mg_none_of KX G ?z7a
        (case z7a => k_is)
      case b_isinstance =>
        refine' PySem.W.mg_none_of KX G ?z8a
        (case z8a => k_is)
      case b_len =>
        refine' PySem.W.mg_none_of KX G ?z9a
        (case z9a => k_is)
      case b_list =>
        refine' PySem.W.mg_none_of KX G ?z10a
        (case z10a => k_is)
      case b_max =>
        refine' PySem.W.mg_none_of KX G ?z11a
        (case z11a => k_is)
      case b_min =>
        refine' PySem.W.mg_none_of KX G ?z12a
        (case z12a => k_is)
      case b_range =>
        refine' PySem.W.mg_none_of KX G ?z13a
        (case z13a => k_is)
      case b_repr =>
        refine' PySem.W.mg_none_of KX G ?z14a
        (case z14a => k_is)
      case b_sorted =>
        refine' PySem.W.mg_none_of KX G ?z15a
        (case z15a => k_is)
      case b_str =>
        refine' PySem.W.mg_none_of KX G ?z16a
        (case z16a => k_is)
      case b_tuple =>
        refine' PySem.W.mg_none_of KX G ?z17a
        (case z17a => k_is)
      case b_zip =>
        refine' PySem.W.mg_none_of KX G ?z18a
        (case z18a => k_is)
      case g_MOST_NAMES =>
        refine' XB.int_mk KX G ?z19a ?z19q
        (case z19a => k_is)
        (case z19q => rfl)
      case g_MOST_LETTERS =>
        refine' XB.int_mk KX G ?z20a ?z20q
        (case z20a => k_is)
        (case z20q => rfl)
      case g_MOST_STEPS =>
        refine' XB.int_mk KX G ?z21a ?z21q
        (case z21a => k_is)
        (case z21q => rfl)
      case g_MOST_TIMES => exact hMT
      case g_MOST_NAMES_TOLD =>
        refine' XB.int_mk KX G ?z23a ?z23q
        (case z23a => k_is)
        (case z23q => rfl)
      case g_MOST_CLAIMS =>
        refine' XB.int_mk KX G ?z24a ?z24q
        (case z24a => k_is)
        (case z24q => rfl)
      case d_is_whole =>
        refine' XB.dn_mk KX G ?z25a ?z25l ?z25c ?z25k
        (case z25a => k_is)
        (case z25l => k_is)
        (case z25c => k_is)
        (case z25k => k_is)
      case d_is_pair =>
        refine' XB.dn_mk KX G ?z26a ?z26l ?z26c ?z26k
        (case z26a => k_is)
        (case z26l => k_is)
        (case z26c => k_is)
        (case z26k => k_is)
      case d_is_ascending =>
        refine' XB.dn_mk KX G ?z27a ?z27l ?z27c ?z27k
        (case z27a => k_is)
        (case z27l => k_is)
        (case z27c => k_is)
        (case z27k => k_is)
      case d_touch_table =>
        refine' XB.dn_mk KX G ?z28a ?z28l ?z28c ?z28k
        (case z28a => k_is)
        (case z28l => k_is)
        (case z28c => k_is)
        (case z28k => k_is)
      case d_names_touching =>
        refine' XB.dn_mk KX G ?z29a ?z29l ?z29c ?z29k
        (case z29a => k_is)
        (case z29l => k_is)
        (case z29c => k_is)
        (case z29k => k_is)
      case d_are_apart =>
        refine' XB.dn_mk KX G ?z30a ?z30l ?z30c ?z30k
        (case z30a => k_is)
        (case z30l => k_is)
        (case z30c => k_is)
        (case z30k => k_is)
      case d_are_names =>
        refine' XB.dn_mk KX G ?z31a ?z31l ?z31c ?z31k
        (case z31a => k_is)
        (case z31l => k_is)
        (case z31c => k_is)
        (case z31k => k_is)
      case d_is_name =>
        refine' XB.dn_mk KX G ?z32a ?z32l ?z32c ?z32k
        (case z32a => k_is)
        (case z32l => k_is)
        (case z32c => k_is)
        (case z32k => k_is)
      case d_is_script =>
        refine' XB.dn_mk KX G ?z33a ?z33l ?z33c ?z33k
        (case z33a => k_is)
        (case z33l => k_is)
        (case z33c => k_is)
        (case z33k => k_is)
      case d_is_great_step =>
        refine' XB.dn_mk KX G ?z34a ?z34l ?z34c ?z34k
        (case z34a => k_is)
        (case z34l => k_is)
        (case z34c => k_is)
        (case z34k => k_is)
      case d_are_great_steps =>
        refine' XB.dn_mk KX G ?z35a ?z35l ?z35c ?z35k
        (case z35a => k_is)
        (case z35l => k_is)
        (case z35c => k_is)
        (case z35k => k_is)
      case d_is_times =>
        refine' XB.dn_mk KX G ?z36a ?z36l ?z36c ?z36k
        (case z36a => k_is)
        (case z36l => k_is)
        (case z36c => k_is)
        (case z36k => k_is)
      case d_piled =>
        refine' XB.dn_mk KX G ?z37a ?z37l ?z37c ?z37k
        (case z37a => k_is)
        (case z37l => k_is)
        (case z37c => k_is)
        (case z37k => k_is)
      case d_last_touched =>
        refine' XB.dn_mk KX G ?z38a ?z38l ?z38c ?z38k
        (case z38a => k_is)
        (case z38l => k_is)
        (case z38c => k_is)
        (case z38k => k_is)
      case d_place_behind =>
        refine' XB.dn_mk KX G ?z39a ?z39l ?z39c ?z39k
        (case z39a => k_is)
        (case z39l => k_is)
        (case z39c => k_is)
        (case z39k => k_is)
      case d_fields_of =>
        refine' XB.dn_mk KX G ?z40a ?z40l ?z40c ?z40k
        (case z40a => k_is)
        (case z40l => k_is)
        (case z40c => k_is)
        (case z40k => k_is)
      case d_told_pairs =>
        refine' XB.dn_mk KX G ?z41a ?z41l ?z41c ?z41k
        (case z41a => k_is)
        (case z41l => k_is)
        (case z41c => k_is)
        (case z41k => k_is)
      case d_quarrel =>
        refine' XB.dn_mk KX G ?z42a ?z42l ?z42c ?z42k
        (case z42a => k_is)
        (case z42l => k_is)
        (case z42c => k_is)
        (case z42k => k_is)
      case d_need_names =>
        refine' XB.dn_mk KX G ?z43a ?z43l ?z43c ?z43k
        (case z43a => k_is)
        (case z43l => k_is)
        (case z43c => k_is)
        (case z43k => k_is)
      case d_need_claims =>
        refine' XB.dn_mk KX G ?z44a ?z44l ?z44c ?z44k
        (case z44a => k_is)
        (case z44l => k_is)
        (case z44c => k_is)
        (case z44k => k_is)
      case d_is_claim =>
        refine' XB.dn_mk KX G ?z45a ?z45l ?z45c ?z45k
        (case z45a => k_is)
        (case z45l => k_is)
        (case z45c => k_is)
        (case z45k => k_is)
      case d_pairs_of =>
        refine' XB.dn_mk KX G ?z46a ?z46l ?z46c ?z46k
        (case z46a => k_is)
        (case z46l => k_is)
        (case z46c => k_is)
        (case z46k => k_is)
      case d_all_fields =>
        refine' XB.dn_mk KX G ?z47a ?z47l ?z47c ?z47k
        (case z47a => k_is)
        (case z47l => k_is)
        (case z47c => k_is)
        (case z47k => k_is)
      case d_does_hold =>
        refine' XB.dn_mk KX G ?z48a ?z48l ?z48c ?z48k
        (case z48a => k_is)
        (case z48l => k_is)
        (case z48c => k_is)
        (case z48k => k_is)
      case d_word_of =>
        refine' XB.dn_mk KX G ?z49a ?z49l ?z49c ?z49k
        (case z49a => k_is)
        (case z49l => k_is)
        (case z49c => k_is)
        (case z49k => k_is)
      case d_longer_rows =>
        refine' XB.dn_mk KX G ?z50a ?z50l ?z50c ?z50k
        (case z50a => k_is)
        (case z50l => k_is)
        (case z50c => k_is)
        (case z50k => k_is)
      case d__law_mixed =>
        refine' XB.dn_mk KX G ?z51a ?z51l ?z51c ?z51k
        (case z51a => k_is)
        (case z51l => k_is)
        (case z51c => k_is)
        (case z51k => k_is)
      case d__law_folded =>
        refine' XB.dn_mk KX G ?z52a ?z52l ?z52c ?z52k
        (case z52a => k_is)
        (case z52l => k_is)
        (case z52c => k_is)
        (case z52k => k_is)
      case d__law_draw =>
        refine' XB.dn_mk KX G ?z53a ?z53l ?z53c ?z53k
        (case z53a => k_is)
        (case z53l => k_is)
        (case z53c => k_is)
        (case z53k => k_is)
      case d__law_begun =>
        refine' XB.dn_mk KX G ?z54a ?z54l ?z54c ?z54k
        (case z54a => k_is)
        (case z54l => k_is)
        (case z54c => k_is)
        (case z54k => k_is)
      case d__law_like =>
        refine' XB.dn_mk KX G ?z55a ?z55l ?z55c ?z55k
        (case z55a => k_is)
        (case z55l => k_is)
        (case z55c => k_is)
        (case z55k => k_is)
      case d__law_steps =>
        refine' XB.dn_mk KX G ?z56a ?z56l ?z56c ?z56k
        (case z56a => k_is)
        (case z56l => k_is)
        (case z56c => k_is)
        (case z56k => k_is)
      case d__law_apart =>
        refine' XB.dn_mk KX G ?z57a ?z57l ?z57c ?z57k
        (case z57a => k_is)
        (case z57l => k_is)
        (case z57c => k_is)
        (case z57k => k_is)
      case d__law_meet =>
        refine' XB.dn_mk KX G ?z58a ?z58l ?z58c ?z58k
        (case z58a => k_is)
        (case z58l => k_is)
        (case z58c => k_is)
        (case z58k => k_is)
      case d__law_pile =>
        refine' XB.dn_mk KX G ?z59a ?z59l ?z59c ?z59k
        (case z59a => k_is)
        (case z59l => k_is)
        (case z59c => k_is)
        (case z59k => k_is)
      case d__law_firsts =>
        refine' XB.dn_mk KX G ?z60a ?z60l ?z60c ?z60k
        (case z60a => k_is)
        (case z60l => k_is)
        (case z60c => k_is)
        (case z60k => k_is)
      case d__law_least =>
        refine' XB.dn_mk KX G ?z61a ?z61l ?z61c ?z61k
        (case z61a => k_is)
        (case z61l => k_is)
        (case z61c => k_is)
        (case z61k => k_is)
      case d__law_back =>
        refine' XB.dn_mk KX G ?z62a ?z62l ?z62c ?z62k
        (case z62a => k_is)
        (case z62l => k_is)
        (case z62c => k_is)
        (case z62k => k_is)
      case d__law_pairs =>
        refine' XB.dn_mk KX G ?z63a ?z63l ?z63c ?z63k
        (case z63a => k_is)
        (case z63l => k_is)
        (case z63c => k_is)
        (case z63k => k_is)
      case d__law_fields =>
        refine' XB.dn_mk KX G ?z64a ?z64l ?z64c ?z64k
        (case z64a => k_is)
        (case z64l => k_is)
        (case z64c => k_is)
        (case z64k => k_is)
      case d__law_holds =>
        refine' XB.dn_mk KX G ?z65a ?z65l ?z65c ?z65k
        (case z65a => k_is)
        (case z65l => k_is)
        (case z65c => k_is)
        (case z65k => k_is)
      case d__law_claim =>
        refine' XB.dn_mk KX G ?z66a ?z66l ?z66c ?z66k
        (case z66a => k_is)
        (case z66l => k_is)
        (case z66c => k_is)
        (case z66k => k_is)
      case d__law_quarrel =>
        refine' XB.dn_mk KX G ?z67a ?z67l ?z67c ?z67k
        (case z67a => k_is)
        (case z67l => k_is)
        (case z67c => k_is)
        (case z67k => k_is)
      case d__law_right =>
        refine' XB.dn_mk KX G ?z68a ?z68l ?z68c ?z68k
        (case z68a => k_is)
        (case z68l => k_is)
        (case z68c => k_is)
        (case z68k => k_is)
      case d__law_rises =>
        refine' XB.dn_mk KX G ?z69a ?z69l ?z69c ?z69k
        (case z69a => k_is)
        (case z69l => k_is)
        (case z69c => k_is)
        (case z69k => k_is)
      case d__law_seven_right =>
        refine' XB.dn_mk KX G ?z70a ?z70l ?z70c ?z70k
        (case z70a => k_is)
        (case z70l => k_is)
        (case z70c => k_is)
        (case z70k => k_is)
      case d_law =>
        refine' XB.dn_mk KX G ?z71a ?z71l ?z71c ?z71k
        (case z71a => k_is)
        (case z71l => k_is)
        (case z71c => k_is)
        (case z71k => k_is)
    (case la => k_is)
    (case ll => k_is)
    (case lc => k_is)
    (case lk => k_is)
