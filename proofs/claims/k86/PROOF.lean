import PyProof.Rows.All
import HandS.ForMost
import HandS.Wide
import HandS.Walk
import HandS.WordsExc
import HandS.Codes
import PySem.Challenge.RW_deedpiles_k86_whole_middles
import PyProof.ReprRoads
import PyProof.CallFns
import HandS.TupLe
import HandS.Zip
import HandS.Deep
import HandS.DictComp
import HandS.TupAny
import KE.GoesMore
import KE.GoesEnum
import PyProof.EnumMake
import PyProof.Draws
import HandS.IsInst
import HandS.Conv
import HandS.More
import HandS.Style
import KE.KRevSl
import HandS.Flow
import HandS.Strs
import PyProof.ReprBulk
import KE.SortData
import KE.DataMinMax
import HandS.NoneIn
import HandS.Ends
set_option Elab.async false
set_option linter.all false
set_option maxRecDepth 100000
set_option maxHeartbeats 4000000
namespace XB
open PySem PySem.Spec PyProof.Rows L2
/-! ### defs of the text, called by their names -/
structure Cl (P : Program) (w : World) (K : PySem.W.Frag) (mg : Str → Option Value) (base : Heap) (CX : CXT) (k : Nat) (x : Str) (sp : Sp) : Prop where
  ex : ∃ (f : Addr) (fd : FuncData) (ps : List Str), FnOk P w K mg base CX k f fd ps sp ∧ mg x = some (.ref f) ∧ PySem.W.keepIn K (.ref f) = true ∧ Binds K fd ps []
/-- a def that stands in the module under its own name -/
structure Dn (K : PySem.W.Frag) (mg : Str → Option Value) (x : Str) (st : Stmt) : Prop where
  ex : ∃ (f : Addr) (fd : FuncData), Fun K x x st f fd ∧ mg x = some (.ref f)
section
variable {P : Program} {w : World} {K : PySem.W.Frag} {mg : Str → Option Value} {base : Heap}
theorem cl0 {x : Str} {st : Stmt} {N ps : List Str} {k : Nat} {sp : Sp} (D : Dn K mg x st)
    (hb : ∀ (kV doc pm : Value) (an : Option Addr) (cdv ct : Value) (us : List Value), us.length = ps.length → bindArgs (PySem.W.fnOf x x (defArgs st) (defBody st) (defScope st) .none kV doc pm an cdv ct) ⟨us, []⟩ = pure (ps.zip us))
    (S : FnScope N ps (defScope st)) (len : ∀ vs H Q E, sp vs H Q E → vs.length = ps.length)
    (hbody : ∀ (f : Addr) (cdv : Value) (A : Around) (outer : List Env) (s : Shared) (H : Hp) (vs : List V) (Q : VK) (E : XK), Room k (A.deeper (envOfC x (defScope st) s.heap.objs.size f cdv)) → sp vs H Q E →
      ∃ t, PSs (cxOf CX0 P w K mg base N x (defScope st) f cdv A outer s H E).nox (defBody st) t ∧ t { nx := fun _ H' => Q .non H', rt := Q } (start N vs) H) : Cl P w K mg base CX0 (k + 1) x sp := by
  obtain ⟨f, fd, F, hm⟩ := D.ex
  exact ⟨f, fd, ps, F.ok S len (fun cdv A outer s H vs Q E hr h => hbody f cdv A outer s H vs Q E hr h), hm, F.kp, F.binds hb⟩
end
section
variable {X : Cx} {k j : Nat} {x : Str} {sp : Sp} {p pos : Pos} {e : Expr} {es : List Expr} {t : TA}
theorem pe_k (c : Cl X.prog X.w X.K X.mg X.base CX0 k x sp) (hr : Room j X.A) (hk : k ≤ j) (hg : Gl X x) (ha : PA X (e :: es) t)
    (hdb : (x == ("__debug__" : Str)) = false := by decide) (he : starEach (e :: es) X.env = (false, eval e X.env) :: starEach es X.env := by rfl) (hpl : (backTo pos (starEach es X.env)).any (·.1) = false := by rfl) :
    PE X (.Call (.Name x p) (e :: es) [] pos) (tCall sp [] E0 t) := by
  obtain ⟨f, fd, ps, F, hm, kp, b⟩ := c.ex
  exact pe_call F (hr.mono hk) hg hm kp b .nil pass0 ha hdb he hpl
end
/-! ### heaps -/
theorem same_upd {H : Hp} {p : Addr} {o : HO} (h : H p = none) : Same H (upd H p o) := fun b x e => by
  rw [upd_ne (ne_of_none e h)]
  exact e
theorem Same.put {H H1 : Hp} {D : Addr} {o : HO} (s : Same H H1) (hD : H D = none) : Same H (upd H1 D o) := fun b x e => by
  rw [upd_ne (ne_of_none e hD)]
  exact s b x e
theorem Same.new {H H1 : Hp} {D : Addr} {o : HO} (s : Same H H1) (hD : H1 D = none) : Same H (upd H1 D o) := fun b x e => by
  rw [upd_ne (ne_of_none (s b x e) hD)]
  exact s b x e
theorem same_put {H H1 : Hp} {D : Addr} {o : HO} (s : Same H H1) (hD : H D = none) : Same H (upd H1 D o) := Same.put s hD
theorem same_new {H H1 : Hp} {D : Addr} {o : HO} (s : Same H H1) (hD : H1 D = none) : Same H (upd H1 D o) := Same.new s hD
theorem yes_ {σ : L2.St} {H : Hp} {A B : Hp → Prop} (h : A H) : tYes σ H (fun b H3 => if b = true then A H3 else B H3) := by
  show if true = true then A H else B H
  rw [if_pos rfl]
  exact h
/-- the int that stands at a place of a row of ints -/
theorem int_at {ns : List Int} {i : Nat} {x : V} (h : (ns.map V.int)[i]? = some x) : ∃ z, ns[i]? = some z ∧ x = V.int z := by
  rw [List.getElem?_map] at h
  cases e : ns[i]? with
  | none =>
    rw [e] at h
    cases h
  | some z =>
    rw [e] at h
    exact ⟨z, rfl, (Option.some.inj h).symm⟩
theorem str_at {ns : List Str} {i : Nat} {x : V} (h : (ns.map V.str)[i]? = some x) : ∃ z, ns[i]? = some z ∧ x = V.str z := by
  rw [List.getElem?_map] at h
  obtain ⟨z, e, rfl⟩ := Option.map_eq_some_iff.mp h
  exact ⟨z, e, rfl⟩
theorem map_set {xs : List Int} (k : Nat) (z : Int) : (xs.map V.int).set k (.int z) = (xs.set k z).map V.int := by
  rw [List.map_set]
theorem ixN_of {n : Nat} {z : Int} {k : Nat} (e : z = (k : Int)) (h : k < n) : ixN n z = some k := by
  unfold ixN
  rw [if_pos (by omega), if_pos (by omega), e]
  rfl
theorem atI_of {xs : List Int} {z : Int} {k : Nat} {v : Int} (e : z = (k : Int)) (h : xs[k]? = some v) : atI (xs.map V.int) z = some (V.int v) := by
  refine at_of e ?_
  rw [List.getElem?_map, h]
  rfl
end XB
set_option Elab.async false
set_option linter.all false
set_option maxRecDepth 100000
set_option maxHeartbeats 4000000
namespace XB
open PySem PySem.Spec PyProof.Rows L2
def topS (i : Nat) : Stmt := PySem.Challenge.pw_deedpiles_k86_whole_middles.main.body.getD i (.Pass ⟨0, 0, 0, 0⟩)
abbrev s_BadField___init__ : Stmt := inClass (topS 2) 0
theorem sc_BadField___init__ : FnScope ["self", "part"] ["self", "part"] (defScope s_BadField___init__) := ⟨rfl, rfl, rfl, by decide +kernel, rfl, by decide +kernel, by decide +kernel⟩
abbrev s_BadScript___init__ : Stmt := inClass (topS 3) 0
theorem sc_BadScript___init__ : FnScope ["self", "place"] ["self", "place"] (defScope s_BadScript___init__) := ⟨rfl, rfl, rfl, by decide +kernel, rfl, by decide +kernel, by decide +kernel⟩
abbrev s_is_whole : Stmt := topS 5
theorem sc_is_whole : FnScope ["value"] ["value"] (defScope s_is_whole) := ⟨rfl, rfl, rfl, by decide +kernel, rfl, by decide +kernel, by decide +kernel⟩
abbrev s_is_pair : Stmt := topS 6
theorem sc_is_pair : FnScope ["value"] ["value"] (defScope s_is_pair) := ⟨rfl, rfl, rfl, by decide +kernel, rfl, by decide +kernel, by decide +kernel⟩
abbrev s_is_ascending : Stmt := topS 7
theorem sc_is_ascending : FnScope ["items", "one", "other"] ["items"] (defScope s_is_ascending) := ⟨rfl, rfl, rfl, by decide +kernel, rfl, by decide +kernel, by decide +kernel⟩
abbrev s_need_field : Stmt := topS 11
theorem sc_need_field : FnScope ["field", "names", "pairs"] ["field"] (defScope s_need_field) := ⟨rfl, rfl, rfl, by decide +kernel, rfl, by decide +kernel, by decide +kernel⟩
abbrev s_touch_table : Stmt := topS 12
theorem sc_touch_table : FnScope ["field", "names", "_", "name"] ["field"] (defScope s_touch_table) := ⟨rfl, rfl, rfl, by decide +kernel, rfl, by decide +kernel, by decide +kernel⟩
abbrev s_names_touching : Stmt := topS 13
theorem sc_names_touching : FnScope ["field", "name", "names", "pairs", "other"] ["field", "name"] (defScope s_names_touching) := ⟨rfl, rfl, rfl, by decide +kernel, rfl, by decide +kernel, by decide +kernel⟩
abbrev s_are_apart : Stmt := topS 14
theorem sc_are_apart : FnScope ["pairs", "one", "other"] ["pairs", "one", "other"] (defScope s_are_apart) := ⟨rfl, rfl, rfl, by decide +kernel, rfl, by decide +kernel, by decide +kernel⟩
abbrev s_are_names : Stmt := topS 15
theorem sc_are_names : FnScope ["value", "item"] ["value"] (defScope s_are_names) := ⟨rfl, rfl, rfl, by decide +kernel, rfl, by decide +kernel, by decide +kernel⟩
abbrev s_is_name : Stmt := topS 16
theorem sc_is_name : FnScope ["value", "letter"] ["value"] (defScope s_is_name) := ⟨rfl, rfl, rfl, by decide +kernel, rfl, by decide +kernel, by decide +kernel⟩
abbrev s_are_pairs : Stmt := topS 17
theorem sc_are_pairs : FnScope ["names", "value", "item"] ["names", "value"] (defScope s_are_pairs) := ⟨rfl, rfl, rfl, by decide +kernel, rfl, by decide +kernel, by decide +kernel⟩
abbrev s_is_pair_of : Stmt := topS 18
theorem sc_is_pair_of : FnScope ["names", "value", "one", "other"] ["names", "value"] (defScope s_is_pair_of) := ⟨rfl, rfl, rfl, by decide +kernel, rfl, by decide +kernel, by decide +kernel⟩
abbrev s_need_script : Stmt := topS 22
theorem sc_need_script : FnScope ["field", "deeds", "names", "_", "place", "item"] ["field", "deeds"] (defScope s_need_script) := ⟨rfl, rfl, rfl, by decide +kernel, rfl, by decide +kernel, by decide +kernel⟩
abbrev s_is_step : Stmt := topS 23
theorem sc_is_step : FnScope ["names", "value"] ["names", "value"] (defScope s_is_step) := ⟨rfl, rfl, rfl, by decide +kernel, rfl, by decide +kernel, by decide +kernel⟩
abbrev s_is_great_step : Stmt := topS 24
theorem sc_is_great_step : FnScope ["names", "value", "name", "times"] ["names", "value"] (defScope s_is_great_step) := ⟨rfl, rfl, rfl, by decide +kernel, rfl, by decide +kernel, by decide +kernel⟩
abbrev s_is_times : Stmt := topS 25
theorem sc_is_times : FnScope ["value"] ["value"] (defScope s_is_times) := ⟨rfl, rfl, rfl, by decide +kernel, rfl, by decide +kernel, by decide +kernel⟩
abbrev s_least_pile : Stmt := topS 26
theorem sc_least_pile : FnScope ["field", "deeds"] ["field", "deeds"] (defScope s_least_pile) := ⟨rfl, rfl, rfl, by decide +kernel, rfl, by decide +kernel, by decide +kernel⟩
abbrev s_piled : Stmt := topS 27
theorem sc_piled : FnScope ["touch", "steps", "pieces", "name", "times", "at"] ["touch", "steps"] (defScope s_piled) := ⟨rfl, rfl, rfl, by decide +kernel, rfl, by decide +kernel, by decide +kernel⟩
abbrev s_last_touched : Stmt := topS 28
theorem sc_last_touched : FnScope ["names", "pieces", "at"] ["names", "pieces"] (defScope s_last_touched) := ⟨rfl, rfl, rfl, by decide +kernel, rfl, by decide +kernel, by decide +kernel⟩
abbrev s_place_behind : Stmt := topS 29
theorem sc_place_behind : FnScope ["pieces", "at", "name", "place"] ["pieces", "at", "name"] (defScope s_place_behind) := ⟨rfl, rfl, rfl, by decide +kernel, rfl, by decide +kernel, by decide +kernel⟩
abbrev s_back : Stmt := topS 30
theorem sc_back : FnScope ["steps", "name", "times"] ["steps"] (defScope s_back) := ⟨rfl, rfl, rfl, by decide +kernel, rfl, by decide +kernel, by decide +kernel⟩
abbrev s_common_of : Stmt := topS 32
theorem sc_common_of : FnScope ["touch", "one", "other", "shared", "barred", "rest", "name", "times", "part", "above"] ["touch", "one", "other"] (defScope s_common_of) := ⟨rfl, rfl, rfl, by decide +kernel, rfl, by decide +kernel, by decide +kernel⟩
abbrev s_front_times : Stmt := topS 33
theorem sc_front_times : FnScope ["touch", "pieces", "name", "other", "times"] ["touch", "pieces", "name"] (defScope s_front_times) := ⟨rfl, rfl, rfl, by decide +kernel, rfl, by decide +kernel, by decide +kernel⟩
abbrev s_shared_times : Stmt := topS 34
theorem sc_shared_times : FnScope ["one", "other"] ["one", "other"] (defScope s_shared_times) := ⟨rfl, rfl, rfl, by decide +kernel, rfl, by decide +kernel, by decide +kernel⟩
abbrev s_middle_of : Stmt := topS 36
theorem sc_middle_of : FnScope ["field", "one", "two", "three", "first", "second", "third"] ["field", "one", "two", "three"] (defScope s_middle_of) := ⟨rfl, rfl, rfl, by decide +kernel, rfl, by decide +kernel, by decide +kernel⟩
abbrev s_leading : Stmt := topS 37
theorem sc_leading : FnScope ["touch", "one", "other"] ["touch", "one", "other"] (defScope s_leading) := ⟨rfl, rfl, rfl, by decide +kernel, rfl, by decide +kernel, by decide +kernel⟩
abbrev s_middle_pile : Stmt := topS 38
theorem sc_middle_pile : FnScope ["touch", "one", "two", "three"] ["touch", "one", "two", "three"] (defScope s_middle_pile) := ⟨rfl, rfl, rfl, by decide +kernel, rfl, by decide +kernel, by decide +kernel⟩
abbrev s__law_mixed : Stmt := topS 40
theorem sc__law_mixed : FnScope ["cell", "n", "blend"] ["cell", "n"] (defScope s__law_mixed) := ⟨rfl, rfl, rfl, by decide +kernel, rfl, by decide +kernel, by decide +kernel⟩
abbrev s__law_folded : Stmt := topS 41
theorem sc__law_folded : FnScope ["script", "found", "n", "cell"] ["script"] (defScope s__law_folded) := ⟨rfl, rfl, rfl, by decide +kernel, rfl, by decide +kernel, by decide +kernel⟩
abbrev s__law_draw : Stmt := topS 42
theorem sc__law_draw : FnScope ["m", "limit", "n", "lot", "here", "cell"] ["m", "limit"] (defScope s__law_draw) := ⟨rfl, rfl, rfl, by decide +kernel, rfl, by decide +kernel, by decide +kernel⟩
abbrev s__law_begun : Stmt := topS 43
theorem sc__law_begun : FnScope ["script", "m", "cell"] ["script"] (defScope s__law_begun) := ⟨rfl, rfl, rfl, by decide +kernel, rfl, by decide +kernel, by decide +kernel⟩
abbrev s__law_like : Stmt := topS 44
theorem sc__law_like : FnScope ["answer", "due"] ["answer", "due"] (defScope s__law_like) := ⟨rfl, rfl, rfl, by decide +kernel, rfl, by decide +kernel, by decide +kernel⟩
abbrev s__law_field : Stmt := topS 45
theorem sc__law_field : FnScope ["m", "most", "names", "some", "k", "other", "pair"] ["m", "most"] (defScope s__law_field) := ⟨rfl, rfl, rfl, by decide +kernel, rfl, by decide +kernel, by decide +kernel⟩
abbrev s__law_steps : Stmt := topS 46
theorem sc__law_steps : FnScope ["m", "field", "most", "great", "found", "k", "times"] ["m", "field", "most", "great"] (defScope s__law_steps) := ⟨rfl, rfl, rfl, by decide +kernel, rfl, by decide +kernel, by decide +kernel⟩
abbrev s__law_apart : Stmt := topS 47
theorem sc__law_apart : FnScope ["field", "one", "other"] ["field", "one", "other"] (defScope s__law_apart) := ⟨rfl, rfl, rfl, by decide +kernel, rfl, by decide +kernel, by decide +kernel⟩
abbrev s__law_meet : Stmt := topS 48
theorem sc__law_meet : FnScope ["field", "steps", "k", "far"] ["field", "steps"] (defScope s__law_meet) := ⟨rfl, rfl, rfl, by decide +kernel, rfl, by decide +kernel, by decide +kernel⟩
abbrev s__law_pile : Stmt := topS 49
theorem sc__law_pile : FnScope ["field", "steps", "found", "pair", "name", "times"] ["field", "steps"] (defScope s__law_pile) := ⟨rfl, rfl, rfl, by decide +kernel, rfl, by decide +kernel, by decide +kernel⟩
abbrev s__law_firsts : Stmt := topS 50
theorem sc__law_firsts : FnScope ["field", "steps", "found", "k", "step"] ["field", "steps"] (defScope s__law_firsts) := ⟨rfl, rfl, rfl, by decide +kernel, rfl, by decide +kernel, by decide +kernel⟩
abbrev s__law_least : Stmt := topS 51
theorem sc__law_least : FnScope ["field", "steps", "left", "found", "k", "far"] ["field", "steps"] (defScope s__law_least) := ⟨rfl, rfl, rfl, by decide +kernel, rfl, by decide +kernel, by decide +kernel⟩
abbrev s__law_back : Stmt := topS 52
theorem sc__law_back : FnScope ["steps", "name", "times"] ["steps"] (defScope s__law_back) := ⟨rfl, rfl, rfl, by decide +kernel, rfl, by decide +kernel, by decide +kernel⟩
abbrev s__law_length : Stmt := topS 53
theorem sc__law_length : FnScope ["field", "steps", "name", "times"] ["field", "steps"] (defScope s__law_length) := ⟨rfl, rfl, rfl, by decide +kernel, rfl, by decide +kernel, by decide +kernel⟩
abbrev s__law_far : Stmt := topS 54
theorem sc__law_far : FnScope ["field", "one", "other"] ["field", "one", "other"] (defScope s__law_far) := ⟨rfl, rfl, rfl, by decide +kernel, rfl, by decide +kernel, by decide +kernel⟩
abbrev s__law_units : Stmt := topS 55
theorem sc__law_units : FnScope ["steps", "found", "name", "times"] ["steps"] (defScope s__law_units) := ⟨rfl, rfl, rfl, by decide +kernel, rfl, by decide +kernel, by decide +kernel⟩
abbrev s__law_lowers : Stmt := topS 56
theorem sc__law_lowers : FnScope ["field", "steps", "rest", "found", "layer", "later", "part", "left", "k", "far"] ["field", "steps"] (defScope s__law_lowers) := ⟨rfl, rfl, rfl, by decide +kernel, rfl, by decide +kernel, by decide +kernel⟩
abbrev s__law_lies : Stmt := topS 57
theorem sc__law_lies : FnScope ["field", "one", "two", "three", "part", "near", "far"] ["field", "one", "two", "three", "part"] (defScope s__law_lies) := ⟨rfl, rfl, rfl, by decide +kernel, rfl, by decide +kernel, by decide +kernel⟩
abbrev s__law_small : Stmt := topS 58
theorem sc__law_small : FnScope ["m", "field", "found"] ["m", "field"] (defScope s__law_small) := ⟨rfl, rfl, rfl, by decide +kernel, rfl, by decide +kernel, by decide +kernel⟩
abbrev s_law : Stmt := topS 59
theorem sc_law : FnScope ["script", "m", "turn", "field", "one", "two", "three", "rest", "some", "due", "told_so", "part", "k"] ["script"] (defScope s_law) := ⟨rfl, rfl, rfl, by decide +kernel, rfl, by decide +kernel, by decide +kernel⟩
structure Tx (K : PySem.W.Frag) (mg : Str → Option Value) : Prop where
  b_ValueError : mg "ValueError" = none
  b_abs : mg "abs" = none
  b_all : mg "all" = none
  b_bool : mg "bool" = none
  b_enumerate : mg "enumerate" = none
  b_int : mg "int" = none
  b_isinstance : mg "isinstance" = none
  b_len : mg "len" = none
  b_list : mg "list" = none
  b_max : mg "max" = none
  b_min : mg "min" = none
  b_range : mg "range" = none
  b_repr : mg "repr" = none
  b_str : mg "str" = none
  b_sum : mg "sum" = none
  b_tuple : mg "tuple" = none
  b_zip : mg "zip" = none
  g_MOST_NAMES : ∃ t, mg "MOST_NAMES" = some (.int (6) t)
  g_MOST_LETTERS : ∃ t, mg "MOST_LETTERS" = some (.int (6) t)
  g_MOST_STEPS : ∃ t, mg "MOST_STEPS" = some (.int (60) t)
  g_MOST_TIMES : ∃ t, mg "MOST_TIMES" = some (.int (10 ^ 30) t)
  d_is_whole : Dn K mg "is_whole" s_is_whole
  d_is_pair : Dn K mg "is_pair" s_is_pair
  d_is_ascending : Dn K mg "is_ascending" s_is_ascending
  d_need_field : Dn K mg "need_field" s_need_field
  d_touch_table : Dn K mg "touch_table" s_touch_table
  d_names_touching : Dn K mg "names_touching" s_names_touching
  d_are_apart : Dn K mg "are_apart" s_are_apart
  d_are_names : Dn K mg "are_names" s_are_names
  d_is_name : Dn K mg "is_name" s_is_name
  d_are_pairs : Dn K mg "are_pairs" s_are_pairs
  d_is_pair_of : Dn K mg "is_pair_of" s_is_pair_of
  d_need_script : Dn K mg "need_script" s_need_script
  d_is_step : Dn K mg "is_step" s_is_step
  d_is_great_step : Dn K mg "is_great_step" s_is_great_step
  d_is_times : Dn K mg "is_times" s_is_times
  d_least_pile : Dn K mg "least_pile" s_least_pile
  d_piled : Dn K mg "piled" s_piled
  d_last_touched : Dn K mg "last_touched" s_last_touched
  d_place_behind : Dn K mg "place_behind" s_place_behind
  d_back : Dn K mg "back" s_back
  d_common_of : Dn K mg "common_of" s_common_of
  d_front_times : Dn K mg "front_times" s_front_times
  d_shared_times : Dn K mg "shared_times" s_shared_times
  d_middle_of : Dn K mg "middle_of" s_middle_of
  d_leading : Dn K mg "leading" s_leading
  d_middle_pile : Dn K mg "middle_pile" s_middle_pile
  d__law_mixed : Dn K mg "_law_mixed" s__law_mixed
  d__law_folded : Dn K mg "_law_folded" s__law_folded
  d__law_draw : Dn K mg "_law_draw" s__law_draw
  d__law_begun : Dn K mg "_law_begun" s__law_begun
  d__law_like : Dn K mg "_law_like" s__law_like
  d__law_field : Dn K mg "_law_field" s__law_field
  d__law_steps : Dn K mg "_law_steps" s__law_steps
  d__law_apart : Dn K mg "_law_apart" s__law_apart
  d__law_meet : Dn K mg "_law_meet" s__law_meet
  d__law_pile : Dn K mg "_law_pile" s__law_pile
  d__law_firsts : Dn K mg "_law_firsts" s__law_firsts
  d__law_least : Dn K mg "_law_least" s__law_least
  d__law_back : Dn K mg "_law_back" s__law_back
  d__law_length : Dn K mg "_law_length" s__law_length
  d__law_far : Dn K mg "_law_far" s__law_far
  d__law_units : Dn K mg "_law_units" s__law_units
  d__law_lowers : Dn K mg "_law_lowers" s__law_lowers
  d__law_lies : Dn K mg "_law_lies" s__law_lies
  d__law_small : Dn K mg "_law_small" s__law_small
  d_law : Dn K mg "law" s_law
end XB
set_option Elab.async false
set_option linter.all false
set_option maxRecDepth 100000
set_option maxHeartbeats 4000000
namespace XB
open PySem PySem.Spec PyProof.Rows L2
section
variable {P : Program} {w : World} {K : PySem.W.Frag} {mg : Str → Option Value} {base : Heap}
def spMixed : Sp := fun vs H Q _ => ∃ c n : Int, vs = [.int c, .int n] ∧ 0 ≤ c ∧ c < 1099511627776 ∧ 0 ≤ n ∧ n < 1099511627776 ∧ ∀ r : Int, 0 ≤ r → r < 1099511627 → Q (.int r) H
theorem c_mixed (T : Tx K mg) : Cl P w K mg base CX0 1 "_law_mixed" spMixed := by
  refine cl0 T.d__law_mixed (ps := ["cell", "n"]) (fun _ _ _ _ _ _ us hl => match us, hl with | [_, _], _ => rfl) sc__law_mixed (fun vs H Q E h => ?_) (fun f cdv A outer s H vs Q E hr h => ?_)
  · obtain ⟨c, n, rfl, _⟩ := h
    rfl
  · obtain ⟨c, n, rfl, c0, c1, n0, n1, q⟩ := h
    have nd := sc__law_mixed.nd
    refine ⟨_, pss_cons (ps_set (i := 2) nd rfl (.inl rfl) (pe_op op_add (pe_op op_add
        (pe_op op_mod (pe_callTy call_int1 (by rfl) T.b_int (by decide +kernel) (pa_cons (pe_op op_mul (pe_op op_mul (pv 0) (pe_op op_add pe_int (pe_op op_mul pe_int (pv 1)))) pe_int) pa_nil)) pe_int)
        (pe_op op_mul (pe_op op_mul pe_int (pv 1)) (pv 1))) (pe_op op_mul pe_int (pv 1))))
      (pss_one (ps_ret (pe_op op_fdiv (pe_op op_mod (pe_callTy call_int1 (by rfl) T.b_int (by decide +kernel) (pa_cons (pe_op op_mul (pv 2) pe_int) pa_nil)) pe_int) pe_int))), ?_⟩
    refine ⟨_, rfl, _, rfl, _, _, rfl, rfl, .inl (by constructor <;> omega), _, _, rfl, rfl, _, _, rfl, rfl, .inl (by constructor <;> omega), ?_⟩
    refine ⟨_, _, rfl, rfl, .inr (by decide), .inl ⟨_, rfl, ?_⟩⟩
    refine ⟨_, _, rfl, rfl, (show (0 : Int) < 2147483647 by decide), ?_⟩
    refine ⟨_, rfl, _, _, rfl, rfl, .inl (by decide), _, rfl, _, _, rfl, rfl, .inl (by constructor <;> omega), ?_⟩
    refine ⟨_, _, rfl, rfl, _, rfl, _, _, rfl, rfl, .inl (by decide), _, _, rfl, rfl, ?_⟩
    refine ⟨_, rfl, _, _, rfl, rfl, .inr (by decide), .inl ⟨_, rfl, ?_⟩⟩
    refine ⟨_, _, rfl, rfl, (show (0 : Int) < 2147483629 by decide), _, _, rfl, rfl, ⟨by decide, by decide⟩, ?_⟩
    refine q _ ?_ ?_
    · exact Int.ediv_nonneg (Int.emod_nonneg _ (by decide)) (by decide)
    · have h1 := Int.emod_lt_of_pos (c * (1 + 2 * n) * 48271 % 2147483647 + 7919 * n * n + 104729 * n) (b := 2147483629) (by decide)
      generalize (c * (1 + 2 * n) * 48271 % 2147483647 + 7919 * n * n + 104729 * n) = z
      have h1 := Int.emod_lt_of_pos (z * 69621) (b := 2147483629) (by decide)
      generalize (z * 69621) % 2147483629 = y at h1 ⊢
      show y / 7 < 1099511627
      omega
/-- what a row of numbers is that draws come from -/
structure Good (xs : List Int) : Prop where
  len : xs.length = 64
  bd : ∀ v ∈ xs, 0 ≤ v ∧ v < 2147483647
theorem Good.set {xs : List Int} (g : Good xs) (k : Nat) (z : Int) : Good (xs.set k (z % 2147483647)) := by
  refine ⟨by rw [List.length_set]; exact g.len, fun v hv => ?_⟩
  rcases List.mem_or_eq_of_mem_set hv with h | h
  · exact g.bd v h
  · rw [h]
    exact ⟨Int.emod_nonneg _ (by decide), Int.emod_lt_of_pos _ (by decide)⟩
theorem Good.at (xs : List Int) (g : Good xs) {k : Nat} (h : k < 64) : ∃ v, xs[k]? = some v ∧ 0 ≤ v ∧ v < 2147483647 := by
  have h' : k < xs.length := by rw [g.len]; exact h
  exact ⟨xs[k], List.getElem?_eq_getElem h', g.bd _ (List.getElem_mem h')⟩
theorem mod_nat {z : Int} : ∃ k : Nat, z % 64 = (k : Int) ∧ k < 64 := by
  have h0 := Int.emod_nonneg z (b := 64) (by decide)
  have h1 := Int.emod_lt_of_pos z (b := 64) (by decide)
  exact ⟨(z % 64).toNat, by omega, by omega⟩
def spFolded (K : PySem.W.Frag) : Sp := fun vs H Q _ => ∃ (a : Addr) (ns : List Int), vs = [.ref a] ∧ SqL K H a (ns.map V.int) ∧ ns.length ≤ 1000 ∧
  ∀ H' p xs, Same H H' → H p = none → H' p = some (.lst (xs.map V.int)) → Good xs → Q (.ref p) H'
theorem c_folded (T : Tx K mg) : Cl P w K mg base CX0 1 "_law_folded" (spFolded K) := by
  refine cl0 T.d__law_folded (ps := ["script"]) (fun _ _ _ _ _ _ us hl => match us, hl with | [_], _ => rfl) sc__law_folded (fun vs H Q E h => ?_) (fun f cdv A outer s H vs Q E hr h => ?_)
  · obtain ⟨a, ns, rfl, _⟩ := h
    rfl
  · obtain ⟨a, ns, rfl, hS, hlen, q⟩ := h
    have nd := sc__law_folded.nd
    refine ⟨_, pss_cons (ps_setLc (i := 1) (own := [("n", 2)]) (g := gName 2) (tt := tYes) rfl nd rfl rfl (sw_true rfl rfl rfl (by decide +kernel)) (pi_range1 (by rfl) T.b_range (pa_cons pe_int pa_nil)) (blkOk_by (own := [("n", 2)]) (N := ["script", "found", "n", "cell"]) (sc := defScope s__law_folded) (by decide +kernel))
          (fun _ _ _ _ _ => pg_name (i := 2) nd rfl (Or.inl rfl)) (fun _ _ _ _ _ => pts_nil) (fun _ _ _ _ _ => pe_op op_add pe_int (pv 2)))
      (pss_cons (ps_for PassesOwn.never rfl (pi_enum (by rfl) T.b_enumerate (pa_cons (pv 0) pa_nil)) (pg_tup rfl (pgs_cons (pg_name (i := 2) nd rfl (.inl rfl)) (pgs_cons (pg_name (i := 3) nd rfl (.inl rfl)) pgs_nil)))
        (pss_one (ps_asg (pe_op op_mod (pe_callTy call_int1 (by rfl) T.b_int (by decide +kernel) (pa_cons (pe_op op_add (pe_op op_mul (pe_ix ix_list (pv 1) (pe_op op_mod (pe_callTy call_int1 (by rfl) T.b_int (by decide +kernel) (pa_cons (pv 2) pa_nil)) pe_int) (fun _ _ => rfl)) pe_int) (pv 3)) pa_nil)) pe_int)
          (pg_sub (pv 1) (pe_op op_mod (pe_callTy call_int1 (by rfl) T.b_int (by decide +kernel) (pa_cons (pv 2) pa_nil)) pe_int) set_list))))
      (pss_cons (ps_for PassesOwn.never rfl (pi_range2 (by rfl) T.b_range (pa_cons pe_int (pa_cons pe_int pa_nil))) (pg_name (i := 2) nd rfl (.inl rfl))
        (pss_one (ps_asg (pe_op op_mod (pe_callTy call_int1 (by rfl) T.b_int (by decide +kernel) (pa_cons (pe_op op_add (pe_ix ix_list (pv 1) (pv 2) (fun _ _ => rfl)) (pe_op op_mul (pe_ix ix_list (pv 1) (pe_op op_sub (pv 2) pe_int) (fun _ _ => rfl)) pe_int)) pa_nil)) pe_int)
          (pg_sub (pv 1) (pv 2) set_list))))
      (pss_one (ps_ret (pv 1))))), ?_⟩
    refine ⟨64, rfl, by decide, by decide, fun D hD => ?_⟩
    refine lc_range (lo := 0) (n := 64) (fun i H' => ∃ acc : List Int, H' D = some (.lst (acc.map V.int)) ∧ acc.length = i ∧ (∀ v ∈ acc, 0 ≤ v ∧ v < 2147483647) ∧ Same H H')
      ⟨[], upd_same, rfl, (fun _ h => nomatch h), same_upd hD⟩ (fun i H' hi ⟨acc, eD, el, eb, sm⟩ => ?_) (fun H' ⟨acc, eD, el, eb, sm⟩ => ?_)
    · refine ⟨rfl, yes_ ?_⟩
      refine ⟨_, rfl, _, _, rfl, rfl, _, eD, by rw [List.length_map]; exact small1000 (by omega), acc ++ [17 + (0 + (i : Int))], ?_, by rw [List.length_append, el]; rfl, fun v hv => ?_, same_put sm hD⟩
      · rw [upd_same, List.map_append]
        rfl
      · rcases List.mem_append.mp hv with h | h
        · exact eb v h
        · rw [List.mem_singleton.mp h]
          omega
    · refine ⟨_, rfl, a, ns.map V.int, rfl, sm.seq hS, for_it (walk_enum (xs := ns.map V.int)) (fun i σ H2 => ∃ (xs : List Int) (y2 y3 : Option V), σ = [some (.ref a), some (.ref D), y2, y3] ∧ Same H H2 ∧ H2 D = some (.lst (xs.map V.int)) ∧ Good xs)
        ⟨acc, none, none, rfl, sm, eD, ⟨el, eb⟩⟩ (fun i σ H2 _ ⟨xs, y2, y3, _, s2, _⟩ => s2.seq hS) (fun i x σ H2 H3 hi ⟨xs, y2, y3, eσ, s2, e2, g⟩ hy => ?_) (fun σ H2 ⟨xs, y2, y3, eσ, s2, e2, g⟩ => ?_)⟩
      · obtain ⟨Tt, x1, x2, rfl, nT, rfl, f1, f2⟩ := hy
        subst eσ
        obtain ⟨k, hk, k64⟩ := mod_nat (z := (i : Int))
        obtain ⟨v, hv, v0, v1⟩ := g.at xs k64
        have e1 : x1 = V.int (i : Int) := (Option.some.inj f1).symm
        obtain ⟨z, _, rfl⟩ := int_at f2
        subst e1
        have nDT : D ≠ Tt := ne_of_none e2 nT
        have e3 : upd H2 Tt (.tup [.int (i : Int), .int z]) D = some (.lst (xs.map V.int)) := by
          rw [upd_ne nDT]
          exact e2
        refine ⟨Tt, _, rfl, SqT.of upd_same, rfl, _, _, rfl, _, _, rfl, rfl, ?_⟩
        refine ⟨_, rfl, _, rfl, .inl ⟨_, rfl, _, _, rfl, rfl, (show (0 : Int) < 64 by decide), _, _, _, _, rfl, rfl, SqL.of e3, atI_of hk hv, ?_⟩⟩
        refine ⟨_, _, rfl, rfl, .inr (by decide), _, rfl, _, _, rfl, rfl, .inl ⟨_, rfl, _, _, rfl, rfl, (show (0 : Int) < 2147483647 by decide), ?_⟩⟩
        refine ⟨_, rfl, _, rfl, .inl ⟨_, rfl, _, _, rfl, rfl, (show (0 : Int) < 64 by decide), _, _, _, k, rfl, rfl, e3, ?_, ?_⟩⟩
        · rw [List.length_map, g.len]
          exact ixN_of hk k64
        · refine ⟨_, _, _, rfl, same_put (same_new s2 nT) hD, by rw [upd_same, map_set], g.set k _⟩
      · subst eσ
        refine ⟨1, 64, rfl, by decide, for_range (lo := 1) (n := 63) (fun i σ H3 => ∃ (xs : List Int) (y2 y3 : Option V), σ = [some (.ref a), some (.ref D), y2, y3] ∧ Same H H3 ∧ H3 D = some (.lst (xs.map V.int)) ∧ Good xs)
          ⟨xs, y2, y3, rfl, s2, e2, g⟩ (fun i σ H3 hi ⟨xs, y2, y3, eσ, s3, e3, g⟩ => ?_) (fun σ H3 ⟨xs, y2, y3, eσ, s3, e3, g⟩ => ?_)⟩
        · subst eσ
          obtain ⟨v, hv, v0, v1⟩ := g.at xs (k := i + 1) (by omega)
          obtain ⟨u, hu, u0, u1⟩ := g.at xs (k := i) (by omega)
          refine ⟨_, rfl, _, rfl, _, _, _, _, rfl, rfl, SqL.of e3, atI_of (k := i + 1) (by omega) hv, ?_⟩
          refine ⟨_, rfl, _, rfl, _, _, rfl, rfl, _, _, _, _, rfl, rfl, SqL.of e3, atI_of (k := i) (by omega) hu, ?_⟩
          refine ⟨_, _, rfl, rfl, .inr (by decide), _, _, rfl, rfl, .inl ⟨_, rfl, _, _, rfl, rfl, (show (0 : Int) < 2147483647 by decide), ?_⟩⟩
          refine ⟨_, rfl, _, rfl, _, _, _, i + 1, rfl, rfl, e3, ?_, ?_⟩
          · rw [List.length_map, g.len]
            exact ixN_of (by omega) (by omega)
          · exact ⟨_, _, _, rfl, same_put s3 hD, by rw [upd_same, map_set], g.set _ _⟩
        · subst eσ
          exact ⟨_, rfl, q _ _ _ s3 hD e3 g⟩
end
end XB
set_option Elab.async false
set_option linter.all false
set_option maxRecDepth 100000
set_option maxHeartbeats 4000000
namespace XB
open PySem PySem.Spec PyProof.Rows L2
/-! ### the draws' state: a dict of two rows and a number -/
abbrev kCells : Key := .inr "cells"
abbrev kGreat : Key := .inr "great"
abbrev kSpot : Key := .inr "spot"
def drawn (c g : Addr) (s : Int) : List (Key × V) := [(kCells, .ref c), (kGreat, .ref g), (kSpot, .int s)]
theorem drawn_spot (c g : Addr) (s : Int) : valV (drawn c g s) kSpot = some (.int s) := by rfl
theorem drawn_great (c g : Addr) (s : Int) : valV (drawn c g s) kGreat = some (.ref g) := by rfl
theorem drawn_cells (c g : Addr) (s : Int) : valV (drawn c g s) kCells = some (.ref c) := by rfl
theorem drawn_put (c g : Addr) (s z : Int) : putK (drawn c g s) kSpot (.int z) = drawn c g z := by rfl
structure Dr (H : Hp) (m c g : Addr) (s : Int) : Prop where
  ex : ∃ cs gs : List Int, H m = some (.dK (drawn c g s)) ∧ H c = some (.lst (cs.map V.int)) ∧ H g = some (.lst (gs.map V.int)) ∧ Good cs ∧ gs.length ≤ 1000
  ne : c ≠ g
  s0 : 0 ≤ s
/-- all but the draws' state stands -/
def Kp (m g : Addr) (H H' : Hp) : Prop := ∀ b o, b ≠ m → b ≠ g → H b = some o → H' b = some o
theorem Kp.refl {m g : Addr} {H : Hp} : Kp m g H H := fun _ _ _ _ e => e
theorem Kp.trans {m g : Addr} {H H1 H2 : Hp} (a : Kp m g H H1) (b : Kp m g H1 H2) : Kp m g H H2 := fun x o h1 h2 e => b x o h1 h2 (a x o h1 h2 e)
theorem Kp.of {m g : Addr} {H H1 : Hp} (a : Same H H1) : Kp m g H H1 := fun x o _ _ e => a x o e
theorem Kp.putM {m g : Addr} {H H1 : Hp} {o : HO} (a : Kp m g H H1) : Kp m g H (upd H1 m o) := fun x u h1 h2 e => by
  rw [upd_ne h1]
  exact a x u h1 h2 e
theorem Kp.putG {m g : Addr} {H H1 : Hp} {o : HO} (a : Kp m g H H1) : Kp m g H (upd H1 g o) := fun x u h1 h2 e => by
  rw [upd_ne h2]
  exact a x u h1 h2 e
theorem Kp.new {m g p : Addr} {H H1 : Hp} {o : HO} (a : Kp m g H H1) (hp : H1 p = none) : Kp m g H (upd H1 p o) := fun x u h1 h2 e => by
  rw [upd_ne (ne_of_none (a x u h1 h2 e) hp)]
  exact a x u h1 h2 e
theorem dpInts {K : PySem.W.Frag} {H : Hp} : ∀ gs : List Int, DpAll K H (gs.map V.int) (gs.map PyData.int)
  | [] => .nil
  | x :: r => .cons (.int x) (dpInts r)
theorem layInts : ∀ gs : List Int, PyData.canLayAll0 (gs.map PyData.int) = true
  | [] => rfl
  | x :: r => by
    show (PyData.canLay0 (.int x) && PyData.canLayAll0 (r.map PyData.int)) = true
    rw [layInts r]
    rfl
theorem deepInts : ∀ gs : List Int, PyData.depthAll (gs.map PyData.int) = 0
  | [] => rfl
  | x :: r => by
    show max (PyData.depth (.int x)) (PyData.depthAll (r.map PyData.int)) = 0
    rw [deepInts r]
    rfl
theorem shInts (gs : List Int) : SeqAt.shaped (.list (gs.map PyData.int)) = true := by
  show (PyData.canLayAll0 (gs.map PyData.int) && decide (PyData.depthAll (gs.map PyData.int) + 1 ≤ 64)) = true
  rw [layInts, deepInts]
  rfl
theorem neInts (gs : List Int) : PyData.eqv (.list (gs.map .int)) (.list []) = gs.isEmpty := by
  cases gs <;> rfl
section
variable {P : Program} {w : World} {K : PySem.W.Frag} {mg : Str → Option Value} {base : Heap}
def spDraw : Sp := fun vs H Q _ => ∃ (m c g : Addr) (s lim : Int), vs = [.ref m, .int lim] ∧ Dr H m c g s ∧ 0 < lim ∧ lim < 1073741824 ∧ s < 1073741824 ∧
  ∀ r H', 0 ≤ r → r < lim → Dr H' m c g (s + 1) → Kp m g H H' → Q (.int r) H'
theorem c_draw (T : Tx K mg) : Cl P w K mg base CX0 2 "_law_draw" spDraw := by
  refine cl0 T.d__law_draw (ps := ["m", "limit"]) (fun _ _ _ _ _ _ us hl => match us, hl with | [_, _], _ => rfl) sc__law_draw (fun vs H Q E h => ?_) (fun f cdv A outer st H vs Q E hr h => ?_)
  · obtain ⟨m, c, g, s, lim, rfl, _⟩ := h
    rfl
  · obtain ⟨m, c, g, s, lim, rfl, D, l0, l1, s1, q⟩ := h
    obtain ⟨⟨cs, gs, em, ec, eg, gc, gl⟩, ncg, s0⟩ := D
    have nd := sc__law_draw.nd
    have hu := hu_of hr
    refine ⟨_, pss_cons (ps_set (i := 2) nd rfl (.inl rfl) (pe_dget hu (pv 0) pe_str (fun _ _ => rfl)))
      (pss_cons (ps_dput hu (pv 0) pe_str (pe_op op_add (pv 2) pe_int) rfl)
      (C8.pss_cut (ps_if (pt_cmpR (op_neD hr.units) (pe_dget hu (pv 0) pe_str (fun _ _ => rfl)) (pe_lst pa_nil) (nomark _))
        (pss_cons (ps_set (i := 3) nd rfl (.inl rfl) (pe_dget hu (pv 0) pe_str (fun _ _ => rfl)))
        (pss_cons (ps_set (i := 4) nd rfl (.inl rfl) (pe_op op_mod (pe_callTy call_int1 (by rfl) T.b_int (by decide +kernel) (pa_cons (pv 2) pa_nil)) (pe_callB call_len_seq (by rfl) T.b_len PySem.boot_len (pa_cons (pv 3) pa_nil))))
        (pss_cons (ps_set (i := 5) nd rfl (.inl rfl) (pe_ix ix_list (pv 3) (pv 4) (fun _ _ => rfl)))
        (pss_one (ps_if (pt_cmpR op_gt (pv 5) pe_int (nomark _))
          (pss_cons (ps_asg (pe_op op_fdivW (pv 5) (pv 1)) (pg_sub (pv 3) (pv 4) set_list))
          (pss_one (ps_ret (pe_op op_mod (pe_callTy call_int1 (by rfl) T.b_int (by decide +kernel) (pa_cons (pv 5) pa_nil)) (pv 1))))) pss_nil)))))
        pss_nil)
      (pss_cons (ps_set (i := 3) nd rfl (.inl rfl) (pe_dget hu (pv 0) pe_str (fun _ _ => rfl)))
      (pss_one (ps_ret (pe_op op_mod (pe_callTy call_int1 (by rfl) T.b_int (by decide +kernel) (pa_cons
        (pe_k (c_mixed T) hr (by decide) (by rfl) (pa_cons
          (pe_k (c_mixed T) hr (by decide) (by rfl) (pa_cons (pe_op op_add (pe_ix ix_list (pv 3) (pe_op op_mod (pe_callTy call_int1 (by rfl) T.b_int (by decide +kernel) (pa_cons (pv 2) pa_nil)) pe_int) (fun _ _ => rfl)) (pe_op op_mul pe_int (pe_op op_fdiv (pv 2) pe_int))) (pa_cons (pv 2) pa_nil)))
          (pa_cons (pe_op op_add (pv 2) pe_int) pa_nil))) pa_nil)) (pv 1))))))), ?_⟩
    have nmc : m ≠ c := ne_of em ec (by intro z; cases z)
    have nmg : m ≠ g := ne_of em eg (by intro z; cases z)
    refine ⟨_, rfl, m, _, rfl, DGet.k (k := kSpot) em, ?_⟩
    refine ⟨_, rfl, _, _, rfl, rfl, _, rfl, m, _, rfl, DPut.k (k := kSpot) em (by show 3 < sizeLine; decide), ?_⟩
    have em1 : upd H m (.dK (putK (drawn c g s) kSpot (.int (s + 1)))) m = some (.dK (drawn c g (s + 1))) := upd_same
    generalize hH1 : upd H m (.dK (putK (drawn c g s) kSpot (.int (s + 1)))) = H1 at em1
    have ec1 : H1 c = some (.lst (cs.map V.int)) := by
      rw [← hH1, upd_ne nmc.symm]
      exact ec
    have eg1 : H1 g = some (.lst (gs.map V.int)) := by
      rw [← hH1, upd_ne nmg.symm]
      exact eg
    have k1 : Kp m g H H1 := by
      rw [← hH1]
      exact Kp.refl.putM
    refine ⟨fun σ H' => ∃ y3 y4 y5, σ = [some (.ref m), some (.int lim), some (.int s), y3, y4, y5] ∧ Dr H' m c g (s + 1) ∧ Kp m g H H', ?_, ?_⟩
    · refine ⟨_, rfl, m, _, rfl, DGet.k (k := kGreat) em1, Nat.zero_le _, fun p hp => ?_⟩
      have em2 := (same_upd (o := .lst []) hp) m _ em1
      have ec2 := (same_upd (o := .lst []) hp) c _ ec1
      have eg2 := (same_upd (o := .lst []) hp) g _ eg1
      have k2 : Kp m g H (upd H1 p (.lst [])) := k1.new hp
      have ep2 : upd H1 p (.lst []) p = some (.lst []) := upd_same
      generalize upd H1 p (.lst []) = H2 at em2 ec2 eg2 k2 ep2 ⊢
      refine ⟨.list (gs.map .int), .list [], .lst (SqL.of eg2) (dpInts gs), .lst (SqL.of ep2) .nil, shInts gs, rfl, _, rfl, ?_⟩
      refine ite2 (fun hne => ?_) (fun _ => ⟨_, _, _, rfl, ⟨⟨cs, gs, em2, ec2, eg2, gc, gl⟩, ncg, by omega⟩, k2⟩)
      have hpos : 0 < gs.length := by
        rw [neInts] at hne
        cases gs with
        | nil => exact absurd hne (by decide)
        | cons _ _ => exact Nat.succ_pos _
      refine ⟨_, rfl, m, _, rfl, DGet.k (k := kGreat) em2, ?_⟩
      refine ⟨_, rfl, .inl ⟨_, rfl, _, rfl, g, _, rfl, .inl (SqL.of eg2), _, _, rfl, rfl, ?_, ?_⟩⟩
      · show (0 : Int) < ((gs.map V.int).length : Int)
        rw [List.length_map]
        omega
      have h0 := Int.emod_nonneg s (b := ((gs.map V.int).length : Int)) (by rw [List.length_map]; omega)
      have h1 := Int.emod_lt_of_pos s (b := ((gs.map V.int).length : Int)) (by rw [List.length_map]; omega)
      rw [List.length_map] at h0 h1
      obtain ⟨k, hk⟩ : ∃ k : Nat, s % (gs.length : Int) = (k : Int) := ⟨(s % (gs.length : Int)).toNat, by omega⟩
      have hkl : k < gs.length := by omega
      have hk' : s % ((gs.map V.int).length : Int) = (k : Int) := by
        rw [List.length_map]
        exact hk
      refine ⟨_, rfl, _, rfl, _, _, _, _, rfl, rfl, SqL.of eg2, atI_of hk' (List.getElem?_eq_getElem hkl), ?_⟩
      refine ⟨_, rfl, _, _, rfl, rfl, _, rfl, ?_⟩
      refine ite2 (fun hp => ?_) (fun _ => ⟨_, _, _, rfl, ⟨⟨cs, gs, em2, ec2, eg2, gc, gl⟩, ncg, by omega⟩, k2⟩)
      refine ⟨_, rfl, _, rfl, _, _, rfl, rfl, wide_div l0 (b := 31) (by omega) (by decide) (by decide), ?_⟩
      refine ⟨_, rfl, _, rfl, _, _, _, k, rfl, rfl, eg2, ixN_of hk' (by rw [List.length_map]; exact hkl), ?_⟩
      refine ⟨_, rfl, .inl ⟨_, rfl, _, rfl, _, _, rfl, rfl, l0, ?_⟩⟩
      refine q _ _ (Int.emod_nonneg _ (by omega)) (Int.emod_lt_of_pos _ l0) ⟨⟨cs, _, ?_, ?_, by rw [upd_same, map_set], gc, by rw [List.length_set]; exact gl⟩, ncg, by omega⟩ k2.putG
      · rw [upd_ne nmg]
        exact em2
      · rw [upd_ne ncg]
        exact ec2
    · rintro σ H3 ⟨y3, y4, y5, rfl, ⟨⟨cs, gs, em3, ec3, eg3, gc3, gl3⟩, _, _⟩, k3⟩
      obtain ⟨k, hk, k64⟩ := mod_nat (z := s)
      obtain ⟨v, hv, v0, v1⟩ := gc3.at cs k64
      refine ⟨_, rfl, m, _, rfl, DGet.k (k := kCells) em3, ?_⟩
      refine ⟨_, rfl, _, rfl, .inl ⟨_, rfl, _, _, rfl, rfl, (show (0 : Int) < 64 by decide), _, _, _, _, rfl, rfl, SqL.of ec3, atI_of hk hv, ?_⟩⟩
      refine ⟨_, rfl, _, _, rfl, rfl, ⟨by decide, by decide⟩, _, _, rfl, rfl, .inl (by decide), _, _, rfl, rfl, ?_⟩
      refine ⟨_, rfl, _, _, rfl, by omega, by omega, s0, by omega, fun r1 a0 a1 => ?_⟩
      refine ⟨_, rfl, _, _, rfl, rfl, _, _, rfl, a0, by omega, by omega, by omega, fun r2 b0 b1 => ?_⟩
      refine .inl ⟨_, rfl, _, rfl, _, _, rfl, rfl, l0, ?_⟩
      exact q _ _ (Int.emod_nonneg _ (by omega)) (Int.emod_lt_of_pos _ l0) ⟨⟨cs, gs, em3, ec3, eg3, gc3, gl3⟩, ncg, by omega⟩ k3
end
end XB
set_option Elab.async false
set_option linter.all false
set_option maxRecDepth 100000
set_option maxHeartbeats 4000000
namespace XB
open PySem PySem.Spec PyProof.Rows L2
section
variable {P : Program} {w : World} {K : PySem.W.Frag} {mg : Str → Option Value} {base : Heap}
def spBegun (K : PySem.W.Frag) : Sp := fun vs H Q _ => ∃ (a : Addr) (ns : List Int), vs = [.ref a] ∧ SqL K H a (ns.map V.int) ∧ ns.length ≤ 1000 ∧
  ∀ H' m c g, Same H H' → H m = none → H c = none → H g = none → Dr H' m c g 0 → Q (.ref m) H'
theorem c_begun (T : Tx K mg) : Cl P w K mg base CX0 2 "_law_begun" (spBegun K) := by
  refine cl0 T.d__law_begun (ps := ["script"]) (fun _ _ _ _ _ _ us hl => match us, hl with | [_], _ => rfl) sc__law_begun (fun vs H Q E h => ?_) (fun f cdv A outer st H vs Q E hr h => ?_)
  · obtain ⟨a, ns, rfl, _⟩ := h
    rfl
  · obtain ⟨a, ns, rfl, hS, hlen, q⟩ := h
    have nd := sc__law_begun.nd
    have hu := hu_of hr
    refine ⟨_, pss_cons (ps_set (i := 1) nd rfl (.inl rfl) (pe_disp (pps_cons pe_str (pe_k (c_folded T) hr (by decide) (by rfl) (pa_cons (pv 0) pa_nil)) (pps_cons pe_str (pe_lst pa_nil) (pps_cons pe_str pe_int pps_nil))) (by rfl) (by rfl) (fun z => by cases z) (by decide)))
      (pss_cons (ps_dput hu (pv 1) pe_str (pe_lc (own := [("cell", 2)]) (g := gName 2) (tt := tYes) (by rfl) nd (pi_list (pv 0)) (blkOk_by (own := [("cell", 2)]) (N := ["script", "m", "cell"]) (sc := defScope s__law_begun) (by decide +kernel))
          (fun _ _ _ _ _ => pg_name (i := 2) nd rfl (Or.inl rfl)) (fun _ _ _ _ _ => pts_nil) (fun _ _ _ _ _ => pe_ifExp (pt_cmpR op_ge (pv 2) (pe_op op_pow pe_int pe_int) (nomark _)) (pv 2) pe_int)) rfl)
      (pss_one (ps_ret (pv 1)))), ?_⟩
    refine fun m hm => ?_
    have s1 : Same H (upd H m (.dK [])) := same_upd hm
    refine ⟨_, rfl, a, ns, rfl, s1.seq hS, hlen, fun H1 c cs sm nc ec gc => ?_⟩
    have hc0 : H c = none := s1.free nc
    have nmc : m ≠ c := fun e => by
      rw [← e, upd_same] at nc
      cases nc
    have em1 : H1 m = some (.dK []) := sm _ _ upd_same
    refine ⟨Nat.zero_le _, fun g0 hg0 => ?_⟩
    have em2 : upd H1 g0 (.lst []) m = some (.dK []) := (same_upd (o := .lst []) hg0) _ _ em1
    have ec2 : upd H1 g0 (.lst []) c = some (.lst (cs.map V.int)) := (same_upd (o := .lst []) hg0) _ _ ec
    have s2 : Same H (upd H1 g0 (.lst [])) := (s1.trans sm).trans (same_upd hg0)
    generalize upd H1 g0 (.lst []) = H2 at em2 ec2 s2 ⊢
    refine ⟨em2, [(kCells, .ref c), (kGreat, .ref g0), (kSpot, .int 0)], rfl, by show 3 ≤ 15; decide, ?_⟩
    have em3 : upd H2 m (.dK (mergeK [] [(kCells, .ref c), (kGreat, .ref g0), (kSpot, .int 0)])) m = some (.dK (drawn c g0 0)) := by
      rw [upd_same]
      rfl
    have ec3 : upd H2 m (.dK (mergeK [] [(kCells, .ref c), (kGreat, .ref g0), (kSpot, .int 0)])) c = some (.lst (cs.map V.int)) := by
      rw [upd_ne nmc.symm]
      exact ec2
    have s3 : Same H (upd H2 m (.dK (mergeK [] [(kCells, .ref c), (kGreat, .ref g0), (kSpot, .int 0)]))) := same_put s2 hm
    generalize upd H2 m (.dK (mergeK [] [(kCells, .ref c), (kGreat, .ref g0), (kSpot, .int 0)])) = H3 at em3 ec3 s3 ⊢
    refine ⟨_, rfl, a, rfl, ⟨_, s3.seq hS⟩, fun g hg => ?_⟩
    have hgH : H g = none := s3.free hg
    refine lc_list (K := K) (a := a) (xs := ns.map V.int) (fun i H' => ∃ acc : List Int, H' g = some (.lst (acc.map V.int)) ∧ acc.length = i ∧ Same H H' ∧ H' m = some (.dK (drawn c g0 0)) ∧ H' c = some (.lst (cs.map V.int)))
      ⟨[], upd_same, rfl, same_new s3 hg, (same_upd hg) _ _ em3, (same_upd hg) _ _ ec3⟩ (fun i H' _ ⟨_, _, _, s', _⟩ => s'.seq hS) (fun i x H' hi ⟨acc, eg, el, s', em', ec'⟩ => ?_) (fun H' ⟨acc, eg, el, s', em', ec'⟩ => ?_)
    · obtain ⟨z, hz, rfl⟩ := int_at hi
      have hil : i < ns.length := (List.getElem?_eq_some_iff.mp hz).1
      have nmg : m ≠ g := ne_of em' eg (by intro z; cases z)
      have ncg : c ≠ g := fun e => by
        rw [← e, ec3] at hg
        cases hg
      refine ⟨rfl, yes_ ?_⟩
      refine ⟨_, rfl, _, _, rfl, rfl, ⟨by decide, by decide, by decide⟩, _, _, rfl, rfl, _, rfl, ?_⟩
      have fin : ∀ y : Int, ∃ acc_1, H' g = some (.lst acc_1) ∧ acc_1.length < sizeLine ∧ ∃ acc2 : List Int, upd H' g (.lst (acc_1 ++ [V.int y])) g = some (.lst (acc2.map V.int)) ∧ acc2.length = i + 1 ∧ Same H (upd H' g (.lst (acc_1 ++ [V.int y]))) ∧
          upd H' g (.lst (acc_1 ++ [V.int y])) m = some (.dK (drawn c g0 0)) ∧ upd H' g (.lst (acc_1 ++ [V.int y])) c = some (.lst (cs.map V.int)) := fun y => by
        refine ⟨_, eg, by rw [List.length_map, el]; exact small1000 (by omega), acc ++ [y], ?_, by rw [List.length_append, el]; rfl, same_put s' hgH, ?_, ?_⟩
        · rw [upd_same, List.map_append]
          rfl
        · rw [upd_ne nmg]
          exact em'
        · rw [upd_ne ncg]
          exact ec'
      refine ite2 (fun _ => ?_) (fun _ => ?_)
      · exact ⟨_, rfl, fin z⟩
      · exact fin 0
    · have nmg : m ≠ g := ne_of em' eg (by intro z; cases z)
      have ncg : c ≠ g := fun e => by
        rw [← e, ec3] at hg
        cases hg
      refine ⟨_, rfl, m, _, rfl, DPut.k (k := kGreat) em' (by show 3 < sizeLine; decide), _, rfl, ?_⟩
      refine q _ m c g (same_put s' hm) hm hc0 hgH ⟨⟨cs, acc, ?_, ?_, ?_, gc, ?_⟩, ncg, Int.le_refl _⟩
      · rw [upd_same]
        rfl
      · rw [upd_ne nmc.symm]
        exact ec'
      · rw [upd_ne nmg.symm]
        exact eg
      · rw [el, List.length_map]
        exact hlen
end
end XB
set_option Elab.async false
set_option linter.all false
set_option maxRecDepth 100000
set_option maxHeartbeats 4000000
/-! promises of defs that may ask for repr: no repr runs around them -/
namespace XB
open PySem PySem.Spec PyProof.Rows L2
section
variable {P : Program} {w : World} {K : PySem.W.Frag} {mg : Str → Option Value} {base : Heap} {CX : CXT}
/-- a promise that is kept where no repr runs around -/
structure FnG (P : Program) (w : World) (K : PySem.W.Frag) (mg : Str → Option Value) (base : Heap) (CX : CXT) (lev : Nat) (at_ : Addr) (fdat : FuncData) (pars : List Str) (sp : Sp) : Prop where
  many : ∀ vs H Q E, sp vs H Q E → vs.length = pars.length
  goes : ∀ {A : Around} {outer : List Env} {s : Shared} {H : Hp} {args : Args} {us : List Value} {vs : List V} {Q : VK} {E : XK}, A.guards = some [] → Room lev A → Env0 P w K mg base A outer s H →
    BindsTo s fdat args (pars.zip us) → Vals vs us → sp vs H Q E → codeAny (model P w) A (.call (.ref at_) args) (CR CX outer P w H s Q E) s
theorem FnOk.toG {k : Nat} {f : Addr} {fd : FuncData} {ps : List Str} {sp : Sp} (F : FnOk P w K mg base CX k f fd ps sp) : FnG P w K mg base CX k f fd ps sp :=
  ⟨F.len, fun _ hr e0 hb r h => F.run _ _ _ _ _ _ _ _ _ hr e0 hb r h⟩
theorem FnG.mono {j k : Nat} {f : Addr} {fd : FuncData} {ps : List Str} {sp : Sp} (F : FnG P w K mg base CX j f fd ps sp) (h : j ≤ k) : FnG P w K mg base CX k f fd ps sp :=
  ⟨F.many, fun hg hr => F.goes hg (hr.mono h)⟩
/-- the def's body, where no repr runs around -/
theorem fng_of {k : Nat} {f : Addr} {nm ql : Str} {pars : Arguments} {bd : List Stmt} {sc : Scope} {d1 d2 d3 d4 cdv d5 d6 : Value} {o1 o2 : Option Addr} {osl : Array (Option Value)} {N ps : List Str} {sp : Sp}
    (lk : K.lookup f = some ⟨d6, o2, .func (PySem.W.fnOf nm ql pars bd sc d1 d2 d3 d4 o1 cdv d5), osl⟩) (hcd : PySem.W.codeIn K cdv ql = true) (S : FnScope N ps sc) (len : ∀ vs H Q E, sp vs H Q E → vs.length = ps.length)
    (hbody : ∀ (A : Around) (outer : List Env) (s : Shared) (H : Hp) (vs : List V) (Q : VK) (E : XK), A.guards = some [] → Room k (A.deeper (envOfC ql sc s.heap.objs.size f cdv)) → sp vs H Q E →
      ∃ t, PSs (cxOf CX P w K mg base N ql sc f cdv A outer s H E) bd t ∧ t { nx := fun _ H' => Q .non H', rt := Q } (start N vs) H) :
    FnG P w K mg base CX (k + 1) f (PySem.W.fnOf nm ql pars bd sc d1 d2 d3 d4 o1 cdv d5) ps sp := by
  constructor
  · exact len
  · intro A outer s H args us vs Q E hgu hr e0 hbd rel hsp
    have stays : ∀ b o, base.get? b = some o → s.heap.get? b = some o := fun b o e => (e0.bs b o e).1
    have KX : K.In s.heap := e0.mod.kin.keeps stays
    have kinds : ∀ y ∈ ps.zip us, sc.names.lookup y.1 = some .local ∨ (sc.names.lookup y.1 = some .cell ∧ ((cellsFrom (s.heap.objs.size + 1) sc.names []).lookup y.1).isSome = true) := by
      rintro ⟨x, v⟩ hy
      exact (S.par x (List.of_mem_zip hy).1).imp id fun q => ⟨q, PySem.W.cellsFrom_some _ _ _ (.inl q)⟩
    refine codeAny_call_function hr.depth (KX _ _ lk) rfl S.co S.gen rfl (PySem.W.codeRec_of KX hcd) (hbd _ _ _ _ ?_)
    refine wpAny_newFunctionEnv_cells S.kind kinds (fun env he s1 x => ?_)
    cases he
    refine ⟨(e0.mod.nolimit.keeps stays).keeps x.toInCall.keep, codeAny_func ?_⟩
    obtain ⟨t, ht, hq⟩ := hbody A outer s H vs Q E hgu (hr.deeper _) hsp
    have I := inv_start (CX := CX) (mg := mg) (base := base) (P := P) (w := w) (E := E) (cd := cdv) (f := f) (qual := ql) S hr.hd e0 (len _ _ _ _ hsp) rel x
    refine wpAny_mono (ht.run [] s1 _ H _ I hq) ?_ (fun _ _ z => z)
    rintro fl s' hs
    rcases fl with u | _ | _ | _ <;> first
      | (obtain ⟨v, σ', H', J, rv, q⟩ := hs; exact ⟨v, H', J.os, J.bare, J.base, J.hok, rv, q⟩)
      | (obtain ⟨σ', H', J, q⟩ := hs; first | exact ⟨V.non, H', J.os, J.bare, J.base, J.hok, rfl, q⟩ | exact False.elim q)
/-- a def that asks for repr, by its name -/
structure Cg (P : Program) (w : World) (K : PySem.W.Frag) (mg : Str → Option Value) (base : Heap) (CX : CXT) (k : Nat) (x : Str) (sp : Sp) : Prop where
  ex : ∃ (f : Addr) (fd : FuncData) (ps : List Str), FnG P w K mg base CX k f fd ps sp ∧ mg x = some (.ref f) ∧ PySem.W.keepIn K (.ref f) = true ∧ Binds K fd ps []
theorem Cl.toG {k : Nat} {x : Str} {sp : Sp} (c : Cl P w K mg base CX k x sp) : Cg P w K mg base CX k x sp := by
  obtain ⟨f, fd, ps, F, r⟩ := c.ex
  exact ⟨f, fd, ps, FnOk.toG F, r⟩
theorem cg0 {x : Str} {st : Stmt} {N ps : List Str} {k : Nat} {sp : Sp} (D : Dn K mg x st)
    (hb : ∀ (kV doc pm : Value) (an : Option Addr) (cdv ct : Value) (us : List Value), us.length = ps.length → bindArgs (PySem.W.fnOf x x (defArgs st) (defBody st) (defScope st) .none kV doc pm an cdv ct) ⟨us, []⟩ = pure (ps.zip us))
    (S : FnScope N ps (defScope st)) (len : ∀ vs H Q E, sp vs H Q E → vs.length = ps.length)
    (hbody : ∀ (f : Addr) (cdv : Value) (A : Around) (outer : List Env) (s : Shared) (H : Hp) (vs : List V) (Q : VK) (E : XK), (A.deeper (envOfC x (defScope st) s.heap.objs.size f cdv)).guards = some [] → Room k (A.deeper (envOfC x (defScope st) s.heap.objs.size f cdv)) → sp vs H Q E →
      ∃ t, PSs (cxOf CX0 P w K mg base N x (defScope st) f cdv A outer s H E).nox (defBody st) t ∧ t { nx := fun _ H' => Q .non H', rt := Q } (start N vs) H) : Cg P w K mg base CX0 (k + 1) x sp := by
  obtain ⟨f, fd, F, hm⟩ := D.ex
  obtain ⟨oc, od, kV, doc, pm, an, cdv, ct, osl, rfl, lk, hcd⟩ := id F.ex
  refine ⟨f, _, ps, fng_of lk hcd S len (fun A outer s H vs Q E hg hr h => ?_), hm, F.kp, F.binds hb⟩
  obtain ⟨t, ht, q⟩ := hbody f cdv A outer s H vs Q E hg hr h
  exact ⟨t, ht.nox, q⟩
end
section
variable {X : Cx} {k j : Nat} {x : Str} {sp : Sp} {p pos : Pos} {e : Expr} {es : List Expr} {t : TA}
theorem pe_g (c : Cg X.prog X.w X.K X.mg X.base CX0 k x sp) (hgu : X.A.guards = some []) (hr : Room j X.A) (hk : k ≤ j) (hg : Gl X x) (ha : PA X (e :: es) t)
    (hdb : (x == ("__debug__" : Str)) = false := by decide) (he : starEach (e :: es) X.env = (false, eval e X.env) :: starEach es X.env := by rfl) (hpl : (backTo pos (starEach es X.env)).any (·.1) = false := by rfl) :
    PE X (.Call (.Name x p) (e :: es) [] pos) (tCall sp [] E0 t) := by
  obtain ⟨f, fd, ps, F, hm, kp, b⟩ := c.ex
  constructor
  intro pins s σ H Q I h
  refine wpAny_Call_Name_kw (ld_glob I hg hm ?_ hdb)
  refine PySem.W.callWith_K (h₀ := X.base) I.ok.mod.kin kp (thn (ha.run pos pins s σ H _ I h) ?_) he hpl
  rintro us s1 ⟨vs, H1, I1, r, q⟩
  have q' : sp vs H1 Q E0 := by
    rw [List.append_nil] at q
    exact q
  have hl : us.length = ps.length := by
    rw [← r.length]
    exact F.many _ _ _ _ q'
  have bb := b s1 us I1.kIn (by rw [List.append_nil]; exact hl)
  rw [List.append_nil] at bb
  refine ⟨I1.kIn, wpAny_call (codeAny_mono (F.goes (outer := X.stack) (Q := Q) (E := E0) hgu (hr.mono hk) I1.env0 bb r q') ?_)⟩
  rintro (er | fl) s' hq
  · exact hq.elim
  · rcases fl with u | _ | _ | _ <;> first
      | exact I1.after hq
      | exact False.elim hq
/-- repr of data -/
theorem call_reprD (hgu : X.A.guards = some []) (hu : X.A.units + 70 < cLine) : CallR X (.builtin "repr") (fun xs H Q => ∃ x d, xs = [x] ∧ Dp X.K H x d ∧ d.showable = true ∧ d.hasDict = false ∧ d.depth ≤ 64 ∧ d.shown.length ≤ sizeLine ∧ Q (.str d.shown) H) := by
  intro pins s σ H xs us Q I r h
  obtain ⟨x, d, rfl, hd, hs, hnd, hdp, hz, q⟩ := h
  cases r with
  | cons rx rr =>
    cases rr
    obtain ⟨as, hr⟩ := Dp.reads I d x _ hd rx
    cases hr with
    | none => exact PySem.P.repr_of_none ⟨.str _, H, I.tok _, ⟨_, rfl⟩, q⟩
    | bool b => exact PySem.P.repr_of_bool ⟨.str _, H, I.tok _, ⟨_, rfl⟩, q⟩
    | int i t => exact PySem.P.repr_of_int (of_decide_eq_true hs) ⟨.str _, H, I.tok _, ⟨_, rfl⟩, q⟩
    | str z t => exact PySem.P.repr_of_str ⟨.str _, H, I.tok _, ⟨_, rfl⟩, q⟩ hz
    | list h1 h2 h3 h4 => exact repr_of_reads' (.list h1 h2 h3 h4) hs (fun z => by rw [hnd] at z; cases z) hgu (by omega) (fun _ _ e => e) (fun h' u tk k => ⟨.str _, H, I.kept k, ⟨_, rfl⟩, q⟩) hz
    | tuple h1 h2 h3 h4 => exact repr_of_reads' (.tuple h1 h2 h3 h4) hs (fun z => by rw [hnd] at z; cases z) hgu (by omega) (fun _ _ e => e) (fun h' u tk k => ⟨.str _, H, I.kept k, ⟨_, rfl⟩, q⟩) hz
    | dict h1 h2 h3 h4 h5 => cases hnd
end
end XB
set_option Elab.async false
set_option linter.all false
set_option maxRecDepth 100000
set_option maxHeartbeats 4000000
/-! further rules: enumerate of a tuple, min and max of two texts, the order of pairs of texts -/
namespace PySem
open Sem (wp)
open AutoSeq1 (wpAny_loadPart')
theorem XBmeets_enumT (l : Addr) (items : Array Value) :
    Meets (Builtin.«enumerate.__new__» ⟨[.type "enumerate", .ref l], []⟩) (fun _ R s => s.heap.IsTuple l items ∧
      R (.ok (.ret (.ref (s.heap.push { cls := .type "tuple_iterator", data := .fields #[.ref l, .int 0 0] }).objs.size)))
        { s with heap := (s.heap.push { cls := .type "tuple_iterator", data := .fields #[.ref l, .int 0 0] }).push { cls := .type "enumerate", data := .fields #[.none, .bool false, .ref s.heap.objs.size, rawInt 0, .none, .none] } }) :=
  .of_wp fun prog w A R s ⟨hT, hR⟩ => by
    obtain ⟨hp, gg, dd, tk, os⟩ := s
    have subE := sub_enumerate
    have hT' : Heap.IsTuple (Shared.heap ⟨hp, gg, dd, tk, os⟩) l items := hT
    have it_ : ∀ {A' : Around} {E : Value → Shared → Prop} {Q : Value → Shared → Prop}, Q (.ref hp.objs.size) ⟨hp.push { cls := .type "tuple_iterator", data := .fields #[.ref l, .int 0 0] }, gg, dd, tk, os⟩ → wpAny (model prog w) A' (pyIter (.ref l)) Q E ⟨hp, gg, dd, tk, os⟩ :=
      fun q => wpAny_pyIter_tuple hT' q
    wp_walk using it_
    refine wpAny_stack_any fun st => wpAny_pure ?_
    split
    · rename_i c _ _ _ _ _
      cases (c == Value.type "enumerate") <;> (wp_walk using it_; exact ⟨_, rfl, hR⟩)
    · wp_walk using it_
      exact ⟨_, rfl, hR⟩
section
variable {prog : Program} {w : World} {A : Around} {E : Value → Shared → Prop} {s : Shared}
theorem XBcall_enumT {l : Addr} {items : Array Value} {Q : Value → Shared → Prop} (hT : s.heap.IsTuple l items)
    (h : ∀ h', IsEnum h' (s.heap.objs.size + 1) s.heap.objs.size 0 .none → h'.IsTupleIter s.heap.objs.size l 0 → (∀ b o, s.heap.get? b = some o → h'.get? b = some o) → Q (.ref (s.heap.objs.size + 1)) { s with heap := h' }) :
    wpAny (model prog w) A (call (.type "enumerate") [.ref l]) Q E s := by
  refine callType_new F.called_enumerate (by decide) (F.typeCall_enumerate_1 _) (F.newCall_enumerate_1 _) (fun obj => F.args_object_init_2 obj _) F.entry_enumerate_new (XBmeets_enumT l items) ⟨hT, ?_⟩
  have hz : (s.heap.push { cls := .type "tuple_iterator", data := .fields #[.ref l, .int 0 0] }).objs.size = s.heap.objs.size + 1 := Heap.size_push ..
  show _ ∧ _
  rw [hz]
  have he := Heap.get?_push_size (s.heap.push { cls := .type "tuple_iterator", data := .fields #[.ref l, .int 0 0] }) (o := { cls := .type "enumerate", data := .fields #[.none, .bool false, .ref s.heap.objs.size, rawInt 0, .none, .none] }) rfl
  rw [hz] at he
  exact ⟨⟨_, he, rfl⟩, h _ he ⟨_, Heap.get?_push_of_some _ (Heap.get?_push_size _ rfl), rfl, rfl⟩ fun b o x => Heap.get?_push_of_some _ (Heap.get?_push_of_some _ x)⟩
end
end PySem
namespace XB
open PySem PySem.Spec PyProof.Rows L2
/-- the tuple at a, each item in a new pair with its number -/
def IeT (K : PySem.W.Frag) (a : Addr) : It where
  go := fun i H => ∃ (xs : List V) (x : V), SqT K H a xs ∧ xs[i]? = some x
  yld := fun i H v H' => ∃ T x, v = .ref T ∧ H T = none ∧ H' = upd H T (.tup [.int (i : Nat), x]) ∧ ∀ xs, SqT K H a xs → xs[i]? = some x
  stop := fun i H => ∃ xs : List V, SqT K H a xs ∧ xs.length = i
theorem turn_IeT {P : Program} {w : World} {K : PySem.W.Frag} {elts : List Expr} {kk : Nat} {tpos : Pos} (a e it : Addr) :
    Turn P w K (.Tuple elts kk tpos) (IeT K a) [e, it] e (fun i h => (∃ old, IsEnum h e it ((i : Nat) : Int) old) ∧ h.IsTupleIter it a i ∧ e ≠ it ∧ a ≠ it ∧ a ≠ e) where
  mem := List.mem_cons_self
  obj := fun i h st b hb => by
    obtain ⟨⟨old, he⟩, ⟨o, ho, hc, hd⟩, _⟩ := st
    rcases List.mem_cons.mp hb with rfl | hb
    · exact ⟨_, he, fun v q => nomatch q⟩
    · rw [List.mem_singleton.mp hb]
      exact ⟨o, ho, fun v q => by rw [hd] at q; cases q⟩
  keep := fun i h h' ⟨⟨old, he⟩, hi, r⟩ k => ⟨⟨old, k e List.mem_cons_self _ he⟩, hi.at fun o q => k it (by simp) o q, r⟩
  item := by
    intro X hP hw hK hc i pins s σ H E I hf st hg
    subst hP hw hK
    obtain ⟨⟨old, he⟩, hit, hne, nai, nae⟩ := st
    obtain ⟨xs, x, hq, hx⟩ := hg
    obtain ⟨its, rv, p, hz⟩ := I.tuple hq
    obtain ⟨u, hu, ru⟩ := rv.get hx
    have hel : e < s.heap.objs.size := Heap.lt_size he
    have hil : it < s.heap.objs.size := by
      obtain ⟨_, q, _⟩ := hit
      exact Heap.lt_size q
    have hlen : i < its.toArray.size := by
      rw [List.size_toArray]
      exact (List.getElem?_eq_some_iff.mp hu).1
    refine wpAny_pyNext_enum_itemD (Draws.tuple (prog := X.prog) (w := X.w) (A := X.A.in1) (I.ok.hd hc) it a nai its.toArray) he ⟨hit, p⟩ hlen hne (by simp [hne]; exact fun z => nae z.symm) fun v h' tk hv ho hs hT hsz hk => ?_
    have hv' : v = u := by
      rw [List.getElem?_toArray, hu] at hv
      exact (Option.some.inj hv).symm
    subst hv'
    refine ⟨_, rfl, wpAny_letOwnedTupleGo_enum (s := { s with heap := h', toks := tk + 1 }) ho fun h'' he' sb => ?_⟩
    have hT2 : h''.get? s.heap.objs.size = some { cls := .type "tuple", data := .seq #[.int i tk, v] } := (sb.2 _ (Nat.ne_of_gt hel)).trans hT
    have new : ObjOk X.prog X.w (upd H s.heap.objs.size (.tup [.int (i : Nat), x])) h'' s.heap.objs.size (.tup [.int (i : Nat), x]) :=
      ⟨by show 2 ≤ sizeLine; decide, [.int i tk, v], .cons ⟨_, rfl⟩ (.cons ru .nil), ⟨_, hT2, rfl, _, rfl⟩⟩
    have I1 := I.turnedNew (t' := tk + 1) (ch := [e, it]) (fun b ob hb q => (sb.2 b (fun z => hb (by simp [z]))).trans (hk b ob (fun z => hb (by simp [z])) (fun z => hb (by simp [z])) q)) hf (Nat.le_refl _) new
    refine ⟨.ref s.heap.objs.size, _, I1, rfl, ⟨_, x, rfl, I.hok.fresh (Nat.le_refl _), rfl, fun ys hy => by rw [I.tuple_inj hy hq]; exact hx⟩, ⟨⟨v, ?_⟩, hs.1.at fun o q => (sb.2 it (Ne.symm hne)).trans q, hne, nai, nae⟩, fun b hb => ?_⟩
    · rw [show ((i + 1 : Nat) : Int) = (i : Int) + 1 by omega]
      exact he'
    · have hb' : b < s.heap.objs.size := by
        rcases List.mem_cons.mp hb with rfl | z
        · exact hel
        · rw [List.mem_singleton.mp z]
          exact hil
      rw [upd_ne (Nat.ne_of_lt hb')]
      exact (hf b hb).1
  done := by
    intro X hP hw hK hc i pins s σ H E I hf st hg
    subst hP hw hK
    obtain ⟨⟨old, he⟩, hit, hne, nai, nae⟩ := st
    obtain ⟨xs, hq, hx⟩ := hg
    obtain ⟨its, rv, p, hz⟩ := I.tuple hq
    obtain ⟨f0, f1, f2, f3, f4, f5⟩ := hf it (by simp)
    have hsz : its.toArray.size = i := by
      rw [List.size_toArray, ← rv.length]
      exact hx
    refine wpAny_pyNext_enum_endD (Draws.tuple (prog := X.prog) (w := X.w) (A := X.A.in1) (I.ok.hd hc) it a nai its.toArray) he (by rw [hsz]; exact ⟨hit, p⟩) fun h' eb => ⟨rfl, I.turned (t' := s.toks) (fun b o hb q => eb b o hb q) f0 f1 f3 f4 f5⟩
  self := fun A i s Q E st h => let ⟨⟨_, he⟩, _⟩ := st; wpAny_pyIter_enum he h
def iEnT (K : PySem.W.Frag) (ta : TA) : TI := fun σ H R => ta σ H fun vs H1 => ∃ a xs, vs = [.ref a] ∧ SqT K H1 a xs ∧ R (IeT K a) H1
/-- enumerate(t), t a tuple, to a target of several names -/
theorem pi_enumT {X : Cx} {e : Expr} {ta : TA} {p pos tpos : Pos} {elts : List Expr} {kk : Nat} (hg : Gl X "enumerate") (hm : X.mg "enumerate" = none) (ha : PA X [e] ta) (hs : starEach [e] X.env = [(false, eval e X.env)] := by rfl) :
    PI X (.Tuple elts kk tpos) (.Call (.Name "enumerate" p) [e] [] pos) (iEnT X.K ta) := by
  constructor
  intro pins s σ H R I h
  refine Call_ (ld_blt I hg hm boot_enumerate (PyProof.Rows.callWith_type1 (thn (ha.run pos pins s σ H _ I h) ?_) hs rfl))
  rintro us s1 ⟨vs, H1, I1, r1, a, xs, rfl, hq, q⟩
  cases r1 with
  | cons r rr =>
    cases rr
    cases r
    obtain ⟨its, rv, p', hz⟩ := I1.tuple hq
    refine XBcall_enumT p' fun h' he hit hk => wpAny_pyIter_enum he ?_
    have hal : a < s1.heap.objs.size := by
      obtain ⟨o, e1, _⟩ := p'
      exact Heap.lt_size e1
    have I2 : Inv X pins σ H1 { s1 with heap := h' } := I1.kept (t' := s1.toks) hk
    refine ⟨s1.heap.objs.size + 1, [s1.heap.objs.size + 1, s1.heap.objs.size], _, _, H1, rfl, I2, turn_IeT a (s1.heap.objs.size + 1) s1.heap.objs.size, ⟨⟨.none, he⟩, hit, Nat.succ_ne_self _, Nat.ne_of_lt hal, Nat.ne_of_lt (Nat.lt_succ_of_lt hal)⟩, fun b hb => ?_, q⟩
    have hle : s1.heap.objs.size ≤ b := by
      rcases List.mem_cons.mp hb with rfl | z
      · exact Nat.le_succ _
      · rw [List.mem_singleton.mp z]
        exact Nat.le_refl _
    exact I1.fpOk hle (I1.hok.fresh hle)
theorem walk_IeT {K : PySem.W.Frag} {a : Addr} {xs : List V} : Walk (IeT K a) xs.length (fun H => SqT K H a xs) (YPair (fun i => some (.int (i : Nat))) (fun i => xs[i]?)) := by
  refine ⟨fun i _ hi q => ⟨xs, xs[i], q, by simp [hi]⟩, fun _ q => ⟨xs, q, rfl⟩, fun i H v H' _ q y => ?_⟩
  obtain ⟨T, x, h1, h2, h3, h4⟩ := y
  exact ⟨T, .int (i : Nat), x, h1, h2, h3, rfl, h4 xs q⟩
/-! ### the order of texts -/
/-- the one text ahead of the other -/
def sLt (a b : Str) : Bool := decide (a.cps.toList < b.cps.toList)
theorem cmp_gt {prog : Program} {w : World} {A : Around} {a b : Str} {t u : Tok} : CmpOf prog w A .Gt (fun i v => (#[Value.str a t, Value.str b u] : Array Value)[i]? = some v) (fun i j => sLt ([a, b].getD j a) ([a, b].getD i a)) := fun i j vi vj s Q E hi hj h => by
  rcases i with _ | _ | i <;> rcases j with _ | _ | j <;> simp at hi hj
  all_goals (subst hi; subst hj; exact PySem.P.gt_str h)
theorem cmp_lt {prog : Program} {w : World} {A : Around} {a b : Str} {t u : Tok} : CmpOf prog w A .Lt (fun i v => (#[Value.str a t, Value.str b u] : Array Value)[i]? = some v) (fun i j => sLt ([a, b].getD i a) ([a, b].getD j a)) := fun i j vi vj s Q E hi hj h => by
  rcases i with _ | _ | i <;> rcases j with _ | _ | j <;> simp at hi hj
  all_goals (subst hi; subst hj; exact PyProof.Rows.lt_str h)
section
variable {prog : Program} {w : World} {A : Around} {E : Value → Shared → Prop} {s : Shared}
/-- the pair that min and max lay, walked -/
theorem two_walk {x y : Value} (hh : A.handled = none) {op : CmpOp} {bt : Nat → Nat → Bool} {Q : Value → Shared → Prop} (cmp : CmpOf prog w A.in1 op (fun i v => (#[x, y] : Array Value)[i]? = some v) bt)
    (h : ∀ v h' tk, (#[x, y] : Array Value)[argBest bt 1]? = some v → (∀ c o, s.heap.get? c = some o → h'.get? c = some o) → Q v { s with heap := h', toks := tk }) :
    wpAny (model prog w) A.in1 (pyIter (.ref s.heap.objs.size)) (fun it s₂ => ∃ I fp wr n P St bt, it = .ref I ∧ Walks prog w A.in1 I fp wr n P St ∧ St 0 s₂.heap ∧ (∀ b ∈ fp, b < s₂.heap.objs.size) ∧ 0 < n ∧ CmpOf prog w A.in1 op P bt ∧
      ∀ v h' tk, P (argBest bt (n - 1)) v → (∀ b o, b ∉ wr → s₂.heap.get? b = some o → h'.get? b = some o) → Q v { s₂ with heap := h', toks := tk }) E
      { s with heap := s.heap.push { cls := .type "tuple", data := .seq #[x, y] } } := by
  have hT : (s.heap.push { cls := .type "tuple", data := .seq #[x, y] }).IsTuple s.heap.objs.size #[x, y] := ⟨_, Heap.get?_push_size _ rfl, rfl, 0, rfl⟩
  have hsz : (s.heap.push { cls := .type "tuple", data := .seq #[x, y] }).objs.size = s.heap.objs.size + 1 := Heap.size_push ..
  refine wpAny_pyIter_tuple hT ?_
  refine ⟨(s.heap.push { cls := .type "tuple", data := .seq #[x, y] }).objs.size, [(s.heap.push { cls := .type "tuple", data := .seq #[x, y] }).objs.size, s.heap.objs.size], [(s.heap.push { cls := .type "tuple", data := .seq #[x, y] }).objs.size], 2, _, _, bt, rfl,
    Walks.tuple (A := A.in1) hh _ s.heap.objs.size (by rw [hsz]; exact Nat.ne_of_lt (Nat.lt_succ_self _)) #[x, y], ⟨⟨_, Heap.get?_push_size _ rfl, rfl, rfl⟩, hT.push _⟩, fun c hc => ?_, by decide, cmp, fun v h' tk hP hk => ?_⟩
  · show c < ((s.heap.push _).push _).objs.size
    rw [Heap.size_push, hsz]
    rcases List.mem_cons.mp hc with rfl | hc
    · rw [hsz]
      exact Nat.lt_succ_self _
    · rw [List.mem_singleton.mp hc]
      exact Nat.lt_succ_of_lt (Nat.lt_succ_self _)
  · refine h v h' tk hP fun c o e => hk c o (fun hm => ?_) (Heap.get?_push_of_some _ (Heap.get?_push_of_some _ e))
    have e2 := Heap.lt_size e
    rw [List.mem_singleton.mp hm, hsz] at e2
    exact Nat.lt_irrefl _ (Nat.lt_of_succ_lt e2)
end
section
variable {X : Cx}
theorem call_max2S (hc : X.calm = true) : CallR X (.builtin "max") (fun xs H Q => ∃ i j, xs = [.str i, .str j] ∧ Q (.str (if sLt i j then j else i)) H) := by
  intro pins s σ H xs us Q I r h
  obtain ⟨i, j, rfl, q⟩ := h
  obtain ⟨u, w', rfl, ⟨t, rfl⟩, ⟨t', rfl⟩⟩ := vals2 r
  refine call_max_two (two_walk (I.ok.hd hc) cmp_gt fun v h' tk hv k => ?_)
  refine ⟨_, H, I.kept k, ?_, q⟩
  have e : argBest (fun a b => sLt ([i, j].getD b i) ([i, j].getD a i)) 1 = if sLt i j then 1 else 0 := rfl
  rw [e] at hv
  cases hb : sLt i j
  · rw [hb] at hv
    exact ⟨t, (Option.some.inj hv).symm⟩
  · rw [hb] at hv
    exact ⟨t', (Option.some.inj hv).symm⟩
theorem call_min2S (hc : X.calm = true) : CallR X (.builtin "min") (fun xs H Q => ∃ i j, xs = [.str i, .str j] ∧ Q (.str (if sLt j i then j else i)) H) := by
  intro pins s σ H xs us Q I r h
  obtain ⟨i, j, rfl, q⟩ := h
  obtain ⟨u, w', rfl, ⟨t, rfl⟩, ⟨t', rfl⟩⟩ := vals2 r
  refine call_min_two (two_walk (I.ok.hd hc) cmp_lt fun v h' tk hv k => ?_)
  refine ⟨_, H, I.kept k, ?_, q⟩
  have e : argBest (fun a b => sLt ([i, j].getD a i) ([i, j].getD b i)) 1 = if sLt j i then 1 else 0 := rfl
  rw [e] at hv
  cases hb : sLt j i
  · rw [hb] at hv
    exact ⟨t, (Option.some.inj hv).symm⟩
  · rw [hb] at hv
    exact ⟨t', (Option.some.inj hv).symm⟩
/-- t < u, two pairs of texts -/
theorem op_ltSS (hu : X.A.units + 64 < cLine) : OpR X (compareOp .Lt) (fun x y H Q => ∃ p q a b c d, x = .ref p ∧ y = .ref q ∧ SqT X.K H p [.str a, .str b] ∧ SqT X.K H q [.str c, .str d] ∧ Q (.bl (if a == c then (if b == d then false else sLt b d) else sLt a c)) H) := by
  intro pins s σ H x y v u Q I rx ry h
  obtain ⟨p, q, a, b, c, d, rfl, rfl, hp, hq, h⟩ := h
  cases rx
  cases ry
  obtain ⟨its, r1, t1, _⟩ := I.tuple hp
  obtain ⟨jts, r2, t2, _⟩ := I.tuple hq
  obtain ⟨_, _, rfl, ⟨ta, rfl⟩, ⟨tb, rfl⟩⟩ := vals2 r1
  obtain ⟨_, _, rfl, ⟨tc, rfl⟩, ⟨td, rfl⟩⟩ := vals2 r2
  have L := Ob.RcOp.tuples_lt (A := X.A) (s := s) (e := fun j => [a == c, b == d].getD j false) (r := fun j => [sLt a c, sLt b d].getD j false) t1 t2 (by omega)
    (fun j h1 h2 => by
      rcases j with _ | _ | j
      · exact SeqAt.EqAt.str_str _ _ _ _
      · exact SeqAt.EqAt.str_str _ _ _ _
      · exact absurd h1 (by simp))
    (fun j h1 h2 _ => by
      rcases j with _ | _ | j
      · exact fun _ _ _ _ z => PyProof.Rows.lt_str z
      · exact fun _ _ _ _ z => PyProof.Rows.lt_str z
      · exact absurd h1 (by simp))
  exact L _ _ _ _ ⟨.bl _, H, I, rfl, h⟩
end
end XB
/-! piles as rows read from the last piece on: the action of steps on least piles -/
namespace XM
/-- what is asked of names: which touch, and an order -/
structure Ord (α : Type) [DecidableEq α] where
  tc : α → α → Bool
  lt : α → α → Bool
  refl : ∀ a, tc a a = true
  symm : ∀ a b, tc a b = tc b a
  irr : ∀ a, lt a a = false
  trans : ∀ a b c, lt a b = true → lt b c = true → lt a c = true
  tot : ∀ a b, a ≠ b → lt a b = false → lt b a = true
section
variable {α : Type} [DecidableEq α] (O : Ord α)
abbrev Row (α : Type) := List (α × Int)
/-- a piece of this name comes to lie on top: no other of its name is met, all that it might pass are less -/
def top (a : α) : Row α → Bool
  | [] => true
  | y :: r => if O.tc y.1 a then decide (y.1 ≠ a) else O.lt y.1 a && top a r
def ins (x : α × Int) : Row α → Row α
  | [] => [x]
  | y :: r => if y.1 = x.1 then (if y.2 + x.2 = 0 then r else (x.1, y.2 + x.2) :: r)
    else if O.tc y.1 x.1 then x :: y :: r
    else if O.lt y.1 x.1 && top O x.1 r then x :: y :: r else y :: ins x r
/-- a least pile, from the last piece on -/
def NF : Row α → Prop
  | [] => True
  | y :: r => y.2 ≠ 0 ∧ top O y.1 r = true ∧ NF r
variable {O}
theorem lt_of_not {a b : α} (h : O.tc a b = false) (n : O.lt a b = false) : O.lt b a = true :=
  O.tot a b (fun e => by rw [e, O.refl] at h; cases h) n
theorem lt_asym {a b : α} (h : O.lt a b = true) : O.lt b a = false := by
  cases e : O.lt b a
  · rfl
  · have := O.trans a b a h e
    rw [O.irr] at this
    cases this
theorem ne_of_apart {a b : α} (h : O.tc a b = false) : a ≠ b := fun e => by
  rw [e, O.refl] at h
  cases h
theorem top_same {a : α} {s : Int} {r : Row α} : top O a ((a, s) :: r) = false := by
  unfold top
  rw [if_pos (O.refl a)]
  simp
theorem top_touch {a : α} {y : α × Int} {r : Row α} (h : O.tc y.1 a = true) (n : y.1 ≠ a) : top O a (y :: r) = true := by
  unfold top
  rw [if_pos h]
  simpa using n
theorem top_apart {a : α} {y : α × Int} {r : Row α} (h : O.tc y.1 a = false) : top O a (y :: r) = (O.lt y.1 a && top O a r) := by
  show (if O.tc y.1 a then decide (y.1 ≠ a) else O.lt y.1 a && top O a r) = _
  rw [if_neg (by rw [h]; decide)]
theorem ins_same {a : α} {s u : Int} {r : Row α} : ins O (a, s) ((a, u) :: r) = if u + s = 0 then r else (a, u + s) :: r := by
  unfold ins
  rw [if_pos rfl]
theorem ins_touch {x y : α × Int} {r : Row α} (h : O.tc y.1 x.1 = true) (n : y.1 ≠ x.1) : ins O x (y :: r) = x :: y :: r := by
  unfold ins
  rw [if_neg n, if_pos h]
theorem ins_apart {x y : α × Int} {r : Row α} (h : O.tc y.1 x.1 = false) : ins O x (y :: r) = if O.lt y.1 x.1 && top O x.1 r then x :: y :: r else y :: ins O x r := by
  show (if y.1 = x.1 then _ else if O.tc y.1 x.1 then _ else _) = _
  rw [if_neg (ne_of_apart h), if_neg (by rw [h]; decide)]
theorem ins_top {x : α × Int} : ∀ {r : Row α}, top O x.1 r = true → ins O x r = x :: r
  | [], _ => rfl
  | y :: r, h => by
    cases hc : O.tc y.1 x.1
    · rw [top_apart hc] at h
      rw [ins_apart hc, if_pos h]
    · by_cases e : y.1 = x.1
      · unfold top at h
        rw [if_pos hc] at h
        simp [e] at h
      · exact ins_touch hc e
theorem apart_symm {a b : α} (h : O.tc a b = false) : O.tc b a = false := by rw [O.symm]; exact h
/-- what is put below the top does not bar another name that lay on top -/
theorem top_ins {z : α} {x : α × Int} (hx : O.tc x.1 z = false) : ∀ {r : Row α}, top O z r = true → top O x.1 r = false → top O z (ins O x r) = true
  | [], _, h => by cases h
  | w :: r, hz, h => by
    by_cases e : w.1 = x.1
    · obtain ⟨w1, w2⟩ := w
      obtain ⟨x1, x2⟩ := x
      have e : w1 = x1 := e
      subst e
      have hw : O.tc w1 z = false := hx
      rw [top_apart (y := (w1, w2)) hw] at hz
      rw [ins_same]
      by_cases h0 : w2 + x2 = 0
      · rw [if_pos h0]
        exact (Bool.and_eq_true_iff.mp hz).2
      · rw [if_neg h0, top_apart (y := (w1, w2 + x2)) hw]
        exact hz
    · cases hc : O.tc w.1 x.1
      · rw [top_apart hc] at h
        rw [ins_apart hc, if_neg (by rw [h]; decide)]
        cases hwz : O.tc w.1 z
        · rw [top_apart hwz] at hz ⊢
          obtain ⟨z1, z2⟩ := Bool.and_eq_true_iff.mp hz
          rw [z1, Bool.true_and]
          cases ht : top O x.1 r
          · exact top_ins hx z2 ht
          · rw [ins_top ht, top_apart hx, z2, Bool.and_true]
            rw [ht, Bool.and_true] at h
            exact O.trans _ _ _ (lt_of_not hc h) z1
        · have n : w.1 ≠ z := by
            intro q
            unfold top at hz
            rw [if_pos hwz] at hz
            simp [q] at hz
          exact top_touch hwz n
      · rw [top_touch hc e] at h
        cases h
theorem nf_ins {x : α × Int} (hx : x.2 ≠ 0) : ∀ {r : Row α}, NF O r → NF O (ins O x r)
  | [], _ => ⟨hx, rfl, True.intro⟩
  | w :: r, h => by
    obtain ⟨w0, wt, wr⟩ := h
    by_cases e : w.1 = x.1
    · obtain ⟨w1, w2⟩ := w
      obtain ⟨x1, x2⟩ := x
      have e : w1 = x1 := e
      subst e
      rw [ins_same]
      by_cases h0 : w2 + x2 = 0
      · rw [if_pos h0]
        exact wr
      · rw [if_neg h0]
        exact ⟨h0, wt, wr⟩
    · cases hc : O.tc w.1 x.1
      · rw [ins_apart hc]
        cases ht : O.lt w.1 x.1 && top O x.1 r
        · rw [if_neg (by decide)]
          refine ⟨w0, ?_, nf_ins hx wr⟩
          cases h2 : top O x.1 r
          · exact top_ins (apart_symm hc) wt h2
          · rw [h2, Bool.and_true] at ht
            rw [ins_top h2, top_apart (apart_symm hc), wt, Bool.and_true]
            exact lt_of_not hc ht
        · rw [if_pos rfl]
          exact ⟨hx, by rw [top_apart hc]; exact ht, w0, wt, wr⟩
      · rw [ins_touch hc e]
        exact ⟨hx, top_touch hc e, w0, wt, wr⟩
/-- if a put step frees the top for a name, it took away the piece on the very top -/
theorem freed {b : α} {x : α × Int} (hx : O.tc x.1 b = false) : ∀ {r : Row α}, NF O r → top O x.1 r = false → top O b r = false → top O b (ins O x r) = true →
    ∃ u r', r = (x.1, u) :: r' ∧ O.lt x.1 b = false
  | [], _, h, _, _ => by cases h
  | w :: r, hN, h1, h2, h3 => by
    obtain ⟨w0, wt, wr⟩ := hN
    by_cases e : w.1 = x.1
    · obtain ⟨w1, w2⟩ := w
      obtain ⟨x1, x2⟩ := x
      have e : w1 = x1 := e
      subst e
      refine ⟨w2, r, rfl, ?_⟩
      rw [ins_same] at h3
      rw [top_apart (y := (w1, w2)) hx] at h2
      by_cases h0 : w2 + x2 = 0
      · rw [if_pos h0] at h3
        rw [h3, Bool.and_true] at h2
        exact h2
      · rw [if_neg h0, top_apart (y := (w1, w2 + x2)) hx] at h3
        have h2' : (O.lt w1 b && top O b r) = false := h2
        have h3' : (O.lt w1 b && top O b r) = true := h3
        rw [h2'] at h3'
        cases h3'
    · cases hc : O.tc w.1 x.1
      · rw [top_apart hc] at h1
        rw [ins_apart hc, if_neg (by rw [h1]; decide)] at h3
        cases hwb : O.tc w.1 b
        · rw [top_apart hwb] at h2 h3
          obtain ⟨p1, p2⟩ := Bool.and_eq_true_iff.mp h3
          rw [p1, Bool.true_and] at h2
          have h4 : top O x.1 r = false := by
            cases q : top O x.1 r
            · rfl
            · rw [ins_top q, top_apart hx, h2, Bool.and_false] at p2
              cases p2
          obtain ⟨u, r', rfl, h5⟩ := freed hx wr h4 h2 p2
          rw [top_apart (y := (x.1, u)) (apart_symm hc)] at wt
          have q1 := (Bool.and_eq_true_iff.mp wt).1
          have q2 := O.trans _ _ _ q1 p1
          have q3 : O.lt x.1 b = true := q2
          rw [h5] at q3
          cases q3
        · have n : w.1 ≠ b := by
            intro q
            unfold top at h3
            rw [if_pos hwb] at h3
            simp [q] at h3
          rw [top_touch hwb n] at h2
          cases h2
      · rw [top_touch hc e] at h1
        cases h1
theorem freed_same {x : α × Int} : ∀ {r : Row α}, NF O r → top O x.1 r = false → top O x.1 (ins O x r) = true → ∃ u r', r = (x.1, u) :: r'
  | [], _, h, _ => by cases h
  | w :: r, hN, h1, h3 => by
    obtain ⟨w0, wt, wr⟩ := hN
    by_cases e : w.1 = x.1
    · exact ⟨w.2, r, by rw [← e]⟩
    · cases hc : O.tc w.1 x.1
      · rw [top_apart hc] at h1
        rw [ins_apart hc, if_neg (by rw [h1]; decide), top_apart hc] at h3
        obtain ⟨p1, p2⟩ := Bool.and_eq_true_iff.mp h3
        rw [p1, Bool.true_and] at h1
        obtain ⟨u, r', rfl⟩ := freed_same wr h1 p2
        rw [top_apart (y := (x.1, u)) (apart_symm hc)] at wt
        have q1 := (Bool.and_eq_true_iff.mp wt).1
        have q2 := lt_asym p1
        have q3 : O.lt x.1 w.1 = true := q1
        rw [q2] at q3
        cases q3
      · rw [top_touch hc e] at h1
        cases h1
/-- steps of names that are apart may be put in either order -/
theorem ins_comm {x y : α × Int} (hxy : O.tc x.1 y.1 = false) : ∀ {r : Row α}, NF O r → ins O x (ins O y r) = ins O y (ins O x r)
  | [], _ => by
    show ins O x [y] = ins O y [x]
    rw [ins_apart (apart_symm hxy), ins_apart hxy]
    show (if O.lt y.1 x.1 && true then [x, y] else [y, x]) = if O.lt x.1 y.1 && true then [y, x] else [x, y]
    cases h : O.lt y.1 x.1
    · rw [lt_of_not (apart_symm hxy) h]
      rfl
    · rw [lt_asym h]
      rfl
  | z :: r, hN => by
    have hyx := apart_symm hxy
    have key : ∀ {x y : α × Int}, O.tc x.1 y.1 = false → z.1 = x.1 → ins O x (ins O y (z :: r)) = ins O y (ins O x (z :: r)) := by
      intro x y hxy e
      obtain ⟨z1, z2⟩ := z
      obtain ⟨x1, x2⟩ := x
      have e : z1 = x1 := e
      subst e
      obtain ⟨_, zt, zr⟩ := hN
      have hzy : O.tc z1 y.1 = false := hxy
      rw [ins_apart (x := y) (y := (z1, z2)) hzy, ins_same]
      cases hB : O.lt z1 y.1 && top O y.1 r
      · rw [if_neg (by decide), ins_same]
        by_cases h0 : z2 + x2 = 0
        · rw [if_pos h0, if_pos h0]
        · rw [if_neg h0, if_neg h0, ins_apart (x := y) (y := (z1, z2 + x2)) hzy, if_neg (by rw [hB]; decide)]
      · rw [if_pos rfl, ins_apart (x := (z1, x2)) (y := y) (apart_symm hxy), if_neg (by rw [top_same (s := z2)]; simp), ins_same]
        by_cases h0 : z2 + x2 = 0
        · rw [if_pos h0, ins_top (Bool.and_eq_true_iff.mp hB).2]
        · rw [if_neg h0, ins_apart (x := y) (y := (z1, z2 + x2)) hzy, if_pos hB]
    by_cases ex : z.1 = x.1
    · exact key hxy ex
    by_cases ey : z.1 = y.1
    · exact (key hyx ey).symm
    obtain ⟨z0, zt, zr⟩ := hN
    have ih := ins_comm hxy zr
    have topx : ∀ {x y : α × Int}, O.tc x.1 y.1 = false → z.1 ≠ x.1 → z.1 ≠ y.1 → O.tc z.1 x.1 = true → ins O x (ins O y (z :: r)) = ins O y (ins O x (z :: r)) := by
      intro x y hxy ex ey hx
      have hyx := apart_symm hxy
      rw [ins_touch hx ex, ins_apart (x := y) (y := x) hxy]
      cases hT : top O y.1 (z :: r)
      · rw [if_neg (by simp)]
        have hy : O.tc z.1 y.1 = false := by
          cases q : O.tc z.1 y.1
          · rfl
          · rw [top_touch q ey] at hT
            cases hT
        rw [top_apart hy] at hT
        rw [ins_apart (x := y) (y := z) hy, if_neg (by rw [hT]; decide), ins_touch hx ex]
      · rw [ins_top hT, ins_apart (x := x) (y := y) hyx, top_touch hx ex, ins_touch hx ex]
        cases h : O.lt x.1 y.1
        · rw [lt_of_not hxy h]
          rfl
        · rw [lt_asym h]
          rfl
    cases hx : O.tc z.1 x.1
    · cases hy : O.tc z.1 y.1
      · -- z is apart from both
        have mixed : ∀ {x y : α × Int}, O.tc x.1 y.1 = false → O.tc z.1 x.1 = false → O.tc z.1 y.1 = false → (O.lt z.1 x.1 && top O x.1 r) = true → (O.lt z.1 y.1 && top O y.1 r) = false → ins O x (ins O y (z :: r)) = ins O y (ins O x (z :: r)) := by
          intro x y hxy hx hy hA hB
          have hyx := apart_symm hxy
          obtain ⟨a1, a2⟩ := Bool.and_eq_true_iff.mp hA
          rw [ins_apart (x := y) (y := z) hy, if_neg (by rw [hB]; decide), ins_apart (x := x) (y := z) hx (r := r), if_pos hA, ins_apart (x := y) (y := x) hxy, top_apart hy, hB, Bool.and_false, if_neg (by decide)]
          rw [ins_apart (x := y) (y := z) hy, if_neg (by rw [hB]; decide), ins_apart (x := x) (y := z) hx]
          have t : top O x.1 (ins O y r) = true := by
            cases q : top O y.1 r
            · exact top_ins hyx a2 q
            · rw [q, Bool.and_true] at hB
              rw [ins_top q, top_apart hyx, a2, Bool.and_true]
              exact O.trans _ _ _ (lt_of_not hy hB) a1
          rw [a1, t]
          rfl
        cases hA : O.lt z.1 x.1 && top O x.1 r
        · cases hB : O.lt z.1 y.1 && top O y.1 r
          · rw [ins_apart (x := y) (y := z) hy, if_neg (by rw [hB]; decide), ins_apart (x := x) (y := z) hx (r := r), if_neg (by rw [hA]; decide)]
            have no : ∀ {x y : α × Int}, O.tc x.1 y.1 = false → O.tc z.1 x.1 = false → (O.lt z.1 x.1 && top O x.1 r) = false → (O.lt z.1 y.1 && top O y.1 r) = false → (O.lt z.1 y.1 && top O y.1 (ins O x r)) = false := by
              intro x y hxy hx hA hB
              cases q : O.lt z.1 y.1 && top O y.1 (ins O x r)
              · rfl
              · obtain ⟨q1, q2⟩ := Bool.and_eq_true_iff.mp q
                rw [q1, Bool.true_and] at hB
                cases t : top O x.1 r
                · obtain ⟨u, r', rfl, h5⟩ := freed hxy zr t hB q2
                  rw [top_apart (y := (x.1, u)) (apart_symm hx)] at zt
                  have w1 : O.lt x.1 z.1 = true := (Bool.and_eq_true_iff.mp zt).1
                  rw [O.trans _ _ _ w1 q1] at h5
                  cases h5
                · rw [ins_top t, top_apart hxy, hB, Bool.and_false] at q2
                  cases q2
            rw [ins_apart (x := x) (y := z) hx, if_neg (by rw [no hyx hy hB hA]; decide), ins_apart (x := y) (y := z) hy, if_neg (by rw [no hxy hx hA hB]; decide), ih]
          · exact (mixed hyx hy hx hB hA).symm
        · cases hB : O.lt z.1 y.1 && top O y.1 r
          · exact mixed hxy hx hy hA hB
          · rw [ins_apart (x := y) (y := z) hy, if_pos hB, ins_apart (x := x) (y := z) hx (r := r), if_pos hA, ins_apart (x := x) (y := y) hyx, ins_apart (x := y) (y := x) hxy, top_apart hx, top_apart hy, hA, hB, ins_apart (x := x) (y := z) hx, if_pos hA, ins_apart (x := y) (y := z) hy, if_pos hB]
            cases h : O.lt x.1 y.1
            · rw [lt_of_not hxy h]
              rfl
            · rw [lt_asym h]
              rfl
      · exact (topx hyx ey ex hy).symm
    · exact topx hxy ex ey hx
/-- two steps of one name are one, or none -/
theorem ins_join {a : α} {s t : Int} (hs : s ≠ 0) (ht : t ≠ 0) : ∀ {r : Row α}, NF O r → ins O (a, t) (ins O (a, s) r) = if s + t = 0 then r else ins O (a, s + t) r
  | [], _ => by
    show ins O (a, t) [(a, s)] = _
    rw [ins_same]
    rfl
  | (c, u) :: r, hN => by
    obtain ⟨u0, zt, zr⟩ := hN
    have u0 : u ≠ 0 := u0
    by_cases e : c = a
    · subst e
      rw [ins_same, ins_same]
      by_cases h0 : u + s = 0
      · rw [if_pos h0, ins_top (x := (c, t)) zt]
        by_cases h1 : s + t = 0
        · rw [if_pos h1, show t = u by omega]
        · rw [if_neg h1, if_neg (by omega), show u + (s + t) = t by omega]
      · rw [if_neg h0, ins_same]
        by_cases h1 : s + t = 0
        · rw [if_pos h1, if_neg (by omega), show u + s + t = u by omega]
        · rw [if_neg h1]
          by_cases h2 : u + s + t = 0
          · rw [if_pos h2, if_pos (by omega)]
          · rw [if_neg h2, if_neg (by omega), Int.add_assoc]
    · cases hc : O.tc c a
      · rw [ins_apart (x := (a, s)) (y := (c, u)) hc, ins_apart (x := (a, s + t)) (y := (c, u)) hc]
        cases hA : O.lt c a && top O a r
        · rw [if_neg (by decide), ins_apart (x := (a, t)) (y := (c, u)) hc]
          have no : (O.lt c a && top O a (ins O (a, s) r)) = false := by
            cases q : O.lt c a && top O a (ins O (a, s) r)
            · rfl
            · obtain ⟨q1, q2⟩ := Bool.and_eq_true_iff.mp q
              rw [q1, Bool.true_and] at hA
              obtain ⟨v, r', rfl⟩ := freed_same (x := (a, s)) zr hA q2
              rw [top_apart (y := (a, v)) (apart_symm hc)] at zt
              have w1 : O.lt a c = true := (Bool.and_eq_true_iff.mp zt).1
              rw [lt_asym q1] at w1
              cases w1
          rw [if_neg (show ¬ ((O.lt c a && top O a (ins O (a, s) r)) = true) by rw [no]; decide), ins_join hs ht zr]
          by_cases h1 : s + t = 0
          · rw [if_pos h1, if_pos h1]
          · rw [if_neg h1, if_neg h1, if_neg Bool.false_ne_true]
        · rw [if_pos rfl, if_pos rfl, ins_same]
      · rw [ins_touch (x := (a, s)) (y := (c, u)) hc e, ins_touch (x := (a, s + t)) (y := (c, u)) hc e, ins_same]
end
end XM
set_option linter.all false
namespace XM
section
variable {α : Type} [DecidableEq α] (O : Ord α)
/-- steps put on a least pile, one after another -/
def act (l r : Row α) : Row α := l.foldl (fun r x => ins O x r) r
def NZ (l : Row α) : Prop := ∀ x ∈ l, x.2 ≠ 0
/-- the next step of this name that can come together with one ahead -/
def near (a : α) : Row α → Option Nat
  | [] => none
  | y :: r => if y.1 = a then some 0 else if O.tc y.1 a then none else (near a r).map (· + 1)
def pl : Row α → Bool
  | [] => true
  | x :: r => (near O x.1 r).isNone && pl r
def met : Row α → Option (Nat × Nat)
  | [] => none
  | x :: r => match near O x.1 r with
    | some d => some (0, d + 1)
    | none => (met r).map fun p => (p.1 + 1, p.2 + 1)
variable {O}
theorem NZ.app {l m : Row α} (h : NZ l) (g : NZ m) : NZ (l ++ m) := fun x hx => (List.mem_append.mp hx).elim (h x) (g x)
theorem NZ.left {l m : Row α} (h : NZ (l ++ m)) : NZ l := fun x hx => h x (List.mem_append_left _ hx)
theorem NZ.right {l m : Row α} (h : NZ (l ++ m)) : NZ m := fun x hx => h x (List.mem_append_right _ hx)
theorem act_nil {r : Row α} : act O [] r = r := rfl
theorem act_cons {x : α × Int} {l r : Row α} : act O (x :: l) r = act O l (ins O x r) := rfl
theorem act_app {l m r : Row α} : act O (l ++ m) r = act O m (act O l r) := List.foldl_append
theorem nf_act : ∀ {l r : Row α}, NZ l → NF O r → NF O (act O l r)
  | [], _, _, h => h
  | x :: l, r, z, h => nf_act (l := l) (fun y hy => z y (List.mem_cons_of_mem _ hy)) (nf_ins (z x List.mem_cons_self) h)
theorem nf_nz : ∀ {r : Row α}, NF O r → NZ r
  | [], _ => fun _ h => nomatch h
  | y :: r, h => fun x hx => (List.mem_cons.mp hx).elim (fun e => e ▸ h.1) (nf_nz h.2.2 x)
theorem act_swap {u v r : Row α} {x y : α × Int} (h : O.tc x.1 y.1 = false) (z : NZ u) (hN : NF O r) : act O (u ++ x :: y :: v) r = act O (u ++ y :: x :: v) r := by
  rw [act_app, act_app, act_cons, act_cons, act_cons, act_cons, ins_comm (apart_symm h) (nf_act z hN)]
/-- a step may be brought ahead of those that are apart from it -/
theorem act_move {x : α × Int} {v : Row α} : ∀ {p u r : Row α}, (∀ w ∈ p, O.tc w.1 x.1 = false) → NZ u → NZ p → NF O r → act O (u ++ (p ++ x :: v)) r = act O (u ++ (x :: (p ++ v))) r
  | [], _, _, _, _, _, _ => rfl
  | y :: p, u, r, hp, zu, zp, hN => by
    have e := act_move (x := x) (v := v) (p := p) (u := u ++ [y]) (r := r) (fun w hw => hp w (List.mem_cons_of_mem _ hw)) (zu.app fun w hw => zp w (by rw [List.mem_singleton.mp hw]; exact List.mem_cons_self)) (fun w hw => zp w (List.mem_cons_of_mem _ hw)) hN
    rw [List.append_assoc, List.append_assoc] at e
    have e2 : act O (u ++ (y :: p ++ x :: v)) r = act O (u ++ (y :: x :: (p ++ v))) r := e
    rw [e2, act_swap (hp y List.mem_cons_self) zu hN]
    rfl
/-- the two that can come together do -/
theorem act_meet {a : α} {s t : Int} {u m v r : Row α} (hm : ∀ w ∈ m, O.tc w.1 a = false) (hs : s ≠ 0) (ht : t ≠ 0) (zu : NZ u) (zm : NZ m) (hN : NF O r) :
    act O (u ++ (a, s) :: (m ++ (a, t) :: v)) r = act O (u ++ ((if s + t = 0 then [] else [(a, s + t)]) ++ (m ++ v))) r := by
  have e := act_move (x := (a, t)) (v := v) (p := m) (u := u ++ [(a, s)]) (r := r) hm (zu.app fun w hw => by rw [List.mem_singleton.mp hw]; exact hs) zm hN
  rw [List.append_assoc, List.append_assoc] at e
  have e2 : act O (u ++ (a, s) :: (m ++ (a, t) :: v)) r = act O (u ++ (a, s) :: (a, t) :: (m ++ v)) r := e
  rw [e2, act_app, act_app, act_cons, act_cons, ins_join hs ht (nf_act zu hN)]
  by_cases h : s + t = 0
  · rw [if_pos h, if_pos h, List.nil_append]
  · rw [if_neg h, if_neg h]
    rfl
theorem act_fix : ∀ {r : Row α}, NF O r → act O r.reverse [] = r
  | [], _ => rfl
  | y :: r, h => by
    rw [List.reverse_cons, act_app, act_fix h.2.2]
    exact ins_top h.2.1
/-- a least pile does what its steps did -/
theorem act_ins {x : α × Int} : ∀ {r q : Row α}, NF O r → x.2 ≠ 0 → NF O q → act O (ins O x r).reverse q = ins O x (act O r.reverse q)
  | [], _, _, _, _ => rfl
  | y :: r, q, h, hx, hq => by
    obtain ⟨y0, yt, yr⟩ := h
    have hQ : NF O (act O r.reverse q) := nf_act (fun w hw => nf_nz yr w (List.mem_reverse.mp hw)) hq
    by_cases e : y.1 = x.1
    · obtain ⟨y1, y2⟩ := y
      obtain ⟨x1, x2⟩ := x
      have e : y1 = x1 := e
      subst e
      rw [ins_same, List.reverse_cons, act_app, act_cons, act_nil, ins_join y0 hx hQ]
      by_cases h0 : y2 + x2 = 0
      · rw [if_pos h0, if_pos h0]
      · rw [if_neg h0, if_neg h0, List.reverse_cons, act_app]
        rfl
    · have stay : act O (x :: y :: r).reverse q = ins O x (act O (y :: r).reverse q) := by
        rw [List.reverse_cons, act_app]
        rfl
      cases hc : O.tc y.1 x.1
      · rw [ins_apart hc]
        cases hA : O.lt y.1 x.1 && top O x.1 r
        · rw [if_neg (by decide), List.reverse_cons, act_app, act_ins yr hx hq, List.reverse_cons, act_app]
          exact ins_comm hc hQ
        · rw [if_pos rfl]
          exact stay
      · rw [ins_touch hc e]
        exact stay
theorem act_self : ∀ {l q : Row α}, NZ l → NF O q → act O (act O l []).reverse q = act O l q := by
  intro l
  have gen : ∀ (n : Nat) (l q : Row α), l.length = n → NZ l → NF O q → act O (act O l []).reverse q = act O l q := by
    intro n
    induction n with
    | zero =>
      intro l q h _ _
      rw [List.length_eq_zero_iff.mp h]
      rfl
    | succ n ih =>
      intro l q h z hq
      obtain ⟨p, x, rfl⟩ : ∃ p x, l = p ++ [x] := ⟨l.dropLast, l.getLast (fun e => by rw [e] at h; cases h), (List.dropLast_concat_getLast _).symm⟩
      rw [act_app, act_app, act_cons, act_nil, act_cons, act_nil, act_ins (nf_act z.left (show NF O [] from True.intro)) (z x (by simp)) hq, ih p q (by rw [List.length_append] at h; simpa using h) z.left hq]
  exact fun {q} => gen _ l q rfl
/-- the steps that take steps back -/
def back (l : Row α) : Row α := (l.map fun x => (x.1, -x.2)).reverse
theorem back_nz {l : Row α} (h : NZ l) : NZ (back l) := fun x hx => by
  obtain ⟨y, hy, rfl⟩ := List.mem_map.mp (List.mem_reverse.mp hx)
  have := h y hy
  show -y.2 ≠ 0
  omega
theorem act_back : ∀ {l r : Row α}, NZ l → NF O r → act O (back l) (act O l r) = r
  | [], _, _, _ => rfl
  | x :: l, r, z, h => by
    have hx := z x List.mem_cons_self
    have zl : NZ l := fun y hy => z y (List.mem_cons_of_mem _ hy)
    unfold back
    rw [List.map_cons, List.reverse_cons, act_app, act_cons, act_cons]
    have e := act_back zl (nf_ins hx h)
    unfold back at e
    rw [e, act_nil]
    have j := ins_join (O := O) (a := x.1) (s := x.2) (t := -x.2) hx (by omega) h
    rw [if_pos (by omega)] at j
    exact j
theorem back_back (l : Row α) : back (back l) = l := by
  unfold back
  rw [List.map_reverse, List.reverse_reverse, List.map_map]
  have e : ((fun x : α × Int => (x.1, -x.2)) ∘ fun x => (x.1, -x.2)) = id := by
    funext x
    show (x.1, - -x.2) = x
    rw [Int.neg_neg]
  rw [e, List.map_id]
/-- what makes the same pile is taken back alike -/
theorem act_back_eq {l m r : Row α} (zl : NZ l) (zm : NZ m) (h : act O l [] = act O m []) (hN : NF O r) : act O (back l) r = act O (back m) r := by
  have same : ∀ {q}, NF O q → act O l q = act O m q := fun {q} hq => by rw [← act_self zl hq, h, act_self zm hq]
  have e := act_back (back_nz zl) hN
  rw [back_back] at e
  have e2 := same (nf_act (back_nz zl) hN)
  rw [e] at e2
  have e3 := act_back zm (nf_act (back_nz zl) hN)
  rw [← e2] at e3
  exact e3.symm
/-! ### coming together -/
theorem near_none {a : α} : ∀ {m v : Row α}, (∀ w ∈ m, O.tc w.1 a = false) → (near O a (m ++ v)) = (near O a v).map (· + m.length)
  | [], v, _ => by
    show near O a v = (near O a v).map (· + 0)
    cases near O a v <;> rfl
  | y :: m, v, h => by
    have hy := h y List.mem_cons_self
    show (if y.1 = a then some 0 else if O.tc y.1 a then none else (near O a (m ++ v)).map (· + 1)) = _
    rw [if_neg (ne_of_apart hy), if_neg (by rw [hy]; decide), near_none (fun w hw => h w (List.mem_cons_of_mem _ hw))]
    cases near O a v <;> rfl
theorem near_some {a : α} : ∀ {r : Row α} {d : Nat}, near O a r = some d → ∃ m t v, r = m ++ (a, t) :: v ∧ m.length = d ∧ ∀ w ∈ m, O.tc w.1 a = false
  | [], _, h => by cases h
  | y :: r, d, h => by
    unfold near at h
    by_cases e : y.1 = a
    · rw [if_pos e] at h
      cases h
      exact ⟨[], y.2, r, by rw [← e]; rfl, rfl, fun _ h => nomatch h⟩
    · rw [if_neg e] at h
      cases hc : O.tc y.1 a
      · rw [hc, if_neg (by decide)] at h
        obtain ⟨d', hd, rfl⟩ := Option.map_eq_some_iff.mp h
        obtain ⟨m, t, v, rfl, hl, hm⟩ := near_some hd
        refine ⟨y :: m, t, v, rfl, by rw [List.length_cons, hl], fun w hw => ?_⟩
        rcases List.mem_cons.mp hw with rfl | hw
        · exact hc
        · exact hm w hw
      · rw [hc, if_pos rfl] at h
        cases h
theorem met_pl : ∀ {l : Row α}, met O l = none ↔ pl O l = true
  | [] => ⟨fun _ => rfl, fun _ => rfl⟩
  | x :: r => by
    unfold met pl
    cases near O x.1 r with
    | some d => simp
    | none =>
      simp only [Option.isNone_none, Bool.true_and, Option.map_eq_none_iff]
      exact met_pl
theorem met_some : ∀ {l : Row α} {i j : Nat}, met O l = some (i, j) → ∃ u a s m t v, l = u ++ (a, s) :: (m ++ (a, t) :: v) ∧ u.length = i ∧ i + 1 + m.length = j ∧ ∀ w ∈ m, O.tc w.1 a = false
  | [], _, _, h => by cases h
  | x :: r, i, j, h => by
    unfold met at h
    cases hn : near O x.1 r with
    | some d =>
      rw [hn] at h
      cases h
      obtain ⟨m, t, v, rfl, hl, hm⟩ := near_some hn
      exact ⟨[], x.1, x.2, m, t, v, rfl, rfl, by rw [hl]; omega, hm⟩
    | none =>
      rw [hn] at h
      obtain ⟨⟨i', j'⟩, h2, e⟩ := Option.map_eq_some_iff.mp h
      cases e
      obtain ⟨u, a, s, m, t, v, rfl, h3, h4, h5⟩ := met_some h2
      exact ⟨x :: u, a, s, m, t, v, rfl, by rw [List.length_cons, h3], by omega, h5⟩
/-! ### changes of neighbours that are apart -/
theorem near_swap {a : α} {x y : α × Int} (h : O.tc x.1 y.1 = false) {v : Row α} : ∀ {u : Row α}, (near O a (u ++ x :: y :: v)).isSome = (near O a (u ++ y :: x :: v)).isSome
  | [] => by
    show (near O a (x :: y :: v)).isSome = (near O a (y :: x :: v)).isSome
    have ne := ne_of_apart h
    simp only [near]
    by_cases ex : x.1 = a
    · have ey : y.1 ≠ a := fun q => ne (ex.trans q.symm)
      have ty : O.tc y.1 a = false := by rw [← ex]; exact apart_symm h
      rw [if_pos ex, if_neg ey, ty]
      simp [ex]
    · by_cases ey : y.1 = a
      · have tx : O.tc x.1 a = false := by rw [← ey]; exact h
        simp [ex, ey, tx]
      · cases tx : O.tc x.1 a <;> cases ty : O.tc y.1 a <;> simp [ex, ey]
  | z :: u => by
    have ih := near_swap (a := a) h (v := v) (u := u)
    show (near O a (z :: (u ++ x :: y :: v))).isSome = (near O a (z :: (u ++ y :: x :: v))).isSome
    simp only [near]
    by_cases ez : z.1 = a
    · simp [ez]
    · cases tz : O.tc z.1 a
      · simp [ez, ih]
      · simp [ez]
theorem pl_swap {x y : α × Int} (h : O.tc x.1 y.1 = false) {v : Row α} : ∀ {u : Row α}, pl O (u ++ x :: y :: v) = pl O (u ++ y :: x :: v)
  | [] => by
    have ne := ne_of_apart h
    show ((near O x.1 (y :: v)).isNone && ((near O y.1 v).isNone && pl O v)) = ((near O y.1 (x :: v)).isNone && ((near O x.1 v).isNone && pl O v))
    have e1 : (near O x.1 (y :: v)).isNone = (near O x.1 v).isNone := by
      simp [near, Ne.symm ne, apart_symm h]
    have e2 : (near O y.1 (x :: v)).isNone = (near O y.1 v).isNone := by
      simp [near, ne, h]
    rw [e1, e2, ← Bool.and_assoc, ← Bool.and_assoc, Bool.and_comm (near O x.1 v).isNone]
  | z :: u => by
    have ih := pl_swap h (v := v) (u := u)
    have e := near_swap (a := z.1) h (v := v) (u := u)
    show ((near O z.1 (u ++ x :: y :: v)).isNone && pl O (u ++ x :: y :: v)) = ((near O z.1 (u ++ y :: x :: v)).isNone && pl O (u ++ y :: x :: v))
    rw [ih]
    congr 1
    cases h1 : near O z.1 (u ++ x :: y :: v) <;> cases h2 : near O z.1 (u ++ y :: x :: v) <;> rw [h1, h2] at e <;> first | rfl | cases e
theorem near_move {a : α} {x : α × Int} {v : Row α} : ∀ {p u : Row α}, (∀ w ∈ p, O.tc w.1 x.1 = false) → (near O a (u ++ (p ++ x :: v))).isSome = (near O a (u ++ (x :: (p ++ v)))).isSome
  | [], _, _ => rfl
  | y :: p, u, h => by
    have e := near_move (a := a) (x := x) (v := v) (p := p) (u := u ++ [y]) fun w hw => h w (List.mem_cons_of_mem _ hw)
    rw [List.append_assoc, List.append_assoc] at e
    exact Eq.trans e (near_swap (h y List.mem_cons_self))
theorem pl_move {x : α × Int} {v : Row α} : ∀ {p u : Row α}, (∀ w ∈ p, O.tc w.1 x.1 = false) → pl O (u ++ (p ++ x :: v)) = pl O (u ++ (x :: (p ++ v)))
  | [], _, _ => rfl
  | y :: p, u, h => by
    have e := pl_move (x := x) (v := v) (p := p) (u := u ++ [y]) fun w hw => h w (List.mem_cons_of_mem _ hw)
    rw [List.append_assoc, List.append_assoc] at e
    exact Eq.trans e (pl_swap (h y List.mem_cons_self))
theorem pl_right : ∀ {u v : Row α}, pl O (u ++ v) = true → pl O v = true
  | [], _, h => h
  | x :: u, v, h => pl_right (u := u) (Bool.and_eq_true_iff.mp (show ((near O x.1 (u ++ v)).isNone && pl O (u ++ v)) = true from h)).2
theorem pl_ne {x y : α × Int} {u v q : Row α} (h : pl O (u ++ y :: (v ++ x :: q)) = true) (hv : ∀ w ∈ v, O.tc w.1 x.1 = false) : y.1 ≠ x.1 := fun e => by
  have h1 := (Bool.and_eq_true_iff.mp (show ((near O y.1 (v ++ x :: q)).isNone && pl O (v ++ x :: q)) = true from pl_right h)).1
  rw [e, near_none hv] at h1
  simp [near] at h1
/-! ### sorting a pile -/
/-- where least names came first -/
structure Srt (O : Ord α) (found left : Row α) : Prop where
  own : ∀ u y v z q, found = u ++ y :: (v ++ z :: q) → O.tc y.1 z.1 = false → (∀ w ∈ v, O.tc w.1 z.1 = false) → O.lt y.1 z.1 = true
  out : ∀ u y v p z q, found = u ++ y :: v → left = p ++ z :: q → O.tc y.1 z.1 = false → (∀ w ∈ v, O.tc w.1 z.1 = false) → (∀ w ∈ p, O.tc w.1 z.1 = false) → O.lt y.1 z.1 = true
theorem Srt.nil (left : Row α) : Srt O [] left := ⟨fun u y v z q h => by simp at h, fun u y v p z q h => by simp at h⟩
/-- the least of those that can stand first -/
structure LeastFirst (O : Ord α) (p : Row α) (x : α × Int) (q : Row α) : Prop where
  free : ∀ w ∈ p, O.tc w.1 x.1 = false
  least : ∀ p' z q', p ++ x :: q = p' ++ z :: q' → (∀ w ∈ p', O.tc w.1 z.1 = false) → z.1 ≠ x.1 → O.lt x.1 z.1 = true
theorem split_end {u v : Row α} {y x : α × Int} {l : Row α} (h : l ++ [x] = u ++ y :: v) : (v = [] ∧ l = u ∧ x = y) ∨ ∃ v', v = v' ++ [x] ∧ l = u ++ y :: v' := by
  rcases List.eq_nil_or_concat v with rfl | ⟨v', z, rfl⟩
  · left
    have := List.append_inj' h rfl
    exact ⟨rfl, this.1, by simpa using this.2⟩
  · right
    rw [List.concat_eq_append] at h ⊢
    have h' : l ++ [x] = (u ++ y :: v') ++ [z] := by rw [h]; simp
    have := List.append_inj' h' rfl
    have e : x = z := by simpa using this.2
    exact ⟨v', by rw [e], this.1⟩
theorem Srt.step {found p q : Row α} {x : α × Int} (S : Srt O found (p ++ x :: q)) (L : LeastFirst O p x q) : Srt O (found ++ [x]) (p ++ q) := by
  constructor
  · intro u y v z r h hyz hv
    have h' : found ++ [x] = (u ++ y :: v) ++ z :: r := by rw [h]; simp
    rcases split_end h' with ⟨rfl, e1, e2⟩ | ⟨r', rfl, e1⟩
    · subst e2
      exact S.out u y v p x q e1 rfl hyz hv L.free
    · exact S.own u y v z r' (by rw [e1]; simp) hyz hv
  · intro u y v p' z q' h h2 hyz hv hp'
    -- z in the row with x
    have place : (∃ q1, p = p' ++ z :: q1) ∨ (∃ q1, q = q1 ++ z :: q' ∧ p' = p ++ q1) := by
      rcases List.append_eq_append_iff.mp h2 with ⟨as, e1, e2⟩ | ⟨bs, e1, e2⟩
      · exact .inr ⟨as, e2, e1⟩
      · cases bs with
        | nil => exact .inr ⟨[], by simpa using e2.symm, by simpa using e1.symm⟩
        | cons b bs =>
          rw [List.cons_append] at e2
          injection e2 with e3 e4
          subst e3
          exact .inl ⟨bs, e1⟩
    rcases split_end h with ⟨rfl, e1, e2⟩ | ⟨v', rfl, e1⟩
    · subst e2
      rcases place with ⟨q1, rfl⟩ | ⟨q1, rfl, rfl⟩
      · exact L.least p' z (q1 ++ x :: q) (by simp) hp' (fun e => by rw [e, O.refl] at hyz; cases hyz)
      · refine L.least (p ++ x :: q1) z q' (by simp) (fun w hw => ?_) (fun e => by rw [e, O.refl] at hyz; cases hyz)
        rcases List.mem_append.mp hw with hw | hw
        · exact hp' w (List.mem_append_left _ hw)
        · rcases List.mem_cons.mp hw with rfl | hw
          · exact hyz
          · exact hp' w (List.mem_append_right _ hw)
    · have hx : O.tc x.1 z.1 = false := hv x (by simp)
      have hv' : ∀ w ∈ v', O.tc w.1 z.1 = false := fun w hw => hv w (List.mem_append_left _ hw)
      rcases place with ⟨q1, rfl⟩ | ⟨q1, rfl, rfl⟩
      · exact S.out u y v' p' z (q1 ++ x :: q) e1 (by simp) hyz hv' hp'
      · refine S.out u y v' (p ++ x :: q1) z q' e1 (by simp) hyz hv' fun w hw => ?_
        rcases List.mem_append.mp hw with hw | hw
        · exact hp' w (List.mem_append_left _ hw)
        · rcases List.mem_cons.mp hw with rfl | hw
          · exact hx
          · exact hp' w (List.mem_append_right _ hw)
theorem top_of {a : α} : ∀ {r : Row α}, (∀ v' y u', r = v' ++ y :: u' → (∀ w ∈ v', O.tc w.1 a = false) → O.tc y.1 a = false → O.lt y.1 a = true) → (∀ v' y u', r = v' ++ y :: u' → (∀ w ∈ v', O.tc w.1 a = false) → y.1 ≠ a) → top O a r = true
  | [], _, _ => rfl
  | y :: r, h1, h2 => by
    cases hc : O.tc y.1 a
    · rw [top_apart hc, h1 [] y r rfl (fun _ h => nomatch h) hc, Bool.true_and]
      refine top_of (fun v' z u' e hv hz => h1 (y :: v') z u' (by rw [e]; rfl) (fun w hw => ?_) hz) (fun v' z u' e hv => h2 (y :: v') z u' (by rw [e]; rfl) fun w hw => ?_)
      · rcases List.mem_cons.mp hw with rfl | hw
        · exact hc
        · exact hv w hw
      · rcases List.mem_cons.mp hw with rfl | hw
        · exact hc
        · exact hv w hw
    · exact top_touch hc (h2 [] y r rfl fun _ h => nomatch h)
/-- a pile in which least names came first is a least pile -/
theorem nf_of {left : Row α} : ∀ (n : Nat) (found : Row α), found.length = n → Srt O found left → pl O (found ++ left) = true → NZ found → NF O found.reverse := by
  intro n
  have pre : ∀ (n : Nat) (found : Row α) (tail : Row α), found.length = n → (∀ u y v z q, found = u ++ y :: (v ++ z :: q) → O.tc y.1 z.1 = false → (∀ w ∈ v, O.tc w.1 z.1 = false) → O.lt y.1 z.1 = true) → pl O (found ++ tail) = true → NZ found → NF O found.reverse := by
    intro n
    induction n with
    | zero =>
      intro found tail h _ _ _
      rw [List.length_eq_zero_iff.mp h]
      exact True.intro
    | succ n ih =>
      intro found tail h hS hP hZ
      obtain ⟨f, x, rfl⟩ : ∃ f x, found = f ++ [x] := ⟨found.dropLast, found.getLast (fun e => by rw [e] at h; cases h), (List.dropLast_concat_getLast _).symm⟩
      have hl : f.length = n := by
        rw [List.length_append] at h
        simpa using h
      rw [List.reverse_append]
      refine ⟨hZ x (by simp), ?_, ih f (x :: tail) hl (fun u y v z q e => hS u y v z (q ++ [x]) (by rw [e]; simp)) (by simpa using hP) hZ.left⟩
      refine top_of (fun v' y u' e hv hy => ?_) (fun v' y u' e hv => ?_)
      · have e2 : f = u'.reverse ++ y :: v'.reverse := by
          have := congrArg List.reverse e
          simpa using this
        exact hS u'.reverse y v'.reverse x [] (by rw [e2]; simp) hy fun w hw => hv w (List.mem_reverse.mp hw)
      · have e2 : f = u'.reverse ++ y :: v'.reverse := by
          have := congrArg List.reverse e
          simpa using this
        exact pl_ne (O := O) (x := x) (y := y) (u := u'.reverse) (v := v'.reverse) (q := tail) (by rw [e2] at hP; simpa using hP) fun w hw => hv w (List.mem_reverse.mp hw)
  intro found h S hP hZ
  exact pre n found left h S.own hP hZ
end
end XM
set_option linter.all false
namespace XM
section
variable {α : Type} [DecidableEq α] {O : Ord α}
theorem ins_len {x : α × Int} : ∀ {r : Row α}, (ins O x r).length ≤ r.length + 1
  | [] => Nat.le_refl _
  | y :: r => by
    have ih := ins_len (x := x) (r := r)
    unfold ins
    split
    · split <;> simp <;> omega
    · split
      · simp
      · split
        · simp
        · simp only [List.length_cons]
          omega
theorem act_len : ∀ {l r : Row α}, (act O l r).length ≤ l.length + r.length
  | [], r => by simp [act]
  | x :: l, r => by
    have h1 := act_len (l := l) (r := ins O x r)
    have h2 := ins_len (O := O) (x := x) (r := r)
    rw [act_cons, List.length_cons]
    omega
/-! ### those that can stand first -/
/-- the first of those that can stand first -/
theorem ex_least : ∀ (n : Nat) (left : Row α), left.length = n → left ≠ [] → ∃ p x q, left = p ++ x :: q ∧ LeastFirst O p x q := by
  intro n
  -- among the splits with a free item there is one of least name
  have gen : ∀ (k : Nat) (left : Row α) (p : Row α) (x : α × Int) (q : Row α), left = p ++ x :: q → (∀ w ∈ p, O.tc w.1 x.1 = false) →
      (left.filter fun y => O.lt y.1 x.1).length ≤ k → ∃ p x q, left = p ++ x :: q ∧ LeastFirst O p x q := by
    intro k
    induction k with
    | zero =>
      intro left p x q e hp hk
      refine ⟨p, x, q, e, hp, fun p' z q' e' hp' hn => ?_⟩
      cases h : O.lt x.1 z.1
      · have hz : O.lt z.1 x.1 = true := O.tot _ _ (fun e => hn e.symm) h
        have hm : z ∈ left.filter fun y => O.lt y.1 x.1 := List.mem_filter.mpr ⟨by rw [e, e']; simp, hz⟩
        rw [List.length_eq_zero_iff.mp (Nat.le_zero.mp hk)] at hm
        cases hm
      · rfl
    | succ k ih =>
      intro left p x q e hp hk
      by_cases hex : ∃ p' z q', left = p' ++ z :: q' ∧ (∀ w ∈ p', O.tc w.1 z.1 = false) ∧ O.lt z.1 x.1 = true
      · obtain ⟨p', z, q', e', hp', hz⟩ := hex
        refine ih left p' z q' e' hp' ?_
        have hlt : (left.filter fun y => O.lt y.1 z.1).length < (left.filter fun y => O.lt y.1 x.1).length := by
          have hsub : (left.filter fun y => O.lt y.1 z.1) = (left.filter fun y => O.lt y.1 x.1).filter fun y => O.lt y.1 z.1 := by
            rw [List.filter_filter]
            congr 1
            funext y
            cases h1 : O.lt y.1 z.1
            · rfl
            · rw [O.trans _ _ _ h1 hz]
              rfl
          rw [hsub]
          have hm : z ∈ left.filter fun y => O.lt y.1 x.1 := List.mem_filter.mpr ⟨by rw [e']; simp, hz⟩
          refine Nat.lt_of_le_of_ne (List.length_filter_le _ _) fun he => ?_
          have := List.length_filter_eq_length_iff.mp he z hm
          rw [O.irr] at this
          cases this
        omega
      · refine ⟨p, x, q, e, hp, fun p' z q' e' hp' hn => ?_⟩
        cases h : O.lt x.1 z.1
        · exact absurd ⟨p', z, q', by rw [e, e'], hp', O.tot _ _ (fun e => hn e.symm) h⟩ hex
        · rfl
  intro left h hne
  cases left with
  | nil => exact absurd rfl hne
  | cons x q => exact gen _ (x :: q) [] x q rfl (fun _ h => nomatch h) (Nat.le_refl _)
/-- each pile can be sorted -/
theorem sort_ex {l : Row α} (hP : pl O l = true) (hZ : NZ l) : ∃ f : Row α, NF O f.reverse ∧ act O f [] = act O l [] ∧ f.length = l.length ∧ ∀ a, (near O a f).isSome = (near O a l).isSome := by
  have go : ∀ (n : Nat) (found left : Row α), left.length = n → Srt O found left → pl O (found ++ left) = true → NZ (found ++ left) →
      ∃ f : Row α, NF O f.reverse ∧ act O f [] = act O (found ++ left) [] ∧ f.length = (found ++ left).length ∧ ∀ a, (near O a f).isSome = (near O a (found ++ left)).isSome := by
    intro n
    induction n with
    | zero =>
      intro found left h S P Z
      have e : left = [] := List.length_eq_zero_iff.mp h
      subst e
      rw [List.append_nil] at Z ⊢
      exact ⟨found, nf_of _ found rfl S P Z, rfl, rfl, fun _ => rfl⟩
    | succ n ih =>
      intro found left h S P Z
      obtain ⟨p, x, q, rfl, L⟩ := ex_least (O := O) _ left rfl (fun e => by rw [e] at h; cases h)
      have zf := Z.left
      have zp : NZ p := Z.right.left
      have e0 : found ++ x :: (p ++ q) = found ++ [x] ++ (p ++ q) := by simp
      have P' : pl O (found ++ [x] ++ (p ++ q)) = true := by rw [← e0, ← pl_move L.free]; exact P
      have Z' : NZ (found ++ [x] ++ (p ++ q)) := fun y hy => Z y (by
        simp only [List.mem_append, List.mem_cons, List.mem_nil_iff, or_false] at hy ⊢
        rcases hy with (hy | hy) | hy | hy <;> simp [hy])
      obtain ⟨f, h1, h2, h3, h4⟩ := ih (found ++ [x]) (p ++ q) (by rw [List.length_append] at h ⊢; simp at h; omega) (S.step L) P' Z'
      refine ⟨f, h1, h2.trans ?_, h3.trans ?_, fun a => (h4 a).trans ?_⟩
      · rw [← e0, act_move L.free zf zp (show NF O [] from True.intro)]
      · simp only [List.length_append, List.length_cons, List.length_nil]
        omega
      · rw [← e0, near_move L.free]
  have := go l.length [] l rfl (Srt.nil l) (by simpa using hP) (by simpa using hZ)
  simpa using this
theorem near_pile {l : Row α} (hP : pl O l = true) (hZ : NZ l) (a : α) : (near O a (act O l []).reverse).isSome = (near O a l).isSome := by
  obtain ⟨f, h1, h2, _, h4⟩ := sort_ex hP hZ
  have e : (act O l []).reverse = f := by
    have := act_fix h1
    rw [List.reverse_reverse] at this
    rw [← h2, this, List.reverse_reverse]
  rw [e]
  exact h4 a
/-- a row is a pile exactly if its pile has as many pieces -/
theorem pile_iff {l : Row α} (hZ : NZ l) : (act O l []).length = l.length ↔ met O l = none := by
  constructor
  · intro h
    cases hm : met O l with
    | none => rfl
    | some ij =>
      obtain ⟨u, a, s, m, t, v, rfl, _, _, h5⟩ := met_some hm
      have hs : s ≠ 0 := hZ (a, s) (by simp)
      have ht : t ≠ 0 := hZ (a, t) (by simp)
      have zu : NZ u := hZ.left
      have zm : NZ m := fun w hw => hZ w (by simp [hw])
      rw [act_meet h5 hs ht zu zm (show NF O [] from True.intro)] at h
      have hl := act_len (O := O) (l := u ++ ((if s + t = 0 then [] else [(a, s + t)]) ++ (m ++ v))) (r := [])
      rw [h] at hl
      simp only [List.length_append, List.length_cons, List.length_nil] at hl
      by_cases h0 : s + t = 0
      · rw [if_pos h0] at hl
        simp at hl
        omega
      · rw [if_neg h0] at hl
        simp at hl
        omega
  · intro h
    obtain ⟨f, h1, h2, h3, _⟩ := sort_ex (O := O) (met_pl.mp h) hZ
    have := act_fix h1
    rw [List.reverse_reverse] at this
    rw [← h2, this, List.length_reverse, h3]
theorem pl_nf : ∀ {r : Row α}, NF O r → pl O r.reverse = true := fun {r} h => by
  have hz : NZ r.reverse := fun x hx => nf_nz h x (List.mem_reverse.mp hx)
  refine met_pl.mp ((pile_iff hz).mp ?_)
  rw [act_fix h, List.length_reverse]
/-! ### the other way round -/
theorem near_map {a : α} {g : α × Int → α × Int} (hg : ∀ x, (g x).1 = x.1) : ∀ {l : Row α}, near O a (l.map g) = near O a l
  | [] => rfl
  | x :: l => by
    show (if (g x).1 = a then some 0 else if O.tc (g x).1 a then none else (near O a (l.map g)).map (· + 1)) = _
    rw [near_map hg, hg]
    rfl
/-- none of one name behind one of the same that could come to it: told from the end -/
theorem pl_rev : ∀ {l : Row α}, pl O l = true → pl O l.reverse = true := by
  have key : ∀ (l : Row α), (∀ u a s m t v, l = u ++ (a, s) :: (m ++ (a, t) :: v) → ∃ w ∈ m, O.tc w.1 a = true) ↔ pl O l = true := by
    intro l
    constructor
    · intro h
      refine met_pl.mp ?_
      cases hm : met O l with
      | none => rfl
      | some ij =>
        obtain ⟨u, a, s, m, t, v, e, _, _, h5⟩ := met_some hm
        obtain ⟨w, hw, h6⟩ := h u a s m t v e
        rw [h5 w hw] at h6
        cases h6
    · intro h u a s m t v e
      by_cases hex : ∃ w ∈ m, O.tc w.1 a = true
      · exact hex
      · exact absurd rfl (pl_ne (O := O) (x := (a, t)) (y := (a, s)) (u := u) (v := m) (q := v) (by rw [← e]; exact h) fun w hw => by
          cases q : O.tc w.1 a
          · rfl
          · exact absurd ⟨w, hw, q⟩ hex)
  intro l h
  refine (key _).mp fun u a s m t v e => ?_
  have e2 : l = v.reverse ++ (a, t) :: (m.reverse ++ (a, s) :: u.reverse) := by
    have := congrArg List.reverse e
    simpa using this
  obtain ⟨w, hw, hc⟩ := (key l).mpr h _ _ _ _ _ _ e2
  exact ⟨w, List.mem_reverse.mp hw, hc⟩
theorem pl_map {g : α × Int → α × Int} (hg : ∀ x, (g x).1 = x.1) : ∀ {l : Row α}, pl O (l.map g) = pl O l
  | [] => rfl
  | x :: l => by
    show ((near O (g x).1 (l.map g)).isNone && pl O (l.map g)) = _
    rw [near_map hg, hg, pl_map hg]
    rfl
/-- what can stand last in a pile can stand first in that of what takes back -/
theorem near_back {l : Row α} (hZ : NZ l) (a : α) : (near O a (act O (back l) []).reverse).isSome = (near O a (act O l [])).isSome := by
  have hN : NF O (act O l []) := nf_act hZ (show NF O [] from True.intro)
  have hz : NZ (act O l []).reverse := fun x hx => nf_nz hN x (List.mem_reverse.mp hx)
  have e : act O (back l) [] = act O (back (act O l []).reverse) [] := act_back_eq hZ hz (act_fix hN).symm (show NF O [] from True.intro)
  have hb : back (act O l []).reverse = (act O l []).map fun x => (x.1, -x.2) := by
    unfold back
    rw [List.map_reverse, List.reverse_reverse]
  have hp : pl O ((act O l []).map fun x => (x.1, -x.2)) = true := by
    rw [pl_map (g := fun x => (x.1, -x.2)) fun _ => rfl]
    have := pl_rev (pl_nf hN)
    rwa [List.reverse_reverse] at this
  rw [e, hb, near_pile hp (by rw [← hb]; exact back_nz hz), near_map (g := fun x => (x.1, -x.2)) fun _ => rfl]
/-! ### names that can stand first, in their order -/
def frs (O : Ord α) (bar : Row α) : Row α → List α
  | [] => []
  | x :: r => if bar.all (fun w => !O.tc w.1 x.1) then x.1 :: frs O (bar ++ [x]) r else frs O (bar ++ [x]) r
theorem mem_frs {n : α} : ∀ {l bar : Row α}, n ∈ frs O bar l ↔ (∀ w ∈ bar, O.tc w.1 n = false) ∧ (near O n l).isSome = true
  | [], bar => by simp [frs, near]
  | x :: l, bar => by
    have ih := mem_frs (n := n) (l := l) (bar := bar ++ [x])
    have all_iff : (bar.all fun w => !O.tc w.1 x.1) = true ↔ ∀ w ∈ bar, O.tc w.1 x.1 = false := by simp
    have hx : (∀ w ∈ bar ++ [x], O.tc w.1 n = false) ↔ (∀ w ∈ bar, O.tc w.1 n = false) ∧ O.tc x.1 n = false := by
      constructor
      · exact fun h => ⟨fun w hw => h w (by simp [hw]), h x (by simp)⟩
      · rintro ⟨h1, h2⟩ w hw
        rcases List.mem_append.mp hw with hw | hw
        · exact h1 w hw
        · rw [List.mem_singleton.mp hw]
          exact h2
    rw [hx] at ih
    unfold frs near
    by_cases e : x.1 = n
    · subst e
      rw [if_pos rfl]
      simp only [Option.isSome_some, and_true]
      have no : x.1 ∉ frs O (bar ++ [x]) l := fun hm => by
        have := (ih.mp hm).1.2
        rw [O.refl] at this
        cases this
      split
      · rename_i h
        exact ⟨fun _ => all_iff.mp h, fun _ => List.mem_cons_self⟩
      · rename_i h
        exact ⟨fun hm => absurd hm no, fun hb => absurd (all_iff.mpr hb) h⟩
    · rw [if_neg e]
      have base : n ∈ frs O (bar ++ [x]) l ↔ (∀ w ∈ bar, O.tc w.1 n = false) ∧ (if O.tc x.1 n then none else (near O n l).map (· + 1)).isSome = true := by
        rw [ih]
        cases hc : O.tc x.1 n <;> simp
      split
      · rw [List.mem_cons]
        exact ⟨fun h => h.elim (fun q => absurd q.symm e) base.mp, fun h => .inr (base.mpr h)⟩
      · exact base
theorem nodup_frs : ∀ {l bar : Row α}, (frs O bar l).Nodup
  | [], _ => List.nodup_nil
  | x :: l, bar => by
    have ih := nodup_frs (l := l) (bar := bar ++ [x])
    unfold frs
    split
    · refine List.nodup_cons.mpr ⟨fun hm => ?_, ih⟩
      have := (mem_frs.mp hm).1 x (by simp)
      rw [O.refl] at this
      cases this
    · exact ih
end
end XM
set_option Elab.async false
set_option linter.all false
set_option maxRecDepth 100000
set_option maxHeartbeats 4000000
namespace XB
open PySem PySem.Spec PyProof.Rows L2
/-! ### the order of texts is one -/
theorem str_ext {a b : Str} (h : a.cps.toList = b.cps.toList) : a = b := by
  obtain ⟨⟨x⟩⟩ := a
  obtain ⟨⟨y⟩⟩ := b
  have h : x = y := h
  rw [h]
theorem sLt_irr (a : Str) : sLt a a = false := decide_eq_false (List.lt_irrefl _)
theorem sLt_trans (a b c : Str) (h : sLt a b = true) (g : sLt b c = true) : sLt a c = true := decide_eq_true (List.lt_trans (of_decide_eq_true h) (of_decide_eq_true g))
theorem sLt_tot (a b : Str) (n : a ≠ b) (h : sLt a b = false) : sLt b a = true := by
  have h1 : ¬ a.cps.toList < b.cps.toList := of_decide_eq_false h
  refine decide_eq_true ?_
  have h2 : b.cps.toList ≤ a.cps.toList := List.not_lt.mp h1
  rcases Classical.em (b.cps.toList < a.cps.toList) with h3 | h3
  · exact h3
  · exact absurd (str_ext (List.le_antisymm (List.not_lt.mp h3) h2)) n
/-! ### fields and rows of steps as data -/
structure Fld where
  names : List Str
  pairs : List (Str × Str)
def apart (F : Fld) (a b : Str) : Bool := F.pairs.contains (a, b) || F.pairs.contains (b, a)
def OF (F : Fld) : XM.Ord Str where
  tc := fun a b => decide (a = b) || !apart F a b
  lt := sLt
  refl := fun a => by simp
  symm := fun a b => by
    unfold apart
    rw [Bool.or_comm (F.pairs.contains (a, b))]
    congr 1
    exact decide_eq_decide.mpr ⟨Eq.symm, Eq.symm⟩
  irr := sLt_irr
  trans := sLt_trans
  tot := sLt_tot
/-- what a field keeps, as far as the functions of piles lean on it -/
structure Fld.Ok (F : Fld) : Prop where
  n0 : 0 < F.names.length
  n6 : F.names.length ≤ 6
  asc : ∀ p ∈ F.pairs, sLt p.1 p.2 = true
  inN : ∀ p ∈ F.pairs, p.1 ∈ F.names ∧ p.2 ∈ F.names
  sgn : ∀ n ∈ F.names, 1 ≤ n.length ∧ n.length ≤ 6 ∧ ∀ c ∈ n.cps.toList, 97 ≤ c ∧ c ≤ 122
  asN : F.names.Pairwise fun a b => sLt a b = true
  asP : F.pairs.Pairwise fun p q => (if p.1 == q.1 then (if p.2 == q.2 then false else sLt p.2 q.2) else sLt p.1 q.1) = true
  len : F.pairs.length ≤ 100
theorem apart_ne {F : Fld} (ok : F.Ok) {a : Str} : apart F a a = false := by
  have h : ¬ (a, a) ∈ F.pairs := fun h => by
    have := ok.asc _ h
    rw [sLt_irr] at this
    cases this
  unfold apart
  simp [h]
theorem tc_eq {F : Fld} (ok : F.Ok) (a b : Str) : (OF F).tc a b = !apart F a b := by
  show (decide (a = b) || !apart F a b) = _
  by_cases e : a = b
  · subst e
    rw [apart_ne ok]
    simp
  · simp [e]
/-- as the program asks it: the less one first -/
theorem apart_min {F : Fld} (ok : F.Ok) (a b : Str) : F.pairs.contains ((if sLt b a then b else a), (if sLt a b then b else a)) = apart F a b := by
  unfold apart
  cases h : sLt a b
  · by_cases e : a = b
    · subst e
      rw [sLt_irr]
      simp
    · have h2 := sLt_tot _ _ e h
      rw [h2]
      have n : ¬ (a, b) ∈ F.pairs := fun q => by
        have := ok.asc _ q
        rw [h] at this
        cases this
      simp [n]
  · have h2 : sLt b a = false := by
      cases q : sLt b a
      · rfl
      · have := sLt_trans _ _ _ h q
        rw [sLt_irr] at this
        cases this
    rw [h2]
    have n : ¬ (b, a) ∈ F.pairs := fun q => by
      have := ok.asc _ q
      rw [h2] at this
      cases this
    simp [n]
def touchL (F : Fld) (n : Str) : List Str := F.names.filter fun o => !apart F n o
theorem mem_touch {F : Fld} {a b : Str} (ok : F.Ok) (hb : b ∈ F.names) : (touchL F a).contains b = (OF F).tc b a := by
  rw [(OF F).symm, tc_eq ok]
  unfold touchL
  cases h : apart F a b <;> simp [hb, h]
def dPair (p : Str × Str) : PyData := .tuple [.str p.1, .str p.2]
def dNames (l : List Str) : PyData := .tuple (l.map .str)
def dField (F : Fld) : PyData := .tuple [dNames F.names, .tuple (F.pairs.map dPair)]
def dStep (s : Str × Int) : PyData := .tuple [.str s.1, .int s.2]
def dSteps (l : List (Str × Int)) : PyData := .tuple (l.map dStep)
/-! ### what stands while other things change -/
/-- tuples stand -/
structure Tk (H H' : Hp) : Prop where
  t : ∀ b xs, H b = some (.tup xs) → H' b = some (.tup xs)
  z : ∀ b o u, H b = some (.frz o u) → H' b = some (.frz o u)
theorem Tk.refl {H : Hp} : Tk H H := ⟨fun _ _ e => e, fun _ _ _ e => e⟩
theorem Tk.trans {H H1 H2 : Hp} (a : Tk H H1) (b : Tk H1 H2) : Tk H H2 := ⟨fun x xs e => b.t x xs (a.t x xs e), fun x o u e => b.z x o u (a.z x o u e)⟩
theorem Tk.of {H H1 : Hp} (a : Same H H1) : Tk H H1 := ⟨fun x xs e => a x _ e, fun x o u e => a x _ e⟩
theorem Tk.new {H H1 : Hp} {p : Addr} {o : HO} (a : Tk H H1) (hp : H1 p = none) : Tk H (upd H1 p o) := a.trans (Tk.of (same_upd hp))
theorem Tk.mut {H H1 : Hp} {p : Addr} {o u : HO} (a : Tk H H1) (hp : H1 p = some u) (h1 : ∀ xs, u ≠ .tup xs) (h2 : ∀ o' u', u ≠ .frz o' u') : Tk H (upd H1 p o) :=
  a.trans ⟨fun b xs e => by rw [upd_ne (ne_of e hp fun q => h1 xs q.symm)]; exact e, fun b o' u' e => by rw [upd_ne (ne_of e hp fun q => h2 o' u' q.symm)]; exact e⟩
theorem Tk.lst {H H1 : Hp} {p : Addr} {o : HO} {xs : List V} (a : Tk H H1) (hp : H1 p = some (.lst xs)) : Tk H (upd H1 p o) := a.mut hp (fun _ q => nomatch q) (fun _ _ q => nomatch q)
theorem Tk.sqT {K : PySem.W.Frag} {H H' : Hp} {a : Addr} {xs : List V} (k : Tk H H') (h : SqT K H a xs) : SqT K H' a xs := by
  rcases h with h | h
  · rcases h with h | ⟨o, h⟩
    · exact .inl (.inl (k.t _ _ h))
    · exact .inl (.inr ⟨o, k.z _ _ _ h⟩)
  · exact .inr h
mutual
def flatD : PyData → Bool
  | .none | .bool _ | .int _ | .str _ => true
  | .tuple xs => flatAll xs
  | .list _ | .dict _ => false
def flatAll : List PyData → Bool
  | [] => true
  | x :: xs => flatD x && flatAll xs
end
mutual
theorem Dp.tk {K : PySem.W.Frag} {H H' : Hp} (k : Tk H H') : ∀ (d : PyData) {v : V}, flatD d = true → Dp K H v d → Dp K H' v d
  | .none, _, _, h => by cases h; exact .non
  | .bool b, _, _, h => by cases h; exact .bl b
  | .int i, _, _, h => by cases h; exact .int i
  | .str x, _, _, h => by cases h; exact .str x
  | .tuple ds, _, hf, h => by
    cases h with
    | tup hs ha => exact .tup (k.sqT hs) (DpAll.tk k ds (by simpa only [flatD] using hf) ha)
  | .list _, _, hf, _ => by simp only [flatD] at hf; cases hf
  | .dict _, _, hf, _ => by simp only [flatD] at hf; cases hf
theorem DpAll.tk {K : PySem.W.Frag} {H H' : Hp} (k : Tk H H') : ∀ (ds : List PyData) {vs : List V}, flatAll ds = true → DpAll K H vs ds → DpAll K H' vs ds
  | [], _, _, h => by cases h; exact .nil
  | d :: ds, _, hf, h => by
    simp only [flatAll, Bool.and_eq_true] at hf
    cases h with
    | cons h1 h2 => exact .cons (Dp.tk k d hf.1 h1) (DpAll.tk k ds hf.2 h2)
end
theorem flatAll_of : ∀ {l : List PyData}, (∀ d ∈ l, flatD d = true) → flatAll l = true
  | [], _ => rfl
  | d :: l, h => by
    simp only [flatAll, Bool.and_eq_true]
    exact ⟨h d List.mem_cons_self, flatAll_of fun x hx => h x (List.mem_cons_of_mem _ hx)⟩
theorem flat_step (s : Str × Int) : flatD (dStep s) = true := rfl
theorem flat_all_steps (l : List (Str × Int)) : flatAll (l.map dStep) = true := flatAll_of fun d hd => by
  obtain ⟨s, _, rfl⟩ := List.mem_map.mp hd
  exact flat_step s
theorem flat_steps (l : List (Str × Int)) : flatD (dSteps l) = true := by
  show flatD (.tuple _) = true
  simp only [flatD]
  exact flat_all_steps l
theorem flat_names (l : List Str) : flatD (dNames l) = true := by
  show flatD (.tuple _) = true
  simp only [flatD]
  exact flatAll_of fun d hd => by
    obtain ⟨s, _, rfl⟩ := List.mem_map.mp hd
    rfl
theorem flat_field (F : Fld) : flatD (dField F) = true := by
  show flatD (.tuple _) = true
  simp only [flatD, flatAll, flat_names, Bool.true_and, Bool.and_true]
  exact flatAll_of fun d hd => by
    obtain ⟨s, _, rfl⟩ := List.mem_map.mp hd
    rfl
end XB
namespace L2
open PySem PySem.Spec PyProof.Rows XB
/-! ### rows of data by places -/
section
variable {K : PySem.W.Frag} {H : Hp}
theorem DpAll.len : ∀ {vs : List V} {ds : List PyData}, DpAll K H vs ds → vs.length = ds.length
  | _, _, .nil => rfl
  | _, _, .cons _ t => by rw [List.length_cons, List.length_cons, DpAll.len t]
theorem DpAll.get : ∀ {vs : List V} {ds : List PyData} {i : Nat} {v : V}, DpAll K H vs ds → vs[i]? = some v → ∃ d, ds[i]? = some d ∧ Dp K H v d
  | _, _, _, _, .nil, e => by simp at e
  | _, _, 0, _, .cons h _, e => by
    cases e
    exact ⟨_, rfl, h⟩
  | _, _, i + 1, _, .cons _ t, e => DpAll.get (i := i) t (by simpa using e)
theorem DpAll.app : ∀ {vs ws : List V} {ds es : List PyData}, DpAll K H vs ds → DpAll K H ws es → DpAll K H (vs ++ ws) (ds ++ es)
  | _, _, _, _, .nil, s => s
  | _, _, _, _, .cons h t, s => .cons h (DpAll.app t s)
theorem DpAll.take : ∀ {vs : List V} {ds : List PyData} (n : Nat), DpAll K H vs ds → DpAll K H (vs.take n) (ds.take n)
  | _, _, 0, _ => .nil
  | _, _, _ + 1, .nil => .nil
  | _, _, n + 1, .cons h t => .cons h (DpAll.take n t)
theorem DpAll.drop : ∀ {vs : List V} {ds : List PyData} (n : Nat), DpAll K H vs ds → DpAll K H (vs.drop n) (ds.drop n)
  | _, _, 0, h => h
  | _, _, _ + 1, .nil => .nil
  | _, _, n + 1, .cons _ t => DpAll.drop n t
theorem DpAll.rev : ∀ {vs : List V} {ds : List PyData}, DpAll K H vs ds → DpAll K H vs.reverse ds.reverse
  | _, _, .nil => .nil
  | _, _, .cons h t => by
    rw [List.reverse_cons, List.reverse_cons]
    exact (DpAll.rev t).app (.cons h .nil)
theorem DpAll.strs : ∀ l : List Str, DpAll K H (l.map V.str) (l.map PyData.str)
  | [] => .nil
  | x :: l => .cons (.str x) (DpAll.strs l)
theorem DpAll.of_strs : ∀ {l : List Str} {vs : List V}, DpAll K H vs (l.map PyData.str) → vs = l.map V.str
  | [], _, h => by
    cases h
    rfl
  | x :: l, _, h => by
    cases h with
    | cons h1 h2 =>
      cases h1
      rw [DpAll.of_strs h2]
      rfl
theorem Dp.step {v : V} {s : Str × Int} (h : Dp K H v (dStep s)) : ∃ a, v = .ref a ∧ SqT K H a [.str s.1, .int s.2] := by
  cases h with
  | tup hs ha =>
    cases ha with
    | cons h1 t =>
      cases t with
      | cons h2 t =>
        cases t
        cases h1
        cases h2
        exact ⟨_, rfl, hs⟩
theorem Dp.of_step {a : Addr} {s : Str × Int} (h : SqT K H a [.str s.1, .int s.2]) : Dp K H (.ref a) (dStep s) := .tup h (.cons (.str _) (.cons (.int _) .nil))
theorem Dp.pair {v : V} {s : Str × Str} (h : Dp K H v (dPair s)) : ∃ a, v = .ref a ∧ SqT K H a [.str s.1, .str s.2] := by
  cases h with
  | tup hs ha =>
    cases ha with
    | cons h1 t =>
      cases t with
      | cons h2 t =>
        cases t
        cases h1
        cases h2
        exact ⟨_, rfl, hs⟩
theorem Dp.steps {v : V} {l : List (Str × Int)} (h : Dp K H v (dSteps l)) : ∃ a vs, v = .ref a ∧ SqT K H a vs ∧ DpAll K H vs (l.map dStep) := by
  cases h with
  | tup hs ha => exact ⟨_, _, rfl, hs, ha⟩
theorem Dp.field {v : V} {F : Fld} (h : Dp K H v (dField F)) : ∃ a n p ps, v = .ref a ∧ SqT K H a [.ref n, .ref p] ∧ SqT K H n (F.names.map V.str) ∧ SqT K H p ps ∧ DpAll K H ps (F.pairs.map dPair) := by
  cases h with
  | tup hs ha =>
    cases ha with
    | cons h1 t =>
      cases t with
      | cons h2 t =>
        cases t
        cases h1 with
        | tup n1 n2 =>
          cases h2 with
          | tup p1 p2 =>
            rw [DpAll.of_strs n2] at n1
            exact ⟨_, _, _, _, rfl, hs, n1, p1, p2⟩
/-- the step at a place -/
theorem DpAll.step {vs : List V} {l : List (Str × Int)} {i : Nat} {s : Str × Int} (h : DpAll K H vs (l.map dStep)) (e : l[i]? = some s) : ∃ a, vs[i]? = some (.ref a) ∧ SqT K H a [.str s.1, .int s.2] := by
  have hl := h.len
  rw [List.length_map] at hl
  have hi : i < vs.length := by
    rw [hl]
    exact (List.getElem?_eq_some_iff.mp e).1
  obtain ⟨d, hd, hv⟩ := h.get (List.getElem?_eq_getElem hi)
  rw [List.getElem?_map, e] at hd
  cases hd
  obtain ⟨a, ha, hs⟩ := hv.step
  exact ⟨a, by rw [List.getElem?_eq_getElem hi, ha], hs⟩
end
end L2
set_option Elab.async false
set_option linter.all false
set_option maxRecDepth 100000
set_option maxHeartbeats 4000000
namespace XB
open PySem PySem.Spec PyProof.Rows L2
theorem tyx_tup {K : PySem.W.Frag} {H : Hp} {a : Addr} {xs : List V} (h : SqT K H a xs) : TyX K H (.ref a) (.type "tuple") := by
  rcases h with (h | ⟨o, h⟩) | ⟨o, its, n, hk, hc, _⟩
  · exact .base (.tup h)
  · exact .fTuple h
  · exact .kTuple hk hc
section
variable {X : Cx} {e : Expr} {te : TE} {x : Str} {p q pos : Pos}
/-- isinstance(e, T), T a built-in class -/
theorem pe_isT (T : String) (hgI : Gl X "isinstance") (hmI : X.mg "isinstance" = none) (hgT : Gl X x) (hmT : X.mg x = none) (hv : bootBuiltins x = some (.type T)) (he : PE X e te)
    (hn : x ≠ "__name__" := by decide) (hdb : (x == ("__debug__" : Str)) = false := by decide)
    (h1 : starEach [e, .Name x q] X.env = (false, eval e X.env) :: starEach [.Name x q] X.env := by rfl) (h2 : starEach [.Name x q] X.env = (false, eval (.Name x q) X.env) :: starEach [] X.env := by rfl) :
    PE X (.Call (.Name "isinstance" p) [e, .Name x q] [] pos) (tCB (rIsi X.K) (tCons te (tCons (tC (.ty T)) tNil))) :=
  pe_callB call_isi hgI hmI (by decide +kernel) (pa_cons he (pa_cons (pe_bltn (v := .ty T) hgT hmT hv rfl hn hdb) pa_nil h2) h1) (by decide) (by decide) h1 (by rw [h2]; rfl)
/-- len(e) of a list or a tuple -/
theorem pe_lenS (hg : Gl X "len") (hm : X.mg "len" = none) (he : PE X e te) (h1 : starEach [e] X.env = (false, eval e X.env) :: starEach [] X.env := by rfl) :
    PE X (.Call (.Name "len" p) [e] [] pos) (tCB (fun xs H Q => ∃ p ys, xs = [V.ref p] ∧ (SqL X.K H p ys ∨ SqT X.K H p ys) ∧ Q (.int ys.length) H) (tCons te tNil)) :=
  pe_callB call_len_seq hg hm PySem.boot_len (pa_cons he pa_nil h1) (by decide) (by decide) h1 (by rfl)
/-- len(e) of a text -/
theorem pe_lenT (hg : Gl X "len") (hm : X.mg "len" = none) (he : PE X e te) (h1 : starEach [e] X.env = (false, eval e X.env) :: starEach [] X.env := by rfl) :
    PE X (.Call (.Name "len" p) [e] [] pos) (tCB (fun xs H Q => ∃ z, xs = [V.str z] ∧ z.length ≤ sizeLine ∧ Q (.int z.length) H) (tCons te tNil)) :=
  pe_callB call_len_str hg hm PySem.boot_len (pa_cons he pa_nil h1) (by decide) (by decide) h1 (by rfl)
theorem walk_zipT {K : PySem.W.Frag} {a b : Addr} {xs ys : List V} {n : Nat} (hn : n = min xs.length ys.length) : Walk (RZ.ItzT K a b) n (fun H => SqT K H a xs ∧ SqT K H b ys) (YPair (fun i => xs[i]?) (fun i => ys[i]?)) := by
  subst hn
  constructor
  · intro i H hi q
    have h1 : i < xs.length := by omega
    have h2 : i < ys.length := by omega
    exact ⟨xs, ys, xs[i], ys[i], q.1, q.2, List.getElem?_eq_getElem h1, List.getElem?_eq_getElem h2⟩
  · intro H q
    exact ⟨xs, ys, q.1, q.2, by omega⟩
  · rintro i H v H' _ q ⟨T, x, z, h1, h2, h3, h4, h5⟩
    exact ⟨T, x, z, h1, h2, h3, h4 xs q.1, h5 ys q.2⟩
theorem cut_tail (xs : List V) : cutV xs (some 1) none = xs.drop 1 := by
  unfold cutV
  rw [show HT.sIx xs.length 0 (some 1) = min 1 xs.length from HT.sIx_nat xs.length 0 1, HT.sIx_none]
  cases xs with
  | nil => rfl
  | cons x r =>
    rw [List.length_cons, show min 1 (r.length + 1) = 1 by omega]
    show List.take (r.length + 1 - 1) r = r
    rw [Nat.add_sub_cancel]
    exact List.take_length
/-- the rules within a comprehension's block, where the written part is told by its name -/
theorem op_ltSSk {X : Cx} {K : PySem.W.Frag} (hk : X.K = K) (hu : X.A.units + 64 < cLine) : OpR X (compareOp .Lt) (fun x y H Q => ∃ p q a b c d, x = .ref p ∧ y = .ref q ∧ SqT K H p [.str a, .str b] ∧ SqT K H q [.str c, .str d] ∧ Q (.bl (if a == c then (if b == d then false else sLt b d) else sLt a c)) H) := by
  subst hk
  exact op_ltSS hu
theorem ixk_list {X : Cx} {K : PySem.W.Frag} (hk : X.K = K) : IxR X (rIxL K) := by
  subst hk
  exact ix_list
theorem ixk_tup {X : Cx} {K : PySem.W.Frag} (hk : X.K = K) : IxR X (rIxT K) := by
  subst hk
  exact ix_tup
theorem opk_in_seq {X : Cx} {K : PySem.W.Frag} (hk : X.K = K) : OpR X (compareOp .In) (rIn K false) := by
  subst hk
  exact op_in_seq
theorem opk_notIn_seq {X : Cx} {K : PySem.W.Frag} (hk : X.K = K) : OpR X (compareOp .NotIn) (rIn K true) := by
  subst hk
  exact op_notIn_seq
theorem noPart {σ : L2.St} {H : Hp} {Q : Option Int → Hp → Prop} (h : Q none H) : tNoPart σ H Q := h
/-- t[1:] of a tuple, whatever its length -/
theorem sl_tail {K : PySem.W.Frag} {H : Hp} {a : Addr} {xs : List V} {Q : VK} (h : SqT K H a xs) (q0 : xs = [] → Q (.ref a) H) (q1 : xs ≠ [] → ∀ p, H p = none → Q (.ref p) (upd H p (.tup (xs.drop 1)))) : rSlA K (.ref a) (some 1) none H Q := by
  refine ⟨a, xs, rfl, h, fun e => q0 ?_, fun hn p hp => ?_⟩
  · have e1 : HT.sIx xs.length 0 (some 1) = min 1 xs.length := HT.sIx_nat xs.length 0 1
    rw [e1] at e
    cases xs with
    | nil => rfl
    | cons x r =>
      rw [List.length_cons] at e
      omega
  · rw [cut_tail]
    refine q1 (fun e => ?_) p hp
    subst e
    exact hn ⟨rfl, rfl⟩
end
end XB
set_option Elab.async false
set_option linter.all false
set_option maxRecDepth 100000
set_option maxHeartbeats 4000000
namespace XB
open PySem PySem.Spec PyProof.Rows L2
section
variable {P : Program} {w : World} {K : PySem.W.Frag} {mg : Str → Option Value} {base : Heap}
def spIsPair (K : PySem.W.Frag) : Sp := fun vs H Q _ => ∃ (a : Addr) (xs : List V), vs = [.ref a] ∧ SqT K H a xs ∧ Q (.bl (decide (xs.length = 2))) H
theorem c_is_pair (T : Tx K mg) : Cl P w K mg base CX0 1 "is_pair" (spIsPair K) := by
  refine cl0 T.d_is_pair (ps := ["value"]) (fun _ _ _ _ _ _ us hl => match us, hl with | [_], _ => rfl) sc_is_pair (fun vs H Q E h => ?_) (fun f cdv A outer st H vs Q E hr h => ?_)
  · obtain ⟨a, xs, rfl, _⟩ := h
    rfl
  · obtain ⟨a, xs, rfl, hS, q⟩ := h
    refine ⟨_, pss_one (ps_ret (pe_and (pe_isT "tuple" (by rfl) T.b_isinstance (by rfl) T.b_tuple (by decide +kernel) (pv 0)) (pe_one (pe_cmpR op_eq (pe_lenS (by rfl) T.b_len (pv 0)) pe_int (nomark _))))), ?_⟩
    refine ⟨_, rfl, _, _, _, _, _, rfl, .ty _, tyx_tup hS, kit_ty (by decide +kernel), _, rfl, iteT ?_⟩
    refine ⟨_, rfl, a, xs, rfl, .inr hS, rfl, ?_⟩
    have e : decide (V.int (xs.length : Int) = V.int 2) = decide (xs.length = 2) := by
      refine decide_eq_decide.mpr ⟨fun h => ?_, fun h => ?_⟩
      · injection h with h
        omega
      · rw [h]
        rfl
    show Q (.bl (decide (V.int (xs.length : Int) = V.int 2))) H
    rw [e]
    exact q
/-- each text ahead of the next one -/
def spAscN (K : PySem.W.Frag) : Sp := fun vs H Q _ => (∃ (a : Addr) (l : List Str), vs = [.ref a] ∧ SqT K H a (l.map V.str) ∧ l.length ≤ 1000 ∧ l.Pairwise (fun a b => sLt a b = true) ∧ ∀ H', Same H H' → Q (.bl true) H') ∨
  (∃ (a : Addr) (vs' : List V) (l : List (Str × Str)), vs = [.ref a] ∧ SqT K H a vs' ∧ DpAll K H vs' (l.map dPair) ∧ l.length ≤ 1000 ∧ l.Pairwise (fun p q => (if p.1 == q.1 then (if p.2 == q.2 then false else sLt p.2 q.2) else sLt p.1 q.1) = true) ∧ ∀ H', Same H H' → Q (.bl true) H')
theorem all_true : ∀ n : Nat, (List.replicate n true).all id = true
  | 0 => rfl
  | n + 1 => by
    rw [List.replicate_succ, List.all_cons, all_true n]
    rfl
theorem map_rep (n : Nat) : (List.replicate n true).map V.bl = List.replicate n (V.bl true) := by
  rw [List.map_replicate]
theorem c_is_ascending (T : Tx K mg) : Cl P w K mg base CX0 1 "is_ascending" (spAscN K) := by
  refine cl0 T.d_is_ascending (ps := ["items"]) (fun _ _ _ _ _ _ us hl => match us, hl with | [_], _ => rfl) sc_is_ascending (fun vs H Q E h => ?_) (fun f cdv A outer st H vs Q E hr h => ?_)
  · rcases h with ⟨a, l, rfl, _⟩ | ⟨a, l, _, rfl, _⟩ <;> rfl
  · have nd := sc_is_ascending.nd
    have hu := hr.units
    rcases h with ⟨a, l, rfl, hS, hlen, hP, q⟩ | ⟨a, vs', l, rfl, hS, hD, hlen, hP, q⟩
    · refine ⟨_, pss_one (ps_ret (pe_callB (cr_all rfl) (by rfl) T.b_all (by decide +kernel) (pa_cons (pe_lc (own := [("one", 1), ("other", 2)]) (g := gTup K 2 (gCons (gName 1) (gCons (gName 2) gNil))) (tt := tYes) (by rfl) nd
        (RZ.pi_zipA (by rfl) T.b_zip (pa_cons (pv 0) (pa_cons (pe_slice sl_tupA (pv 0) (po_some pe_int) po_none) pa_nil)))
        (blkOk_by (own := [("one", 1), ("other", 2)]) (N := ["items", "one", "other"]) (sc := defScope s_is_ascending) (by decide +kernel))
        (fun _ _ _ _ _ => pg_tup rfl (pgs_cons (pg_name (i := 1) nd rfl (Or.inl rfl)) (pgs_cons (pg_name (i := 2) nd rfl (Or.inl rfl)) pgs_nil))) (fun _ _ _ _ _ => pts_nil) (fun _ _ _ _ _ => pe_cmpR op_lt_str (pv 1) (pv 2) (nomark _))) pa_nil))), ?_⟩
      refine ⟨_, rfl, _, rfl, 1, rfl, ?_⟩
      refine noPart ?_
      refine sl_tail hS (fun e => ?_) (fun hne b hb => ?_)
      rotate_left
      · have hB : SqT K (upd H b (.tup ((l.map V.str).drop 1))) b ((l.drop 1).map V.str) := by
          rw [List.map_drop]
          exact SqT.of upd_same
        have hA := (Tk.of (same_upd (o := .tup ((l.map V.str).drop 1)) hb)).sqT hS
        have sm := same_upd (o := .tup ((l.map V.str).drop 1)) hb
        generalize upd H b (.tup ((l.map V.str).drop 1)) = H1 at hA hB sm ⊢
        refine ⟨a, b, _, _, rfl, .inr ⟨hA, hB, fun D hD => ?_⟩⟩
        refine lc_it (walk_zipT (xs := l.map V.str) (ys := (l.drop 1).map V.str) rfl) (fun i H' => H' D = some (.lst (List.replicate i (V.bl true))) ∧ Same H1 H') ⟨upd_same, same_upd hD⟩ (fun i H' _ ⟨_, s'⟩ => ⟨(Tk.of s').sqT hA, (Tk.of s').sqT hB⟩)
          (fun i x H2 H3 hi ⟨eD, s'⟩ hy => ?_) (fun H2 ⟨eD, s'⟩ => ?_)
        · obtain ⟨Tt, x1, x2, rfl, nT, rfl, f1, f2⟩ := hy
          obtain ⟨y1, g1, rfl⟩ := str_at f1
          obtain ⟨y2, g2, rfl⟩ := str_at f2
          have nDT : D ≠ Tt := ne_of_none eD nT
          refine ⟨Tt, _, rfl, SqT.of upd_same, rfl, _, _, rfl, _, _, rfl, rfl, rfl, yes_ ?_⟩
          refine ⟨_, rfl, _, rfl, _, _, rfl, rfl, _, by rw [upd_ne nDT]; exact eD, ?_, ?_, ?_⟩
          · rw [List.length_replicate, List.length_map, List.length_map] at *
            exact small1000 (by omega)
          · rw [upd_same]
            have lt : sLt y1 y2 = true := by
              rw [List.getElem?_drop] at g2
              obtain ⟨h1, e1⟩ := List.getElem?_eq_some_iff.mp g1
              obtain ⟨h2, e2⟩ := List.getElem?_eq_some_iff.mp g2
              rw [← e1, ← e2]
              exact List.pairwise_iff_getElem.mp hP i (1 + i) h1 h2 (by omega)
            have e : decide (y1.cps.toList < y2.cps.toList) = true := lt
            rw [e, List.replicate_succ']
          · exact same_put (same_new s' nT) hD
        · refine ⟨D, List.replicate _ true, rfl, SqL.of (by rw [map_rep]; exact eD), ?_⟩
          rw [all_true]
          exact q _ (sm.trans s')
      · have e0 : l = [] := List.map_eq_nil_iff.mp e
        subst e0
        refine ⟨a, a, _, _, rfl, .inr ⟨hS, hS, fun D hD => ?_⟩⟩
        refine lc_it (walk_zipT (xs := []) (ys := []) rfl) (fun i H' => H' D = some (.lst []) ∧ Same H H') ⟨upd_same, same_upd hD⟩ (fun i H' _ ⟨_, s'⟩ => ⟨(Tk.of s').sqT hS, (Tk.of s').sqT hS⟩)
          (fun i x H2 H3 hi _ _ => absurd hi (Nat.not_lt_zero _)) (fun H2 ⟨eD, s'⟩ => ?_)
        exact ⟨D, [], rfl, SqL.of eD, q _ s'⟩
    · refine ⟨_, pss_one (ps_ret (pe_callB (cr_all rfl) (by rfl) T.b_all (by decide +kernel) (pa_cons (pe_lc (own := [("one", 1), ("other", 2)]) (g := gTup K 2 (gCons (gName 1) (gCons (gName 2) gNil))) (tt := tYes) (by rfl) nd
        (RZ.pi_zipA (by rfl) T.b_zip (pa_cons (pv 0) (pa_cons (pe_slice sl_tupA (pv 0) (po_some pe_int) po_none) pa_nil)))
        (blkOk_by (own := [("one", 1), ("other", 2)]) (N := ["items", "one", "other"]) (sc := defScope s_is_ascending) (by decide +kernel))
        (fun _ _ _ _ _ => pg_tup rfl (pgs_cons (pg_name (i := 1) nd rfl (Or.inl rfl)) (pgs_cons (pg_name (i := 2) nd rfl (Or.inl rfl)) pgs_nil))) (fun _ _ _ _ _ => pts_nil) (fun _ _ _ _ _ => pe_cmpR (op_ltSSk (K := K) rfl hu) (pv 1) (pv 2) (nomark _))) pa_nil))), ?_⟩
      refine ⟨_, rfl, _, rfl, 1, rfl, ?_⟩
      have hl := hD.len
      rw [List.length_map] at hl
      refine noPart ?_
      refine sl_tail hS (fun e => ?_) (fun hne b hb => ?_)
      rotate_left
      · have hB : SqT K (upd H b (.tup (vs'.drop 1))) b (vs'.drop 1) := SqT.of upd_same
        have hA := (Tk.of (same_upd (o := .tup (vs'.drop 1)) hb)).sqT hS
        have sm := same_upd (o := .tup (vs'.drop 1)) hb
        generalize upd H b (.tup (vs'.drop 1)) = H1 at hA hB sm ⊢
        refine ⟨a, b, _, _, rfl, .inr ⟨hA, hB, fun D hD' => ?_⟩⟩
        refine lc_it (walk_zipT (xs := vs') (ys := vs'.drop 1) rfl) (fun i H' => H' D = some (.lst (List.replicate i (V.bl true))) ∧ Same H1 H') ⟨upd_same, same_upd hD'⟩ (fun i H' _ ⟨_, s'⟩ => ⟨(Tk.of s').sqT hA, (Tk.of s').sqT hB⟩)
          (fun i x H2 H3 hi ⟨eD, s'⟩ hy => ?_) (fun H2 ⟨eD, s'⟩ => ?_)
        · obtain ⟨Tt, x1, x2, rfl, nT, rfl, f1, f2⟩ := hy
          have f1 : vs'[i]? = some x1 := f1
          have f2 : (vs'.drop 1)[i]? = some x2 := f2
          rw [List.getElem?_drop] at f2
          obtain ⟨d1, g1, p1⟩ := hD.get f1
          obtain ⟨d2, g2, p2⟩ := hD.get f2
          rw [List.getElem?_map] at g1 g2
          obtain ⟨y1, k1, rfl⟩ := Option.map_eq_some_iff.mp g1
          obtain ⟨y2, k2, rfl⟩ := Option.map_eq_some_iff.mp g2
          obtain ⟨b1, rfl, c1⟩ := p1.pair
          obtain ⟨b2, rfl, c2⟩ := p2.pair
          have kT : Tk H (upd H2 Tt (.tup [.ref b1, .ref b2])) := (Tk.of (sm.trans s')).new nT
          have nDT : D ≠ Tt := ne_of_none eD nT
          refine ⟨Tt, _, rfl, SqT.of upd_same, rfl, _, _, rfl, _, _, rfl, rfl, rfl, yes_ ?_⟩
          refine ⟨_, rfl, _, rfl, _, _, _, _, _, _, rfl, rfl, kT.sqT c1, kT.sqT c2, _, by rw [upd_ne nDT]; exact eD, ?_, ?_, ?_⟩
          · rw [List.length_replicate]
            exact small1000 (by omega)
          · rw [upd_same]
            have lt : (if y1.1 == y2.1 then (if y1.2 == y2.2 then false else sLt y1.2 y2.2) else sLt y1.1 y2.1) = true := by
              obtain ⟨h1, e1⟩ := List.getElem?_eq_some_iff.mp k1
              obtain ⟨h2, e2⟩ := List.getElem?_eq_some_iff.mp k2
              rw [← e1, ← e2]
              exact List.pairwise_iff_getElem.mp hP i (1 + i) h1 h2 (by omega)
            rw [lt, List.replicate_succ']
          · exact same_put (same_new s' nT) hD'
        · refine ⟨D, List.replicate _ true, rfl, SqL.of (by rw [map_rep]; exact eD), ?_⟩
          rw [all_true]
          exact q _ (sm.trans s')
      · subst e
        refine ⟨a, a, _, _, rfl, .inr ⟨hS, hS, fun D hD' => ?_⟩⟩
        refine lc_it (walk_zipT (xs := []) (ys := []) rfl) (fun i H' => H' D = some (.lst []) ∧ Same H H') ⟨upd_same, same_upd hD'⟩ (fun i H' _ ⟨_, s'⟩ => ⟨(Tk.of s').sqT hS, (Tk.of s').sqT hS⟩)
          (fun i x H2 H3 hi _ _ => absurd hi (Nat.not_lt_zero _)) (fun H2 ⟨eD, s'⟩ => ?_)
        exact ⟨D, [], rfl, SqL.of eD, q _ s'⟩
end
end XB
set_option Elab.async false
set_option linter.all false
set_option maxRecDepth 100000
set_option maxHeartbeats 4000000
namespace XB
open PySem PySem.Spec PyProof.Rows L2
theorem inV_strs (a : Str) : ∀ l : List Str, inV (.str a) (l.map V.str) = l.contains a
  | [] => rfl
  | x :: l => by
    have ih := inV_strs a l
    unfold inV at ih ⊢
    rw [List.map_cons, List.any_cons, ih, List.contains_cons]
    congr 1
    show decide (x = a) = (a == x)
    by_cases e : x = a
    · subst e
      simp
    · have : a ≠ x := fun q => e q.symm
      simp [e, this]
theorem flat_strs (l : List Str) : (l.map V.str).all flatV = true := by
  rw [List.all_map]
  exact List.all_eq_true.mpr fun _ _ => rfl
section
variable {P : Program} {w : World} {K : PySem.W.Frag} {mg : Str → Option Value} {base : Heap}
def GoodName (n : Str) : Prop := 1 ≤ n.length ∧ n.length ≤ 6 ∧ ∀ c ∈ n.cps.toList, 97 ≤ c ∧ c ≤ 122
def spIsName : Sp := fun vs H Q _ => ∃ n : Str, vs = [.str n] ∧ GoodName n ∧ ∀ H', Same H H' → Q (.bl true) H'
theorem c_is_name (T : Tx K mg) : Cl P w K mg base CX0 1 "is_name" spIsName := by
  refine cl0 T.d_is_name (ps := ["value"]) (fun _ _ _ _ _ _ us hl => match us, hl with | [_], _ => rfl) sc_is_name (fun vs H Q E h => ?_) (fun f cdv A outer st H vs Q E hr h => ?_)
  · obtain ⟨n, rfl, _⟩ := h
    rfl
  · obtain ⟨n, rfl, ⟨n1, n6, nc⟩, q⟩ := h
    have nd := sc_is_name.nd
    obtain ⟨tk, hML⟩ := T.g_MOST_LETTERS
    have hsz : n.length ≤ sizeLine := Nat.le_trans n6 (by decide)
    refine ⟨_, pss_cons (ps_if (PW.pt (pw_or (pt_not (pt_val (pe_isT "str" (by rfl) T.b_isinstance (by rfl) T.b_str (by decide +kernel) (pv 0)))) (pw_or1 (pt_not (pt_chain op_le op_le pe_int (pe_lenT (by rfl) T.b_len (pv 0)) (pe_glob (v := .int 6) (by rfl) hML ⟨_, rfl⟩)))))) pss_never pss_nil)
      (pss_one (ps_ret (pe_callB (cr_all rfl) (by rfl) T.b_all (by decide +kernel) (pa_cons (pe_lc (own := [("letter", 1)]) (g := gName 1) (tt := tYes) (by rfl) nd (pi_str (pv 0))
        (blkOk_by (own := [("letter", 1)]) (N := ["value", "letter"]) (sc := defScope s_is_name) (by decide +kernel)) (fun _ _ _ _ _ => pg_name (i := 1) nd rfl (Or.inl rfl)) (fun _ _ _ _ _ => pts_nil) (fun _ _ _ _ _ => pe_chain op_le_str op_le_str pe_str (pv 1) pe_str)) pa_nil)))), ?_⟩
    refine ⟨_, rfl, _, _, _, _, _, rfl, .ty _, .base (.str n), kit_ty (r := true) (by decide +kernel), _, rfl, iteF ?_⟩
    refine ⟨_, rfl, n, rfl, hsz, _, _, rfl, rfl, _, rfl, ?_⟩
    rw [decide_eq_true (show (1 : Int) ≤ (n.length : Int) by omega)]
    refine iteT ⟨_, _, rfl, rfl, _, rfl, ?_⟩
    rw [decide_eq_true (show (n.length : Int) ≤ 6 by omega)]
    refine iteF ?_
    refine ⟨_, rfl, n, rfl, fun D hD => ?_⟩
    refine lc_it walk_str (fun i H' => H' D = some (.lst (List.replicate i (V.bl true))) ∧ Same H H') ⟨upd_same, same_upd hD⟩ (fun _ _ _ _ => True.intro) (fun i x H2 H3 hi ⟨eD, s'⟩ hy => ?_) (fun H2 ⟨eD, s'⟩ => ?_)
    · obtain ⟨rfl, c, hc, rfl⟩ := hy
      have hm : c ∈ n.cps.toList := by
        rw [← Array.getElem?_toList] at hc
        exact List.mem_of_getElem? hc
      obtain ⟨c1, c2⟩ := nc c hm
      refine ⟨rfl, yes_ ?_⟩
      refine ⟨_, rfl, _, _, rfl, rfl, _, rfl, ?_⟩
      have e1 : (!decide ((⟨#[c]⟩ : Str).cps.toList < ("a" : Str).cps.toList)) = true := by
        show (!decide ([c] < [97])) = true
        simp [List.cons_lt_cons_iff]
        omega
      have e2 : (!decide (("z" : Str).cps.toList < (⟨#[c]⟩ : Str).cps.toList)) = true := by
        show (!decide ([122] < [c])) = true
        simp [List.cons_lt_cons_iff]
        omega
      rw [e1]
      refine iteT ⟨_, _, rfl, rfl, ?_⟩
      rw [e2]
      refine ⟨_, eD, ?_, ?_, same_put s' hD⟩
      · rw [List.length_replicate]
        have : n.cps.size = n.length := rfl
        exact small1000 (by omega)
      · rw [upd_same, List.replicate_succ']
    · refine ⟨D, List.replicate _ true, rfl, SqL.of (by rw [map_rep]; exact eD), ?_⟩
      rw [all_true]
      exact q _ s'
def spAreNames (K : PySem.W.Frag) : Sp := fun vs H Q _ => ∃ (a : Addr) (l : List Str), vs = [.ref a] ∧ SqT K H a (l.map V.str) ∧ 1 ≤ l.length ∧ l.length ≤ 6 ∧ (∀ n ∈ l, GoodName n) ∧ l.Pairwise (fun a b => sLt a b = true) ∧ ∀ H', Same H H' → Q (.bl true) H'
theorem c_are_names (T : Tx K mg) : Cl P w K mg base CX0 2 "are_names" (spAreNames K) := by
  refine cl0 T.d_are_names (ps := ["value"]) (fun _ _ _ _ _ _ us hl => match us, hl with | [_], _ => rfl) sc_are_names (fun vs H Q E h => ?_) (fun f cdv A outer st H vs Q E hr h => ?_)
  · obtain ⟨a, l, rfl, _⟩ := h
    rfl
  · obtain ⟨a, l, rfl, hS, l1, l6, hg, hP, q⟩ := h
    have nd := sc_are_names.nd
    obtain ⟨tk, hMN⟩ := T.g_MOST_NAMES
    refine ⟨_, pss_cons (ps_if (PW.pt (pw_or (pt_not (pt_val (pe_isT "tuple" (by rfl) T.b_isinstance (by rfl) T.b_tuple (by decide +kernel) (pv 0)))) (pw_or1 (pt_not (pt_chain op_le op_le pe_int (pe_lenS (by rfl) T.b_len (pv 0)) (pe_glob (v := .int 6) (by rfl) hMN ⟨_, rfl⟩)))))) pss_never pss_nil)
      (pss_one (ps_ret (pe_and (pe_callB (cr_all rfl) (by rfl) T.b_all (by decide +kernel) (pa_cons (pe_lc (own := [("item", 1)]) (g := gName 1) (tt := tYes) (by rfl) nd (pi_tup (pv 0))
        (blkOk_by (own := [("item", 1)]) (N := ["value", "item"]) (sc := defScope s_are_names) (by decide +kernel)) (fun _ _ _ _ _ => pg_name (i := 1) nd rfl (Or.inl rfl)) (fun _ _ _ _ _ => pts_nil) (fun _ _ _ _ _ => pe_k (c_is_name T) hr (by decide) (by rfl) (pa_cons (pv 1) pa_nil))) pa_nil))
        (pe_one (pe_k (c_is_ascending T) hr (by decide) (by rfl) (pa_cons (pv 0) pa_nil)))))), ?_⟩
    refine ⟨_, rfl, _, _, _, _, _, rfl, .ty _, tyx_tup hS, kit_ty (r := true) (by decide +kernel), _, rfl, iteF ?_⟩
    refine ⟨_, rfl, a, _, rfl, .inr hS, _, _, rfl, rfl, _, rfl, ?_⟩
    rw [List.length_map, decide_eq_true (show (1 : Int) ≤ (l.length : Int) by omega)]
    refine iteT ⟨_, _, rfl, rfl, _, rfl, ?_⟩
    rw [decide_eq_true (show (l.length : Int) ≤ 6 by omega)]
    refine iteF ?_
    refine ⟨_, rfl, a, rfl, ⟨_, hS⟩, fun D hD => ?_⟩
    refine lc_it (walk_tup (xs := l.map V.str)) (fun i H' => H' D = some (.lst (List.replicate i (V.bl true))) ∧ Same H H') ⟨upd_same, same_upd hD⟩ (fun _ _ _ ⟨_, s'⟩ => (Tk.of s').sqT hS) (fun i x H2 H3 hi ⟨eD, s'⟩ hy => ?_) (fun H2 ⟨eD, s'⟩ => ?_)
    · obtain ⟨rfl, hx⟩ := hy
      obtain ⟨n, hn, rfl⟩ := str_at hx
      refine ⟨rfl, yes_ ?_⟩
      refine ⟨_, rfl, n, rfl, hg n (List.mem_of_getElem? hn), fun H4 s4 => ⟨_, s4 _ _ eD, ?_, ?_, same_put (s'.trans s4) hD⟩⟩
      · rw [List.length_map] at hi
        rw [List.length_replicate]
        exact small1000 (by omega)
      · rw [upd_same, List.replicate_succ']
    · refine ⟨D, List.replicate _ true, rfl, SqL.of (by rw [map_rep]; exact eD), _, rfl, ?_⟩
      rw [all_true]
      refine iteT ?_
      refine ⟨_, rfl, .inl ⟨a, l, rfl, (Tk.of s').sqT hS, by omega, hP, fun H4 s4 => q _ (s'.trans s4)⟩⟩
def spIsPairOf (K : PySem.W.Frag) : Sp := fun vs H Q _ => ∃ (n v : Addr) (l : List Str) (a b : Str), vs = [.ref n, .ref v] ∧ SqT K H n (l.map V.str) ∧ SqT K H v [.str a, .str b] ∧ a ∈ l ∧ b ∈ l ∧ sLt a b = true ∧ Q (.bl true) H
theorem c_is_pair_of (T : Tx K mg) : Cl P w K mg base CX0 2 "is_pair_of" (spIsPairOf K) := by
  refine cl0 T.d_is_pair_of (ps := ["names", "value"]) (fun _ _ _ _ _ _ us hl => match us, hl with | [_, _], _ => rfl) sc_is_pair_of (fun vs H Q E h => ?_) (fun f cdv A outer st H vs Q E hr h => ?_)
  · obtain ⟨n, v, l, a, b, rfl, _⟩ := h
    rfl
  · obtain ⟨n, v, l, a, b, rfl, hN, hV, ha, hb, lt, q⟩ := h
    have nd := sc_is_pair_of.nd
    refine ⟨_, pss_cons (ps_if (pt_not (pt_val (pe_k (c_is_pair T) hr (by decide) (by rfl) (pa_cons (pv 1) pa_nil)))) pss_never pss_nil)
      (pss_cons (ps_asg (pv 1) (pg_tup rfl (pgs_cons (pg_name (i := 2) nd rfl (.inl rfl)) (pgs_cons (pg_name (i := 3) nd rfl (.inl rfl)) pgs_nil))))
      (pss_one (ps_ret (pe_and (pe_cmpR op_in_seq (pv 2) (pv 0) (by rfl)) (pe_and (pe_cmpR op_in_seq (pv 3) (pv 0) (by rfl)) (pe_one (pe_cmpR op_lt_str (pv 2) (pv 3) (nomark _)))))))), ?_⟩
    refine ⟨_, rfl, v, _, rfl, hV, _, rfl, iteF ?_⟩
    refine ⟨_, rfl, v, _, rfl, hV, rfl, _, _, rfl, _, _, rfl, rfl, ?_⟩
    refine ⟨_, rfl, _, rfl, n, _, rfl, .inr hN, rfl, flat_strs l, _, rfl, ?_⟩
    rw [if_neg Bool.false_ne_true, inV_strs, show l.contains a = true by simpa using ha]
    refine iteT ⟨_, rfl, _, rfl, n, _, rfl, .inr hN, rfl, flat_strs l, _, rfl, ?_⟩
    rw [if_neg Bool.false_ne_true, inV_strs, show l.contains b = true by simpa using hb]
    refine iteT ⟨_, rfl, _, rfl, _, _, rfl, rfl, ?_⟩
    have e : decide (a.cps.toList < b.cps.toList) = true := lt
    rw [e]
    exact q
def spArePairs (K : PySem.W.Frag) : Sp := fun vs H Q _ => ∃ (n v : Addr) (ps : List V) (F : Fld), vs = [.ref n, .ref v] ∧ SqT K H n (F.names.map V.str) ∧ SqT K H v ps ∧ DpAll K H ps (F.pairs.map dPair) ∧ F.Ok ∧ ∀ H', Same H H' → Q (.bl true) H'
theorem c_are_pairs (T : Tx K mg) : Cl P w K mg base CX0 3 "are_pairs" (spArePairs K) := by
  refine cl0 T.d_are_pairs (ps := ["names", "value"]) (fun _ _ _ _ _ _ us hl => match us, hl with | [_, _], _ => rfl) sc_are_pairs (fun vs H Q E h => ?_) (fun f cdv A outer st H vs Q E hr h => ?_)
  · obtain ⟨n, v, ps, F, rfl, _⟩ := h
    rfl
  · obtain ⟨n, v, ps, F, rfl, hN, hV, hD, ok, q⟩ := h
    have nd := sc_are_pairs.nd
    have hl := hD.len
    rw [List.length_map] at hl
    have hl2 := ok.len
    refine ⟨_, pss_cons (ps_if (pt_not (pt_val (pe_isT "tuple" (by rfl) T.b_isinstance (by rfl) T.b_tuple (by decide +kernel) (pv 1)))) pss_never pss_nil)
      (pss_one (ps_ret (pe_and (pe_callB (cr_all rfl) (by rfl) T.b_all (by decide +kernel) (pa_cons (pe_lc (own := [("item", 2)]) (g := gName 2) (tt := tYes) (by rfl) nd (pi_tup (pv 1))
        (blkOk_by (own := [("item", 2)]) (N := ["names", "value", "item"]) (sc := defScope s_are_pairs) (by decide +kernel)) (fun _ _ _ _ _ => pg_name (i := 2) nd rfl (Or.inl rfl)) (fun _ _ _ _ _ => pts_nil) (fun _ _ _ _ _ => pe_k (c_is_pair_of T) hr (by decide) (by rfl) (pa_cons (pv 0) (pa_cons (pv 2) pa_nil)))) pa_nil))
        (pe_one (pe_k (c_is_ascending T) hr (by decide) (by rfl) (pa_cons (pv 1) pa_nil)))))), ?_⟩
    refine ⟨_, rfl, _, _, _, _, _, rfl, .ty _, tyx_tup hV, kit_ty (r := true) (by decide +kernel), _, rfl, iteF ?_⟩
    refine ⟨_, rfl, v, rfl, ⟨_, hV⟩, fun D hD' => ?_⟩
    refine lc_it (walk_tup (xs := ps)) (fun i H' => H' D = some (.lst (List.replicate i (V.bl true))) ∧ Same H H') ⟨upd_same, same_upd hD'⟩ (fun _ _ _ ⟨_, s'⟩ => (Tk.of s').sqT hV) (fun i x H2 H3 hi ⟨eD, s'⟩ hy => ?_) (fun H2 ⟨eD, s'⟩ => ?_)
    · obtain ⟨rfl, hx⟩ := hy
      obtain ⟨d, g1, p1⟩ := hD.get hx
      rw [List.getElem?_map] at g1
      obtain ⟨y, k1, rfl⟩ := Option.map_eq_some_iff.mp g1
      obtain ⟨b, rfl, cb⟩ := p1.pair
      have my := List.mem_of_getElem? k1
      refine ⟨rfl, yes_ ?_⟩
      refine ⟨_, rfl, _, rfl, n, b, F.names, y.1, y.2, rfl, (Tk.of s').sqT hN, (Tk.of s').sqT cb, (ok.inN y my).1, (ok.inN y my).2, ok.asc y my, _, eD, ?_, ?_, same_put s' hD'⟩
      · rw [List.length_replicate]
        exact small1000 (by omega)
      · rw [upd_same, List.replicate_succ']
    · refine ⟨D, List.replicate _ true, rfl, SqL.of (by rw [map_rep]; exact eD), _, rfl, ?_⟩
      rw [all_true]
      refine iteT ?_
      refine ⟨_, rfl, .inr ⟨v, ps, F.pairs, rfl, (Tk.of s').sqT hV, DpAll.tk (Tk.of s') _ (flatAll_of fun d hd => ?_) hD, by omega, ok.asP, fun H4 s4 => q _ (s'.trans s4)⟩⟩
      obtain ⟨y, _, rfl⟩ := List.mem_map.mp hd
      rfl
def spNeedField (K : PySem.W.Frag) : Sp := fun vs H Q _ => ∃ (a : Addr) (F : Fld), vs = [.ref a] ∧ Dp K H (.ref a) (dField F) ∧ F.Ok ∧ ∀ H', Same H H' → Q (.ref a) H'
theorem c_need_field (T : Tx K mg) : Cl P w K mg base CX0 4 "need_field" (spNeedField K) := by
  refine cl0 T.d_need_field (ps := ["field"]) (fun _ _ _ _ _ _ us hl => match us, hl with | [_], _ => rfl) sc_need_field (fun vs H Q E h => ?_) (fun f cdv A outer st H vs Q E hr h => ?_)
  · obtain ⟨a, F, rfl, _⟩ := h
    rfl
  · obtain ⟨a, F, rfl, hF, ok, q⟩ := h
    have nd := sc_need_field.nd
    obtain ⟨_, n, p, ps, e, hA, hN, hP, hD⟩ := hF.field
    cases e
    refine ⟨_, pss_cons (ps_if (pt_not (pt_val (pe_k (c_is_pair T) hr (by decide) (by rfl) (pa_cons (pv 0) pa_nil)))) pss_never pss_nil)
      (pss_cons (ps_asg (pv 0) (pg_tup rfl (pgs_cons (pg_name (i := 1) nd rfl (.inl rfl)) (pgs_cons (pg_name (i := 2) nd rfl (.inl rfl)) pgs_nil))))
      (pss_cons (ps_if (pt_not (pt_val (pe_k (c_are_names T) hr (by decide) (by rfl) (pa_cons (pv 1) pa_nil)))) pss_never pss_nil)
      (pss_cons (ps_if (pt_not (pt_val (pe_k (c_are_pairs T) hr (by decide) (by rfl) (pa_cons (pv 1) (pa_cons (pv 2) pa_nil))))) pss_never pss_nil)
      (pss_one (ps_ret (pv 0)))))), ?_⟩
    refine ⟨_, rfl, a, _, rfl, hA, _, rfl, iteF ?_⟩
    refine ⟨_, rfl, a, _, rfl, hA, rfl, _, _, rfl, _, _, rfl, rfl, ?_⟩
    refine ⟨_, rfl, n, F.names, rfl, hN, ok.n0, ok.n6, ok.sgn, ok.asN, fun H1 s1 => ⟨_, rfl, iteF ?_⟩⟩
    refine ⟨_, rfl, _, rfl, n, p, ps, F, rfl, (Tk.of s1).sqT hN, (Tk.of s1).sqT hP, DpAll.tk (Tk.of s1) _ (flatAll_of fun d hd => ?_) hD, ok, fun H2 s2 => ⟨_, rfl, iteF ?_⟩⟩
    · obtain ⟨y, _, rfl⟩ := List.mem_map.mp hd
      rfl
    · exact ⟨_, rfl, q _ (s1.trans s2)⟩
end
end XB
set_option linter.all false
namespace XM
section
variable {α : Type} [DecidableEq α] {O : Ord α}
/-- the place of the last that touches (from the last piece on), or -1 -/
def lastIx (p : α → Bool) : Row α → Int
  | [] => -1
  | y :: r => if p y.1 then (r.length : Int) else lastIx p r
/-- a row cut where the last one touches -/
theorem last_cut {p : α → Bool} : ∀ r : Row α, (lastIx p r = -1 ∧ ∀ y ∈ r, p y.1 = false) ∨ ∃ v z r0, r = v ++ z :: r0 ∧ lastIx p r = (r0.length : Int) ∧ p z.1 = true ∧ ∀ y ∈ v, p y.1 = false
  | [] => .inl ⟨rfl, fun _ h => nomatch h⟩
  | y :: r => by
    cases h : p y.1
    · have e : lastIx p (y :: r) = lastIx p r := by
        unfold lastIx
        rw [if_neg (by rw [h]; decide)]
        cases r <;> rfl
      rcases last_cut (p := p) r with ⟨h1, h2⟩ | ⟨v, z, r0, rfl, h2, h3, h4⟩
      · exact .inl ⟨by rw [e, h1], fun w hw => (List.mem_cons.mp hw).elim (fun q => q ▸ h) (h2 w)⟩
      · exact .inr ⟨y :: v, z, r0, rfl, by rw [e, h2], h3, fun w hw => (List.mem_cons.mp hw).elim (fun q => q ▸ h) (h4 w)⟩
    · refine .inr ⟨[], y, r, rfl, ?_, h, fun _ h => nomatch h⟩
      unfold lastIx
      rw [if_pos h]
/-- how many stand at the begin that are less -/
def lead (O : Ord α) (a : α) : Row α → Nat
  | [] => 0
  | y :: r => if O.lt y.1 a then lead O a r + 1 else 0
theorem lead_le {a : α} : ∀ w : Row α, lead O a w ≤ w.length
  | [] => Nat.le_refl _
  | y :: r => by
    have := lead_le (a := a) r
    unfold lead
    split <;> simp <;> omega
theorem lead_snoc {a : α} {y : α × Int} : ∀ {w : Row α}, lead O a (w ++ [y]) = if lead O a w = w.length then (if O.lt y.1 a then w.length + 1 else w.length) else lead O a w
  | [] => by
    show (if O.lt y.1 a then 0 + 1 else 0) = _
    rw [if_pos (show lead O a [] = ([] : Row α).length from rfl)]
    rfl
  | z :: w => by
    have ih := lead_snoc (a := a) (y := y) (w := w)
    have hle := lead_le (O := O) (a := a) w
    show (if O.lt z.1 a then lead O a (w ++ [y]) + 1 else 0) = if (if O.lt z.1 a then lead O a w + 1 else 0) = (z :: w).length then _ else (if O.lt z.1 a then lead O a w + 1 else 0)
    cases h : O.lt z.1 a
    · have n : ¬ (0 = (z :: w).length) := by simp
      have q : ∀ {c d : Nat}, (if false = true then c else d) = d := fun {_ _} => rfl
      rw [q, q, if_neg n]
    · have q : ∀ {c d : Nat}, (if true = true then c else d) = c := fun {_ _} => rfl
      rw [q, q, ih, List.length_cons]
      by_cases e : lead O a w = w.length
      · rw [if_pos e, if_pos (congrArg (· + 1) e)]
        cases O.lt y.1 a <;> rfl
      · rw [if_neg e, if_neg (fun q => e (Nat.succ.inj q))]
theorem lead_all {a : α} : ∀ {w : Row α}, lead O a w = w.length ↔ ∀ y ∈ w, O.lt y.1 a = true
  | [] => by
    constructor
    · intro _ y h
      cases h
    · intro _
      rfl
  | y :: w => by
    have ih := lead_all (a := a) (w := w)
    show (if O.lt y.1 a then lead O a w + 1 else 0) = w.length + 1 ↔ _
    cases h : O.lt y.1 a
    · rw [if_neg (by decide)]
      constructor
      · intro q
        omega
      · intro q
        rw [q y List.mem_cons_self] at h
        cases h
    · rw [if_pos rfl]
      constructor
      · intro q z hz
        rcases List.mem_cons.mp hz with rfl | hz
        · exact h
        · exact ih.mp (by omega) z hz
      · intro q
        have := ih.mpr fun z hz => q z (List.mem_cons_of_mem _ hz)
        omega
/-- put among those that it may pass, ahead of the first greater one -/
def among (O : Ord α) (x : α × Int) (w : Row α) : Row α := w.take (lead O x.1 w) ++ x :: w.drop (lead O x.1 w)
theorem ins_among {x : α × Int} {r0 : Row α} (h0 : top O x.1 r0 = true) : ∀ {v : Row α}, (∀ y ∈ v, O.tc y.1 x.1 = false) → ins O x (v ++ r0) = (among O x v.reverse).reverse ++ r0 ∧ (top O x.1 (v ++ r0) = true ↔ ∀ y ∈ v, O.lt y.1 x.1 = true)
  | [], _ => ⟨by rw [List.nil_append, ins_top h0]; rfl, Iff.intro (fun _ _ h => (by cases h)) (fun _ => h0)⟩
  | y :: v, h => by
    have hy := h y List.mem_cons_self
    obtain ⟨i1, i2⟩ := ins_among h0 (v := v) fun z hz => h z (List.mem_cons_of_mem _ hz)
    have ht : top O x.1 (y :: v ++ r0) = (O.lt y.1 x.1 && top O x.1 (v ++ r0)) := top_apart hy
    have e2 : top O x.1 (y :: v ++ r0) = true ↔ ∀ z ∈ y :: v, O.lt z.1 x.1 = true := by
      rw [ht, Bool.and_eq_true, i2]
      constructor
      · rintro ⟨q1, q2⟩ z hz
        rcases List.mem_cons.mp hz with rfl | hz
        · exact q1
        · exact q2 z hz
      · exact fun q => ⟨q y List.mem_cons_self, fun z hz => q z (List.mem_cons_of_mem _ hz)⟩
    refine ⟨?_, e2⟩
    show ins O x (y :: (v ++ r0)) = _
    rw [ins_apart hy, i1, List.reverse_cons]
    have hl : lead O x.1 v.reverse = v.reverse.length ↔ top O x.1 (v ++ r0) = true := by
      rw [lead_all, i2]
      simp
    have hle := lead_le (O := O) (a := x.1) v.reverse
    unfold among
    rw [lead_snoc]
    cases hA : O.lt y.1 x.1 && top O x.1 (v ++ r0)
    · rw [if_neg (by decide)]
      have hk : (if lead O x.1 v.reverse = v.reverse.length then (if O.lt y.1 x.1 then v.reverse.length + 1 else v.reverse.length) else lead O x.1 v.reverse) = lead O x.1 v.reverse := by
        by_cases e : lead O x.1 v.reverse = v.reverse.length
        · rw [hl.mp e, Bool.and_true] at hA
          rw [if_pos e, hA, if_neg (by decide), e]
        · rw [if_neg e]
      rw [hk, List.take_append_of_le_length hle, List.drop_append_of_le_length hle]
      simp
    · obtain ⟨a1, a2⟩ := Bool.and_eq_true_iff.mp hA
      rw [if_pos rfl, if_pos (hl.mpr a2), if_pos a1]
      have e : v.reverse.length + 1 = (v.reverse ++ [y]).length := by simp
      rw [e, List.take_length, List.drop_length]
      simp
theorem ins_merge {a : α} {s t : Int} {r0 : Row α} : ∀ {v : Row α}, (∀ y ∈ v, O.tc y.1 a = false) → ins O (a, t) (v ++ (a, s) :: r0) = v ++ (if s + t = 0 then r0 else (a, s + t) :: r0) ∧ top O a (v ++ (a, s) :: r0) = false
  | [], _ => ⟨ins_same, top_same⟩
  | y :: v, h => by
    have hy := h y List.mem_cons_self
    obtain ⟨i1, i2⟩ := ins_merge (s := s) (t := t) (r0 := r0) (v := v) fun z hz => h z (List.mem_cons_of_mem _ hz)
    have ht : top O a (y :: v ++ (a, s) :: r0) = (O.lt y.1 a && top O a (v ++ (a, s) :: r0)) := top_apart hy
    refine ⟨?_, by rw [ht, i2, Bool.and_false]⟩
    show ins O (a, t) (y :: (v ++ (a, s) :: r0)) = _
    rw [ins_apart (x := (a, t)) hy, i2, Bool.and_false, if_neg (by decide), i1]
    rfl
/-- what the program does with a step, told by places of the row in its own order -/
theorem ins_code {l : Row α} {x : α × Int} {k : Int} (hk : lastIx (fun b => O.tc b x.1) l.reverse = k) :
    (k = -1 ∧ ins O x l.reverse = (among O x l).reverse) ∨
    ∃ (i : Nat) (z : α × Int), k = (i : Int) ∧ l[i]? = some z ∧
      ((z.1 ≠ x.1 ∧ ins O x l.reverse = (l.take (i + 1) ++ among O x (l.drop (i + 1))).reverse) ∨
       (z.1 = x.1 ∧ z.2 + x.2 ≠ 0 ∧ ins O x l.reverse = (l.set i (x.1, z.2 + x.2)).reverse) ∨
       (z.1 = x.1 ∧ z.2 + x.2 = 0 ∧ ins O x l.reverse = (l.eraseIdx i).reverse)) := by
  rcases last_cut (p := fun b => O.tc b x.1) l.reverse with ⟨h1, h2⟩ | ⟨v, z, r0, e, h2, h3, h4⟩
  · refine .inl ⟨by rw [← hk, h1], ?_⟩
    have := (ins_among (O := O) (x := x) (r0 := []) rfl (v := l.reverse) h2).1
    rw [List.append_nil, List.append_nil, List.reverse_reverse] at this
    exact this
  · right
    have el : l = r0.reverse ++ z :: v.reverse := by
      have := congrArg List.reverse e
      simpa using this
    have hi : l[r0.length]? = some z := by
      rw [el, List.getElem?_append_right (by simp)]
      simp
    refine ⟨r0.length, z, by rw [← hk, h2], hi, ?_⟩
    by_cases hz : z.1 = x.1
    · obtain ⟨z1, z2⟩ := z
      obtain ⟨x1, x2⟩ := x
      have hz : z1 = x1 := hz
      subst hz
      have m := (ins_merge (O := O) (a := z1) (s := z2) (t := x2) (r0 := r0) h4).1
      right
      by_cases h0 : z2 + x2 = 0
      · right
        refine ⟨rfl, h0, ?_⟩
        rw [e, m, if_pos h0, el]
        rw [List.eraseIdx_append_of_length_le (by simp)]
        simp
      · left
        refine ⟨rfl, h0, ?_⟩
        rw [e, m, if_neg h0, el]
        rw [List.set_append_right _ _ (by simp)]
        simp
    · left
      refine ⟨hz, ?_⟩
      have hc : O.tc z.1 x.1 = true := h3
      have m := (ins_among (O := O) (x := x) (r0 := z :: r0) (top_touch hc hz) h4).1
      rw [e, m]
      have t1 : l.take (r0.length + 1) = r0.reverse ++ [z] := by
        rw [el, List.take_append, List.length_reverse, Nat.add_sub_cancel_left, List.take_of_length_le (by simp)]
        rfl
      have t2 : l.drop (r0.length + 1) = v.reverse := by
        rw [el, List.drop_append, List.length_reverse, Nat.add_sub_cancel_left, List.drop_of_length_le (by simp)]
        rfl
      rw [t1, t2]
      simp
end
end XM
set_option Elab.async false
set_option linter.all false
set_option maxRecDepth 100000
set_option maxHeartbeats 4000000
namespace XB
open PySem PySem.Spec PyProof.Rows L2
theorem u65 {k : Nat} {A : Around} (r : Room k A) : A.units + 65 < cLine := by
  have := r.un
  omega
section
variable {X : Cx}
theorem op_inDTk {K : PySem.W.Frag} (hk : X.K = K) (hu : X.A.units + 65 < cLine) : OpR X (compareOp .In) (fun x y H Q => ∃ d ds, Dp K H x d ∧ Dp K H y (.tuple ds) ∧ SeqAt.shaped d = true ∧ SeqAt.shaped (.tuple ds) = true ∧ Q (.bl (ds.any fun z => PyData.eqv z d)) H) := by
  subst hk
  intro pins s σ H x y v u Q I rx ry h
  obtain ⟨d, ds, hd, he, sd, se, q⟩ := h
  obtain ⟨as, r1⟩ := Dp.reads I d x v hd rx
  obtain ⟨bs, r2⟩ := Dp.reads I (.tuple ds) y u he ry
  exact SeqAt.in_tuple_reads r2 r1 (SeqAt.canLay_of_shaped se) (SeqAt.canLay_of_shaped sd) (room_in_shaped sd hu) ⟨.bl _, H, I, rfl, q⟩
end
section
variable {P : Program} {w : World} {K : PySem.W.Frag} {mg : Str → Option Value} {base : Heap}
def spIsWhole : Sp := fun vs H Q _ => ∃ z : Int, vs = [.int z] ∧ Q (.bl true) H
theorem c_is_whole (T : Tx K mg) : Cl P w K mg base CX0 1 "is_whole" spIsWhole := by
  refine cl0 T.d_is_whole (ps := ["value"]) (fun _ _ _ _ _ _ us hl => match us, hl with | [_], _ => rfl) sc_is_whole (fun vs H Q E h => ?_) (fun f cdv A outer st H vs Q E hr h => ?_)
  · obtain ⟨z, rfl, _⟩ := h
    rfl
  · obtain ⟨z, rfl, q⟩ := h
    refine ⟨_, pss_one (ps_ret (pe_and (pe_isT "int" (by rfl) T.b_isinstance (by rfl) T.b_int (by decide +kernel) (pv 0)) (pe_one (pe_not (pe_isT "bool" (by rfl) T.b_isinstance (by rfl) T.b_bool (by decide +kernel) (pv 0)))))), ?_⟩
    refine ⟨_, rfl, _, _, _, _, _, rfl, .ty _, .base (.int z), kit_ty (r := true) (by decide +kernel), _, rfl, iteT ?_⟩
    refine ⟨_, rfl, _, _, _, _, _, rfl, .ty _, .base (.int z), kit_ty (r := false) (by decide +kernel), _, rfl, q⟩
def GoodTimes (t : Int) : Prop := t ≠ 0 ∧ -(10 ^ 30) ≤ t ∧ t ≤ 10 ^ 30
def spIsGreat (K : PySem.W.Frag) : Sp := fun vs H Q _ => ∃ (n v : Addr) (l : List Str) (s : Str × Int), vs = [.ref n, .ref v] ∧ SqT K H n (l.map V.str) ∧ SqT K H v [.str s.1, .int s.2] ∧ s.1 ∈ l ∧ s.2 ≠ 0 ∧ Q (.bl true) H
theorem c_is_great_step (T : Tx K mg) : Cl P w K mg base CX0 2 "is_great_step" (spIsGreat K) := by
  refine cl0 T.d_is_great_step (ps := ["names", "value"]) (fun _ _ _ _ _ _ us hl => match us, hl with | [_, _], _ => rfl) sc_is_great_step (fun vs H Q E h => ?_) (fun f cdv A outer st H vs Q E hr h => ?_)
  · obtain ⟨n, v, l, s, rfl, _⟩ := h
    rfl
  · obtain ⟨n, v, l, s, rfl, hN, hV, ha, t0, q⟩ := h
    have nd := sc_is_great_step.nd
    refine ⟨_, pss_cons (ps_if (pt_not (pt_val (pe_k (c_is_pair T) hr (by decide) (by rfl) (pa_cons (pv 1) pa_nil)))) pss_never pss_nil)
      (pss_cons (ps_asg (pv 1) (pg_tup rfl (pgs_cons (pg_name (i := 2) nd rfl (.inl rfl)) (pgs_cons (pg_name (i := 3) nd rfl (.inl rfl)) pgs_nil))))
      (pss_one (ps_ret (pe_and (pe_cmpR op_in_seq (pv 2) (pv 0) (by rfl)) (pe_and (pe_k (c_is_whole T) hr (by decide) (by rfl) (pa_cons (pv 3) pa_nil)) (pe_one (pe_cmpR op_ne (pv 3) pe_int (nomark _)))))))), ?_⟩
    refine ⟨_, rfl, v, _, rfl, hV, _, rfl, iteF ?_⟩
    refine ⟨_, rfl, v, _, rfl, hV, rfl, _, _, rfl, _, _, rfl, rfl, ?_⟩
    refine ⟨_, rfl, _, rfl, n, _, rfl, .inr hN, rfl, flat_strs l, _, rfl, ?_⟩
    rw [if_neg Bool.false_ne_true, inV_strs, show l.contains s.1 = true by simpa using ha]
    refine iteT ⟨_, rfl, _, rfl, _, rfl, iteT ?_⟩
    refine ⟨_, rfl, rfl, ?_⟩
    have e : (!decide (V.int s.2 = V.int 0)) = true := by
      rw [dec_int]
      simp [t0]
    rw [e]
    exact q
def spIsTimes : Sp := fun vs H Q _ => ∃ z : Int, vs = [.int z] ∧ GoodTimes z ∧ Q (.bl true) H
theorem c_is_times (T : Tx K mg) : Cl P w K mg base CX0 2 "is_times" spIsTimes := by
  refine cl0 T.d_is_times (ps := ["value"]) (fun _ _ _ _ _ _ us hl => match us, hl with | [_], _ => rfl) sc_is_times (fun vs H Q E h => ?_) (fun f cdv A outer st H vs Q E hr h => ?_)
  · obtain ⟨z, rfl, _⟩ := h
    rfl
  · obtain ⟨z, rfl, ⟨t0, t1, t2⟩, q⟩ := h
    obtain ⟨tk, hMT⟩ := T.g_MOST_TIMES
    refine ⟨_, pss_one (ps_ret (pe_and (pe_k (c_is_whole T) hr (by decide) (by rfl) (pa_cons (pv 0) pa_nil)) (pe_and (pe_cmpR op_ne (pv 0) pe_int (nomark _))
        (pe_one (pe_cmpR op_le (pe_callB call_abs (by rfl) T.b_abs (by decide +kernel) (pa_cons (pv 0) pa_nil)) (pe_glob (v := .int (10 ^ 30)) (by rfl) hMT ⟨_, rfl⟩) (nomark _)))))), ?_⟩
    refine ⟨_, rfl, _, rfl, _, rfl, iteT ?_⟩
    refine ⟨_, rfl, rfl, _, rfl, ?_⟩
    have e : (!decide (V.int z = V.int 0)) = true := by
      rw [dec_int]
      simp [t0]
    rw [e]
    refine iteT ⟨_, rfl, _, rfl, _, _, rfl, rfl, ?_⟩
    have e2 : decide ((if z < 0 then -z else z) ≤ 10 ^ 30) = true := by
      refine decide_eq_true ?_
      split <;> omega
    show Q (.bl (decide ((if z < 0 then -z else z) ≤ 10 ^ 30))) H
    rw [e2]
    exact q
def spIsStep (K : PySem.W.Frag) : Sp := fun vs H Q _ => ∃ (n v : Addr) (l : List Str) (s : Str × Int), vs = [.ref n, .ref v] ∧ SqT K H n (l.map V.str) ∧ SqT K H v [.str s.1, .int s.2] ∧ s.1 ∈ l ∧ GoodTimes s.2 ∧ Q (.bl true) H
theorem c_is_step (T : Tx K mg) : Cl P w K mg base CX0 3 "is_step" (spIsStep K) := by
  refine cl0 T.d_is_step (ps := ["names", "value"]) (fun _ _ _ _ _ _ us hl => match us, hl with | [_, _], _ => rfl) sc_is_step (fun vs H Q E h => ?_) (fun f cdv A outer st H vs Q E hr h => ?_)
  · obtain ⟨n, v, l, s, rfl, _⟩ := h
    rfl
  · obtain ⟨n, v, l, s, rfl, hN, hV, ha, gt, q⟩ := h
    refine ⟨_, pss_one (ps_ret (pe_and (pe_k (c_is_great_step T) hr (by decide) (by rfl) (pa_cons (pv 0) (pa_cons (pv 1) pa_nil)))
        (pe_one (pe_k (c_is_times T) hr (by decide) (by rfl) (pa_cons (pe_ix (ixk_tup (K := K) rfl) (pv 1) pe_int (fun _ _ => rfl)) pa_nil))))), ?_⟩
    refine ⟨_, rfl, _, rfl, n, v, l, s, rfl, hN, hV, ha, gt.1, _, rfl, iteT ?_⟩
    exact ⟨_, rfl, v, _, _, _, rfl, rfl, hV, rfl, _, rfl, gt, q⟩
def GoodScript (F : Fld) (l : List (Str × Int)) : Prop := l.length ≤ 60 ∧ ∀ s ∈ l, s.1 ∈ F.names ∧ GoodTimes s.2
def spNeedScript (K : PySem.W.Frag) : Sp := fun vs H Q _ => ∃ (a d : Addr) (F : Fld) (l : List (Str × Int)), vs = [.ref a, .ref d] ∧ Dp K H (.ref a) (dField F) ∧ F.Ok ∧ Dp K H (.ref d) (dSteps l) ∧ GoodScript F l ∧ ∀ H', Same H H' → Q (.ref d) H'
theorem c_need_script (T : Tx K mg) : Cl P w K mg base CX0 5 "need_script" (spNeedScript K) := by
  refine cl0 T.d_need_script (ps := ["field", "deeds"]) (fun _ _ _ _ _ _ us hl => match us, hl with | [_, _], _ => rfl) sc_need_script (fun vs H Q E h => ?_) (fun f cdv A outer st H vs Q E hr h => ?_)
  · obtain ⟨a, d, F, l, rfl, _⟩ := h
    rfl
  · obtain ⟨a, d, F, l, rfl, hF, ok, hL, ⟨l60, hg⟩, q⟩ := h
    have nd := sc_need_script.nd
    obtain ⟨tk, hMS⟩ := T.g_MOST_STEPS
    refine ⟨_, pss_cons (ps_asg (pe_k (c_need_field T) hr (by decide) (by rfl) (pa_cons (pv 0) pa_nil)) (pg_tup rfl (pgs_cons (pg_name (i := 2) nd rfl (.inl rfl)) (pgs_cons (pg_name (i := 3) nd rfl (.inl rfl)) pgs_nil))))
      (pss_cons (ps_if (PW.pt (pw_or (pt_not (pt_val (pe_isT "tuple" (by rfl) T.b_isinstance (by rfl) T.b_tuple (by decide +kernel) (pv 1)))) (pw_or1 (pt_cmpR op_gt (pe_lenS (by rfl) T.b_len (pv 1)) (pe_glob (v := .int 60) (by rfl) hMS ⟨_, rfl⟩) (nomark _))))) pss_never pss_nil)
      (pss_cons (ps_for PassesOwn.never rfl (pi_enumT (by rfl) T.b_enumerate (pa_cons (pv 1) pa_nil)) (pg_tup rfl (pgs_cons (pg_name (i := 4) nd rfl (.inl rfl)) (pgs_cons (pg_name (i := 5) nd rfl (.inl rfl)) pgs_nil)))
        (pss_one (ps_if (pt_not (pt_val (pe_k (c_is_step T) hr (by decide) (by rfl) (pa_cons (pv 2) (pa_cons (pv 5) pa_nil))))) pss_never pss_nil)))
      (pss_one (ps_ret (pv 1))))), ?_⟩
    refine ⟨_, rfl, a, F, rfl, hF, ok, fun H1 s1 => ?_⟩
    obtain ⟨_, n, p, ps, e, hA, hN, hP, hD⟩ := (Dp.tk (Tk.of s1) (dField F) (flat_field F) hF).field
    cases e
    obtain ⟨_, vs, e, hS, hV⟩ := (Dp.tk (Tk.of s1) (dSteps l) (flat_steps l) hL).steps
    cases e
    have hl := hV.len
    rw [List.length_map] at hl
    refine ⟨a, _, rfl, hA, rfl, _, _, rfl, _, _, rfl, rfl, ?_⟩
    refine ⟨_, rfl, _, _, _, _, _, rfl, .ty _, tyx_tup hS, kit_ty (r := true) (by decide +kernel), _, rfl, iteF ?_⟩
    refine ⟨_, rfl, d, _, rfl, .inr hS, _, _, rfl, rfl, _, rfl, ?_⟩
    rw [show decide ((60 : Int) < (vs.length : Int)) = false from decide_eq_false (by omega)]
    refine iteF ?_
    refine ⟨_, rfl, d, vs, rfl, hS, for_it (walk_IeT (xs := vs)) (fun i σ H2 => ∃ (y4 y5 : Option V), σ = [some (.ref a), some (.ref d), some (.ref n), some (.ref p), y4, y5] ∧ Same H1 H2)
      ⟨none, none, rfl, Same.refl _⟩ (fun i σ H2 _ ⟨y4, y5, _, s2⟩ => (Tk.of s2).sqT hS) (fun i x σ H2 H3 hi ⟨y4, y5, eσ, s2⟩ hy => ?_) (fun σ H2 ⟨y4, y5, eσ, s2⟩ => ?_)⟩
    · obtain ⟨Tt, x1, x2, rfl, nT, rfl, f1, f2⟩ := hy
      subst eσ
      obtain ⟨d', g1, p1⟩ := hV.get f2
      rw [List.getElem?_map] at g1
      obtain ⟨s, k1, rfl⟩ := Option.map_eq_some_iff.mp g1
      obtain ⟨b, rfl, cb⟩ := p1.step
      have ms := hg s (List.mem_of_getElem? k1)
      have s3 := same_new (o := .tup [x1, .ref b]) s2 nT
      refine ⟨Tt, _, rfl, SqT.of upd_same, rfl, _, _, rfl, _, _, rfl, rfl, ?_⟩
      refine ⟨_, rfl, _, rfl, n, b, F.names, s, rfl, (Tk.of s3).sqT hN, (Tk.of s3).sqT cb, ms.1, ms.2, _, rfl, iteF ?_⟩
      exact ⟨_, _, rfl, s3⟩
    · subst eσ
      exact ⟨_, rfl, q _ (s1.trans s2)⟩
/-! ### touching -/
theorem any_pairs (ps : List (Str × Str)) (a b : Str) : (ps.map dPair).any (fun z => PyData.eqv z (dPair (a, b))) = ps.contains (a, b) := by
  induction ps with
  | nil => rfl
  | cons p r ih =>
    rw [List.map_cons, List.any_cons, ih, List.contains_cons]
    congr 1
    obtain ⟨c, d⟩ := p
    show (PyData.eqv (.str c) (.str a) && (PyData.eqv (.str d) (.str b) && true)) = ((a, b) == (c, d))
    show ((c == a) && ((d == b) && true)) = ((a == c) && (b == d))
    rw [Bool.and_true]
    rw [show (c == a) = (a == c) from BEq.comm, show (d == b) = (b == d) from BEq.comm]
theorem strOk_of {n : Str} (h : GoodName n) : PyData.strOk n = true := by
  obtain ⟨h1, h6, hc⟩ := h
  unfold PyData.strOk
  rw [← Array.all_toList, List.all_eq_true]
  intro c m
  have := hc c m
  exact decide_eq_true (by omega)
theorem lay_pair {p : Str × Str} (h1 : GoodName p.1) (h2 : GoodName p.2) : (dPair p).canLay0 = true := by
  show PyData.canLay0 (.tuple [.str p.1, .str p.2]) = true
  simp [PyData.canLay0, PyData.canLayAll0, strOk_of h1, strOk_of h2]
theorem sh_pair {p : Str × Str} (h1 : GoodName p.1) (h2 : GoodName p.2) : SeqAt.shaped (dPair p) = true := by
  unfold SeqAt.shaped
  rw [lay_pair h1 h2]
  show (true && _) = true
  simp [dPair, PyData.depth, PyData.depthAll]
theorem layPairs : ∀ {ps : List (Str × Str)}, (∀ p ∈ ps, GoodName p.1 ∧ GoodName p.2) → PyData.canLayAll0 (ps.map dPair) = true
  | [], _ => rfl
  | p :: ps, h => by
    rw [List.map_cons, PyData.canLayAll0, layPairs fun x hx => h x (List.mem_cons_of_mem _ hx), lay_pair (h p List.mem_cons_self).1 (h p List.mem_cons_self).2]
    rfl
theorem deepPairs : ∀ ps : List (Str × Str), PyData.depthAll (ps.map dPair) ≤ 2
  | [] => by decide
  | p :: ps => by
    rw [List.map_cons, PyData.depthAll]
    have := deepPairs ps
    have e : (dPair p).depth ≤ 2 := by
      show PyData.depth (.tuple [.str p.1, .str p.2]) ≤ 2
      simp [PyData.depth, PyData.depthAll]
    omega
theorem sh_pairs {ps : List (Str × Str)} (h : ∀ p ∈ ps, GoodName p.1 ∧ GoodName p.2) : SeqAt.shaped (.tuple (ps.map dPair)) = true := by
  have h2 := deepPairs ps
  show (PyData.canLayAll0 (ps.map dPair) && decide (PyData.depthAll (ps.map dPair) + 1 ≤ 64)) = true
  rw [layPairs h, Bool.true_and]
  exact decide_eq_true (by omega)
theorem Fld.Ok.good {F : Fld} (ok : F.Ok) : ∀ p ∈ F.pairs, GoodName p.1 ∧ GoodName p.2 := fun p hp => ⟨ok.sgn _ (ok.inN p hp).1, ok.sgn _ (ok.inN p hp).2⟩
def spAreApart (K : PySem.W.Frag) : Sp := fun vs H Q _ => ∃ (p : Addr) (ps : List V) (F : Fld) (a b : Str), vs = [.ref p, .str a, .str b] ∧ SqT K H p ps ∧ DpAll K H ps (F.pairs.map dPair) ∧ F.Ok ∧ a ∈ F.names ∧ b ∈ F.names ∧ ∀ H', Same H H' → Q (.bl (apart F a b)) H'
theorem c_are_apart (T : Tx K mg) : Cl P w K mg base CX0 1 "are_apart" (spAreApart K) := by
  refine cl0 T.d_are_apart (ps := ["pairs", "one", "other"]) (fun _ _ _ _ _ _ us hl => match us, hl with | [_, _, _], _ => rfl) sc_are_apart (fun vs H Q E h => ?_) (fun f cdv A outer st H vs Q E hr h => ?_)
  · obtain ⟨p, ps, F, a, b, rfl, _⟩ := h
    rfl
  · obtain ⟨p, ps, F, a, b, rfl, hP, hD, ok, ma, mb, q⟩ := h
    have hu := u65 hr
    refine ⟨_, pss_one (ps_ret (pe_cmpR (op_inDTk (K := K) rfl hu) (pe_tup (pa_cons (pe_callB (call_min2S rfl) (by rfl) T.b_min (by decide +kernel) (pa_cons (pv 1) (pa_cons (pv 2) pa_nil)))
      (pa_cons (pe_callB (call_max2S rfl) (by rfl) T.b_max (by decide +kernel) (pa_cons (pv 1) (pa_cons (pv 2) pa_nil))) pa_nil))) (pv 0) (by rfl))), ?_⟩
    refine ⟨_, rfl, _, rfl, _, _, rfl, _, rfl, _, rfl, _, _, rfl, (show 2 ≤ sizeLine by decide), fun t ht => ⟨_, rfl, dPair ((if sLt b a then b else a), (if sLt a b then b else a)), F.pairs.map dPair, .tup (SqT.of upd_same) (.cons (.str _) (.cons (.str _) .nil)), .tup ((Tk.of (same_upd ht)).sqT hP) (DpAll.tk (Tk.of (same_upd ht)) _ (flatAll_of fun d hd => ?_) hD), sh_pair ?_ ?_, sh_pairs ok.good, ?_⟩⟩
    · obtain ⟨y, _, rfl⟩ := List.mem_map.mp hd
      rfl
    · show GoodName (if sLt b a then b else a)
      split <;> first | exact ok.sgn _ ma | exact ok.sgn _ mb
    · show GoodName (if sLt a b then b else a)
      split <;> first | exact ok.sgn _ ma | exact ok.sgn _ mb
    · rw [any_pairs, apart_min ok]
      exact q _ (same_upd ht)
def spNamesTouching (K : PySem.W.Frag) : Sp := fun vs H Q _ => ∃ (a : Addr) (F : Fld) (n : Str), vs = [.ref a, .str n] ∧ Dp K H (.ref a) (dField F) ∧ F.Ok ∧ n ∈ F.names ∧ ∀ H' q, Same H H' → SqT K H' q ((touchL F n).map V.str) → Q (.ref q) H'
theorem c_names_touching (T : Tx K mg) : Cl P w K mg base CX0 2 "names_touching" (spNamesTouching K) := by
  refine cl0 T.d_names_touching (ps := ["field", "name"]) (fun _ _ _ _ _ _ us hl => match us, hl with | [_, _], _ => rfl) sc_names_touching (fun vs H Q E h => ?_) (fun f cdv A outer st H vs Q E hr h => ?_)
  · obtain ⟨a, F, n, rfl, _⟩ := h
    rfl
  · obtain ⟨a, F, m, rfl, hF, ok, mn, q⟩ := h
    have nd := sc_names_touching.nd
    obtain ⟨_, n, p, ps, e, hA, hN, hP, hD⟩ := hF.field
    cases e
    refine ⟨_, pss_cons (ps_asg (pv 0) (pg_tup rfl (pgs_cons (pg_name (i := 2) nd rfl (by first | exact .inl rfl | exact .inr rfl)) (pgs_cons (pg_name (i := 3) nd rfl (by first | exact .inl rfl | exact .inr rfl)) pgs_nil))))
      (pss_one (ps_ret (pe_tupleOf (by rfl) T.b_tuple (pe_lc (own := [("other", 4)]) (g := gName 4) (tt := _) (by rfl) nd (pi_tup (pv 2))
        (blkOk_by (own := [("other", 4)]) (N := ["field", "name", "names", "pairs", "other"]) (sc := defScope s_names_touching) (by decide +kernel)) (fun _ _ _ _ _ => pg_name (i := 4) nd rfl (Or.inl rfl))
        (fun _ _ _ _ _ => pts_one (pt_not (pt_val (pe_k (c_are_apart T) hr (by decide) (by rfl) (pa_cons (pv 3) (pa_cons (pv 1) (pa_cons (pv 4) pa_nil))))))) (fun _ _ _ _ _ => pv 4))))), ?_⟩
    refine ⟨_, rfl, a, _, rfl, hA, rfl, _, _, rfl, _, _, rfl, rfl, ?_⟩
    refine ⟨_, rfl, n, rfl, ⟨_, hN⟩, fun D hD' => ?_⟩
    refine lc_it (walk_tup (xs := F.names.map V.str)) (fun i H' => H' D = some (.lst (((F.names.take i).filter fun o => !apart F m o).map V.str)) ∧ Same H H') ⟨upd_same, same_upd hD'⟩ (fun _ _ _ ⟨_, s'⟩ => (Tk.of s').sqT hN) (fun i x H2 H3 hi ⟨eD, s'⟩ hy => ?_) (fun H2 ⟨eD, s'⟩ => ?_)
    · obtain ⟨rfl, hx⟩ := hy
      obtain ⟨o, ho, rfl⟩ := str_at hx
      have mo := List.mem_of_getElem? ho
      refine ⟨rfl, ?_⟩
      refine ⟨_, rfl, _, rfl, _, rfl, p, ps, F, m, o, rfl, (Tk.of s').sqT hP, DpAll.tk (Tk.of s') _ (flatAll_of fun d hd => ?_) hD, ok, mn, mo, fun H4 s4 => ⟨_, rfl, ?_⟩⟩
      · obtain ⟨y, _, rfl⟩ := List.mem_map.mp hd
        rfl
      · have et : F.names.take (i + 1) = F.names.take i ++ [o] := by
          rw [List.take_add_one, ho]
          rfl
        rw [et, List.filter_append, List.map_append]
        cases ha : apart F m o
        · refine iteT ⟨_, rfl, _, s4 _ _ eD, ?_, ?_, same_put (s'.trans s4) hD'⟩
          · rw [List.length_map]
            refine small1000 (Nat.le_trans (List.length_filter_le _ _) ?_)
            have := ok.n6
            rw [List.length_take]
            omega
          · rw [upd_same]
            simp [ha]
        · refine iteF ⟨?_, s'.trans s4⟩
          rw [s4 _ _ eD]
          simp [ha]
    · rw [List.length_map, List.take_length] at eD
      exact .inl ⟨D, _, rfl, SqL.of eD, fun r hr' => q _ r (same_new s' hr') (SqT.of upd_same)⟩
def TouchAt (K : PySem.W.Frag) (H : Hp) (t : Addr) (F : Fld) : Prop := ∃ kvs : List (Key × V), H t = some (.dK kvs) ∧ ∀ n ∈ F.names, ∃ a, valV kvs (.inr n) = some (.ref a) ∧ SqT K H a ((touchL F n).map V.str)
theorem TouchAt.same {K : PySem.W.Frag} {H H' : Hp} {t : Addr} {F : Fld} (h : TouchAt K H t F) (s : Same H H') : TouchAt K H' t F := by
  obtain ⟨kvs, e, g⟩ := h
  refine ⟨kvs, s _ _ e, fun n hn => ?_⟩
  obtain ⟨a, e1, e2⟩ := g n hn
  exact ⟨a, e1, (Tk.of s).sqT e2⟩
def spTouchTable (K : PySem.W.Frag) : Sp := fun vs H Q _ => ∃ (a : Addr) (F : Fld), vs = [.ref a] ∧ Dp K H (.ref a) (dField F) ∧ F.Ok ∧ ∀ H' t, Same H H' → H t = none → TouchAt K H' t F → Q (.ref t) H'
theorem c_touch_table (T : Tx K mg) : Cl P w K mg base CX0 3 "touch_table" (spTouchTable K) := by
  refine cl0 T.d_touch_table (ps := ["field"]) (fun _ _ _ _ _ _ us hl => match us, hl with | [_], _ => rfl) sc_touch_table (fun vs H Q E h => ?_) (fun f cdv A outer st H vs Q E hr h => ?_)
  · obtain ⟨a, F, rfl, _⟩ := h
    rfl
  · obtain ⟨a, F, rfl, hF, ok, q⟩ := h
    have nd := sc_touch_table.nd
    obtain ⟨_, n, p, ps, e, hA, hN, hP, hD⟩ := hF.field
    cases e
    refine ⟨_, pss_cons (ps_asg (pv 0) (pg_tup rfl (pgs_cons (pg_name (i := 1) nd rfl (by first | exact .inl rfl | exact .inr rfl)) (pgs_cons (pg_name (i := 2) nd rfl (by first | exact .inl rfl | exact .inr rfl)) pgs_nil))))
      (pss_one (ps_ret (pe_dc (own := [("name", 3)]) (g := gName 3) (tt := tYes) (by rfl) nd (pi_tup (pv 1))
        (blkOk_by (own := [("name", 3)]) (N := ["field", "names", "_", "name"]) (sc := defScope s_touch_table) (by decide +kernel)) (fun _ _ _ _ _ => pg_name (i := 3) nd rfl (Or.inl rfl))
        (fun _ _ _ _ _ => pts_nil) (fun _ _ _ _ _ => pv 3) (fun _ _ _ _ _ => pe_k (c_names_touching T) hr (by decide) (by rfl) (pa_cons (pv 0) (pa_cons (pv 3) pa_nil)))))), ?_⟩
    refine ⟨_, rfl, a, _, rfl, hA, rfl, _, _, rfl, _, _, rfl, rfl, ?_⟩
    refine ⟨_, rfl, n, rfl, ⟨_, hN⟩, fun D hD' => ?_⟩
    refine dc_tup (xs := F.names.map V.str) (fun i H' => ∃ kvs : List (Key × V), H' D = some (.dK kvs) ∧ kvs.length ≤ i ∧ (∀ n ∈ F.names.take i, ∃ a, valV kvs (.inr n) = some (.ref a) ∧ SqT K H' a ((touchL F n).map V.str)) ∧ Same H H')
      ⟨[], upd_same, Nat.le_refl _, (fun n hn => nomatch hn), same_upd hD'⟩ (fun _ _ _ ⟨_, _, _, _, s'⟩ => (Tk.of s').sqT hN) (fun i x H2 hx ⟨kvs, eD, kl, kk, s'⟩ => ?_) (fun H2 ⟨kvs, eD, kl, kk, s'⟩ => ?_)
    · obtain ⟨o, ho, rfl⟩ := str_at hx
      have mo := List.mem_of_getElem? ho
      have hi := (List.getElem?_eq_some_iff.mp ho).1
      refine ⟨rfl, yes_ ?_⟩
      refine ⟨_, rfl, _, rfl, _, rfl, a, F, o, rfl, Dp.tk (Tk.of s') _ (flat_field F) hF, ok, mo, fun H4 r s4 hr' => ⟨kvs, .inr o, rfl, s4 _ _ eD, ?_, putK kvs (.inr o) (.ref r), upd_same, ?_, fun x hx' => ?_, same_put (s'.trans s4) hD'⟩⟩
      · have := ok.n6
        exact small1000 (by omega)
      · have := length_putK kvs (.inr o) (.ref r)
        omega
      · have k4 : Tk H4 (upd H4 D (.dK (putK kvs (.inr o) (.ref r)))) := Tk.refl.mut (s4 _ _ eD) (fun _ q => nomatch q) (fun _ _ q => nomatch q)
        rw [valV_put]
        by_cases e : x = o
        · subst e
          exact ⟨r, if_pos rfl, k4.sqT hr'⟩
        · rw [List.take_add_one, ho] at hx'
          have m : x ∈ F.names.take i := by
            rcases List.mem_append.mp hx' with h | h
            · exact h
            · exact absurd (List.mem_singleton.mp h) e
          obtain ⟨b, e1, e2⟩ := kk x m
          refine ⟨b, ?_, k4.sqT ((Tk.of s4).sqT e2)⟩
          rw [if_neg (fun q => e (Sum.inr.inj q))]
          exact e1
    · rw [List.length_map, List.take_length] at kk
      exact q _ D s' hD' ⟨kvs, eD, kk⟩
end
end XB
set_option Elab.async false
set_option linter.all false
set_option maxRecDepth 100000
set_option maxHeartbeats 4000000
/-! t[::-1] of a tuple -/
namespace HT
open PySem PySem.Spec PyProof.Rows
section
variable {prog : Program} {w : World} {A : Around} {E : Value → Shared → Prop} {s : Shared}
theorem adjust_rev (n : Nat) : Builtin.Slice.sliceAdjust none none (-1) (n : Int) = ((n : Int) - 1, -1) := by
  unfold Builtin.Slice.sliceAdjust
  rfl
theorem places_rev (n : Nat) : Builtin.Slice.slicePlaces ((n : Int) - 1) (-1) (-1) = n := by
  unfold Builtin.Slice.slicePlaces
  have h1 : ¬ ((-1 : Int) > 0) := by decide
  simp only [h1, if_false]
  rw [show (- -1 : Int) = 1 from rfl, Int.ediv_one]
  split <;> omega
theorem sliceApplied_rev {sl : Addr} {n : Nat} {u : Tok} {Q : Int × Int × Nat → Shared → Prop} (hs : s.heap.IsSliceOf sl .none .none (.int (-1) u))
    (h : Q ((n : Int) - 1, -1, n) s) : wpAny (model prog w) A (Builtin.Slice.sliceApplied (.ref sl) (pure (n : Int))) Q E s := by
  obtain ⟨os, hos, hcs, hds⟩ := id hs
  unfold Builtin.Slice.sliceApplied Builtin.Slice.sliceFields
  refine wpAny_bind (wpAny_bind (wpAny_field hos hds (x := .none) rfl (wpAny_bind (wpAny_field hos hds (x := .none) rfl (wpAny_bind (wpAny_field hos hds (x := .int (-1) u) rfl (wpAny_pure ?_)))))))
  refine wpAny_bind (slicePart_int ?_)
  show wpAny _ _ (if ((-1 : Int) == 0) = true then _ else _) _ _ s
  rw [if_neg (by decide)]
  refine wpAny_bind (slicePart_none (wpAny_bind (slicePart_none (wpAny_bind (wpAny_pure ?_)))))
  show wpAny _ _ (match Builtin.Slice.sliceAdjust none none (-1) (n : Int) with | (lo, hi) => pure (lo, (-1 : Int), Builtin.Slice.slicePlaces lo hi (-1))) _ _ s
  rw [adjust_rev n]
  show wpAny _ _ (pure ((n : Int) - 1, (-1 : Int), Builtin.Slice.slicePlaces ((n : Int) - 1) (-1) (-1))) _ _ s
  rw [places_rev]
  exact wpAny_pure h
theorem pick_rev (xs : Array Value) : ((List.range xs.size).filterMap fun (m : Nat) => xs[(((xs.size : Int) - 1) + (m : Int) * -1).toNat]?).toArray = xs.toList.reverse.toArray := by
  have e : (fun (m : Nat) => xs[(((xs.size : Int) - 1) + (m : Int) * -1).toNat]?) = (fun k => xs[k]?) ∘ fun m => xs.size - 1 - m := by
    funext m
    have : (((xs.size : Int) - 1) + (m : Int) * -1).toNat = xs.size - 1 - m := by omega
    rw [this]
    rfl
  rw [e, ← List.filterMap_map, PySem.W.krv_range, List.filterMap_reverse, PySem.W.krv_all]
theorem getItem_tuple_rev {t sl : Addr} {items : Array Value} {u : Tok} {Q : Value → Shared → Prop} (ht : IsTup s.heap t items) (hs : s.heap.IsSliceOf sl .none .none (.int (-1) u))
    (h : Q (.ref s.heap.objs.size) { s with heap := s.heap.push { cls := .type "tuple", data := .seq items.toList.reverse.toArray } })
    (hsz : items.size ≤ sizeLine) : wpAny (model prog w) A (getItem (.ref t) (.ref sl)) Q E s := by
  have htake : sizeOk (.seq items.toList.reverse.toArray) := by
    show items.toList.reverse.toArray.size ≤ sizeLine
    rw [List.size_toArray, List.length_reverse, Array.length_toList]
    exact hsz
  obtain ⟨os, hos, hcs, hds⟩ := id hs
  have hTs : s.TypeIs (.ref sl) "slice" := ⟨os, hos, hcs⟩
  unfold getItem
  try with_reducible refine wpAny_holding ?_
  first | refine wpAny_bind (wpAny_pure ?_) | skip
  refine wpAny_bind (wpAny_sequenceKey ht.typeIs (by decide) ?_)
  refine wpAny_bind (wpAny_callSpecial?_slot (name := Str.ofString "__getitem__") ht.typeIs PyProof.Rows.slot_tuple_getitem
    (wpAny_call_entry PyProof.Rows.slot_tuple_getitem ht.typeIs entry_tuple_getitem ?_ (args_tuple_getitem _ _)))
  show wpAny _ _ (Builtin.Tuple.tupleItemsOf (.ref t) >>= _) _ _ s
  refine wpAny_bind (tupleItemsOf_ ht ?_)
  refine wpAny_bind (wpAny_typeOf hTs ?_)
  rw [if_pos (by decide)]
  refine wpAny_bind (sliceApplied_rev hs ?_)
  have hno : ¬ ((((items.size : Int) - 1) == 0 && (-1 : Int) == 1 && items.size == items.size) = true) := by
    intro q
    rw [Bool.and_eq_true, Bool.and_eq_true] at q
    exact absurd q.1.2 (by decide)
  show wpAny _ _ (if ((((items.size : Int) - 1) == 0 && (-1 : Int) == 1 && items.size == items.size) = true) then _ else _) _ _ s
  rw [if_neg hno, pick_rev]
  first
    | exact wpAny_bind (m := Builtin.Tuple.tupleExact _) (wpAny_newObj_type (wpAny_pure ⟨_, rfl, wpAny_pure h⟩) htake)
    | exact wpAny_bind (m := Builtin.Tuple.tupleExact _) (wpAny_newObj_type (wpAny_bind (wpAny_pure (wpAny_pure ⟨_, rfl, wpAny_pure h⟩))) htake)
    | exact wpAny_bind (wpAny_bind (m := Builtin.Tuple.tupleExact _) (wpAny_newObj_type (wpAny_pure (wpAny_pure ⟨_, rfl, wpAny_pure h⟩)) htake))
    | exact wpAny_bind (wpAny_bind (m := Builtin.Tuple.tupleExact _) (wpAny_newObj_type (wpAny_pure ⟨_, rfl, wpAny_pure h⟩) htake))
end
end HT
namespace XB
open PySem PySem.Spec PyProof.Rows L2
section
variable {X : Cx}
def tRevT (K : PySem.W.Frag) (te : TE) : TE := fun σ H Q => te σ H fun x H1 => ∃ a xs, x = .ref a ∧ SqT K H1 a xs ∧ ∀ p, H1 p = none → Q (.ref p) (upd H1 p (.tup xs.reverse))
theorem pe_revT {e : Expr} {te : TE} {k : Nat} {p1 p2 p3 pos : Pos} (he : PE X e te) : PE X (.Subscript e (.Slice none none (some (.UnaryOp .USub (.Constant (.int 1) k p1) p2)) p3) pos) (tRevT X.K te) := by
  refine ⟨fun pins s σ H Q I h => ?_⟩
  refine Subscript_ (thn (he.run pins s σ H _ I h) fun v s1 ⟨x, H1, I1, r1, q1⟩ => ?_)
  obtain ⟨a, xs, ex, hx, q⟩ := q1
  subst ex
  cases r1
  have hst : PO X (some (.UnaryOp .USub (.Constant (.int 1) k p1) p2)) (tPart (tUn (rU fun i => .int (-i)) (tC (.int 1)))) := po_some (pe_un un_neg pe_int)
  refine wpAny_Slice (thn (po_none.run pins s1 σ H1 (fun o H2 => o = none ∧ H2 = H1) I1 ⟨rfl, rfl⟩) fun vl s2 ⟨l, H2, I2, pl, el, e2⟩ => ?_)
  subst el e2
  refine thn (po_none.run pins s2 σ H2 (fun o H3 => o = none ∧ H3 = H2) I2 ⟨rfl, rfl⟩) fun vu s3 ⟨u, H3, I3, pu, eu, e3⟩ => ?_
  subst eu e3
  refine thn (hst.run pins s3 σ H3 (fun o H4 => o = some (-1) ∧ H4 = H3) I3 ⟨1, rfl, -1, rfl, rfl, rfl⟩) fun vs s4 ⟨o, H4, I4, ps, eo, e4⟩ => ?_
  subst eo e4
  cases pl
  cases pu
  cases ps with
  | int i tk =>
    have I5 : Inv X pins σ H4 { s4 with heap := s4.heap.push { cls := .type "slice", data := .fields #[.none, .none, .int (-1) tk] } } := I4.kept (t' := s4.toks) fun b ob q => Heap.get?_push_of_some _ q
    obtain ⟨its, r, ht, hz⟩ := I5.tuple hx
    have hlen := r.length
    show wpAny (model X.prog X.w) X.A (subscriptTail e (.Slice none none (some (.UnaryOp .USub (.Constant (.int 1) k p1) p2)) p3) (.ref a) (.ref s4.heap.objs.size)) (EP X pins σ Q) X.xe { s4 with heap := s4.heap.push { cls := .type "slice", data := .fields #[.none, .none, .int (-1) tk] } }
    refine tail_any (ops := [.ref a, .ref s4.heap.objs.size]) ht.typeIs PyProof.Rows.slot_tuple_getitem.lookup ?_ (by with_unfolding_all rfl)
    refine HT.getItem_tuple_rev ht (Heap.IsSliceOf.new _ .none .none (.int (-1) tk)) ?_ (by rw [List.size_toArray]; omega)
    refine ⟨.ref _, _, I5.laid (t' := s4.toks) (o := .tup xs.reverse) (fun b ob q => Heap.get?_push_of_some _ q) (Nat.le_refl _) ?_, rfl, q _ (I5.hok.fresh (Nat.le_refl _))⟩
    exact ⟨by rw [List.length_reverse]; exact hz, _, r.reverse, ⟨_, Heap.get?_push_size _ rfl, rfl, _, rfl⟩⟩
end
end XB
set_option Elab.async false
set_option linter.all false
set_option maxRecDepth 100000
set_option maxHeartbeats 4000000
/-! rules of rows, lists or tuples -/
namespace XB
open PySem PySem.Spec PyProof.Rows L2
def SqX (K : PySem.W.Frag) (H : Hp) (p : Addr) (xs : List V) : Prop := SqL K H p xs ∨ SqT K H p xs
theorem SqX.same {K : PySem.W.Frag} {H H' : Hp} {p : Addr} {xs : List V} (s : Same H H') (h : SqX K H p xs) : SqX K H' p xs := h.elim (fun h => .inl (s.seq h)) fun h => .inr ((Tk.of s).sqT h)
def rIxX (K : PySem.W.Frag) : R2 := fun x y H Q => ∃ p xs i v, x = .ref p ∧ y = .int i ∧ SqX K H p xs ∧ atI xs i = some v ∧ Q v H
section
variable {X : Cx}
theorem ixk_row {K : PySem.W.Frag} (hk : X.K = K) : IxR X (rIxX K) := by
  subst hk
  intro value slice pins s σ H x y v u Q I rx ry h hs
  obtain ⟨p, xs, i, z, e1, e2, hq, he, q⟩ := h
  rcases hq with hq | hq
  · exact ix_list value slice pins s σ H x y v u Q I rx ry ⟨p, xs, i, z, e1, e2, hq, he, q⟩ hs
  · exact ix_tup value slice pins s σ H x y v u Q I rx ry ⟨p, xs, i, z, e1, e2, hq, he, q⟩ hs
/-- a part of a row, whatever its kind: a row of the same kind, old or new -/
def rSlX (K : PySem.W.Frag) : V → Option Int → Option Int → Hp → VK → Prop := fun x lo hi H Q => ∃ p xs, x = .ref p ∧ SqX K H p xs ∧ ∀ H' q, Same H H' → SqX K H' q (cutV xs lo hi) → Q (.ref q) H'
theorem cut_whole {xs : List V} {lo hi : Option Int} (h : HT.sIx xs.length 0 lo = 0 ∧ HT.sIx xs.length xs.length hi = xs.length) : cutV xs lo hi = xs := by
  unfold cutV
  rw [h.1, h.2]
  simp
theorem slk_row {K : PySem.W.Frag} (hk : X.K = K) : SlR X (rSlX K) := by
  subst hk
  intro pins s σ H x v vl vu lo hi sl Q I rx hs pl pu h
  obtain ⟨p, xs, e, hq, q⟩ := h
  rcases hq with hq | hq
  · exact sl_list pins s σ H x v vl vu lo hi sl Q I rx hs pl pu ⟨p, xs, e, hq, fun r hr => q _ r (same_upd hr) (.inl (SqL.of upd_same))⟩
  · exact sl_tupA pins s σ H x v vl vu lo hi sl Q I rx hs pl pu ⟨p, xs, e, hq, fun hw => q _ p (Same.refl _) (by rw [cut_whole hw]; exact .inr hq), fun _ r hr => q _ r (same_upd hr) (.inr (SqT.of upd_same))⟩
/-- a row walked through, whatever its kind -/
def iRow (K : PySem.W.Frag) (tl : TE) : TI := fun σ H R => tl σ H fun x H1 => ∃ a xs, x = .ref a ∧ SqX K H1 a xs ∧ ∀ (J : It) (G : Hp → Prop), (∀ H', Same H1 H' → G H') → Walk J xs.length G (YAt xs) → R J H1
theorem pi_row {l tg : Expr} {tl : TE} (hl : PE X l tl) : PI X tg l (iRow X.K tl) := by
  refine ⟨fun pins s σ H R I h => ?_⟩
  refine thn (hl.run pins s σ H _ I h) fun v s1 ⟨x, H1, I1, r1, q1⟩ => ?_
  obtain ⟨a, xs, e, hq, q⟩ := q1
  subst e
  cases r1
  rcases hq with hq | hq
  · obtain ⟨its, rv, p, hz⟩ := I1.list hq
    refine wpAny_pyIter_list p.isList ?_
    refine ⟨s1.heap.objs.size, [s1.heap.objs.size], _, _, H1, rfl, I1.kept (t' := s1.toks) fun b o e => Heap.get?_push_of_some _ e, turn_list a _, ⟨_, Heap.get?_push_size _ rfl, rfl, rfl⟩, fun b hb => ?_, q _ _ (fun H' s' => s'.seq hq) walk_list⟩
    have e : b = s1.heap.objs.size := by simpa using hb
    subst e
    exact I1.fpOk (Nat.le_refl _) (I1.hok.fresh (Nat.le_refl _))
  · obtain ⟨its, rv, p, hz⟩ := I1.tuple hq
    refine wpAny_pyIter_tuple (show s1.heap.IsTuple a its.toArray from p) ?_
    refine ⟨s1.heap.objs.size, [s1.heap.objs.size], _, _, H1, rfl, I1.kept (t' := s1.toks) fun b o e => Heap.get?_push_of_some _ e, turn_tuple a _, ⟨_, Heap.get?_push_size _ rfl, rfl, rfl⟩, fun b hb => ?_, q _ _ (fun H' s' => (Tk.of s').sqT hq) walk_tup⟩
    have e : b = s1.heap.objs.size := by simpa using hb
    subst e
    exact I1.fpOk (Nat.le_refl _) (I1.hok.fresh (Nat.le_refl _))
end
theorem cut_init (xs : List V) (k : Nat) : cutV xs none (some (k : Int)) = xs.take k := by
  unfold cutV
  rw [HT.sIx_none, HT.sIx_nat]
  rw [List.drop_zero, Nat.sub_zero]
  by_cases h : k ≤ xs.length
  · rw [Nat.min_eq_left h]
  · rw [Nat.min_eq_right (by omega), List.take_of_length_le (Nat.le_refl _), List.take_of_length_le (by omega)]
theorem cut_from (xs : List V) (k : Nat) : cutV xs (some (k : Int)) none = xs.drop k := by
  unfold cutV
  rw [HT.sIx_none, HT.sIx_nat]
  by_cases h : k ≤ xs.length
  · rw [Nat.min_eq_left h, List.take_of_length_le (by rw [List.length_drop]; omega)]
  · rw [Nat.min_eq_right (by omega), List.drop_of_length_le (Nat.le_refl _), List.drop_of_length_le (by omega)]
    simp
end XB
set_option Elab.async false
set_option linter.all false
set_option maxRecDepth 100000
set_option maxHeartbeats 4000000
namespace XB
open PySem PySem.Spec PyProof.Rows L2
theorem take_snoc {α : Type} {l : List α} {k : Nat} {s : α} (h : l[k]? = some s) : l.take (k + 1) = l.take k ++ [s] := by
  rw [List.take_add_one, h]
  rfl
theorem drop_at {α : Type} {l : List α} {k : Nat} {s : α} (h : l[k]? = some s) : l.drop k = s :: l.drop (k + 1) := by
  obtain ⟨h1, rfl⟩ := List.getElem?_eq_some_iff.mp h
  exact List.drop_eq_getElem_cons h1
section
variable {P : Program} {w : World} {K : PySem.W.Frag} {mg : Str → Option Value} {base : Heap}
def spLastTouched (K : PySem.W.Frag) : Sp := fun vs H Q _ => ∃ (a l : Addr) (ns : List Str) (xs : List V) (row : List (Str × Int)), vs = [.ref a, .ref l] ∧ SqT K H a (ns.map V.str) ∧ SqX K H l xs ∧ DpAll K H xs (row.map dStep) ∧ Q (.int (XM.lastIx (fun b => ns.contains b) row.reverse)) H
theorem c_last_touched (T : Tx K mg) : Cl P w K mg base CX0 1 "last_touched" (spLastTouched K) := by
  refine cl0 T.d_last_touched (ps := ["names", "pieces"]) (fun _ _ _ _ _ _ us hl => match us, hl with | [_, _], _ => rfl) sc_last_touched (fun vs H Q E h => ?_) (fun f cdv A outer st H vs Q E hr h => ?_)
  · obtain ⟨a, l, ns, xs, row, rfl, _⟩ := h
    rfl
  · obtain ⟨a, l, ns, xs, row, rfl, hA, hS, hD, q⟩ := h
    have nd := sc_last_touched.nd
    have hl := hD.len
    rw [List.length_map] at hl
    refine ⟨_, pss_cons (ps_set (i := 2) nd rfl (.inl rfl) (pe_op op_sub (pe_lenS (by rfl) T.b_len (pv 1)) pe_int))
      (pss_cons (ps_while PassesOwn.never (PW.pt (pw_and (pt_cmpR op_ge (pv 2) pe_int (nomark _)) (pw_and1 (pt_cmpR op_notIn_seq (pe_ix ix_tup (pe_ix (ixk_row (K := K) rfl) (pv 1) (pv 2) (fun _ _ => rfl)) pe_int (fun _ _ => rfl)) (pv 0) (by rfl)))))
        (pss_one (ps_aug (i := 2) nd rfl (.inl rfl) pe_int ip_sub)))
      (pss_one (ps_ret (pv 2)))), ?_⟩
    refine ⟨_, rfl, l, xs, rfl, hS, _, _, rfl, rfl, ?_⟩
    refine ⟨fun m σ H' => H' = H ∧ ∃ k : Nat, m = k ∧ k ≤ row.length ∧ σ = [some (.ref a), some (.ref l), some (.int ((k : Int) - 1))] ∧ XM.lastIx (fun b => ns.contains b) row.reverse = XM.lastIx (fun b => ns.contains b) (row.take k).reverse,
      ⟨row.length, rfl, row.length, rfl, Nat.le_refl _, by rw [hl]; rfl, by rw [List.take_length]⟩, ?_⟩
    rintro m σ H' ⟨rfl, k, rfl, hk, rfl, e⟩
    refine ⟨_, rfl, _, _, rfl, rfl, _, rfl, ?_⟩
    rcases m with _ | k
    · refine iteF (iteF ⟨_, rfl, ?_⟩)
      rw [e] at q
      exact q
    · rw [show decide ((0 : Int) ≤ ((k + 1 : Nat) : Int) - 1) = true from decide_eq_true (by omega)]
      have hs : row[k]? = some row[k] := List.getElem?_eq_getElem hk
      generalize row[k] = s at hs
      obtain ⟨b, hb, cb⟩ := hD.step hs
      refine iteT ⟨_, rfl, _, rfl, _, _, _, _, rfl, rfl, hS, at_of (j := k) (by omega) hb, _, _, _, _, rfl, rfl, cb, rfl, _, rfl, a, _, rfl, .inr hA, rfl, flat_strs ns, _, rfl, ?_⟩
      rw [if_pos rfl, inV_strs]
      rw [take_snoc hs, List.reverse_append] at e
      have e : _ = (if ns.contains s.1 then ((row.take k).reverse.length : Int) else XM.lastIx (fun b => ns.contains b) (row.take k).reverse) := e
      cases hc : ns.contains s.1
      · rw [hc] at e
        refine iteT ⟨fun σ' H'' => H'' = H' ∧ σ' = [some (.ref a), some (.ref l), some (.int ((k : Int) - 1))], fun σ' H'' h => ?_, ?_⟩
        · obtain ⟨rfl, rfl⟩ := h
          exact ⟨k, by omega, rfl, k, rfl, by omega, rfl, e⟩
        · refine ⟨_, rfl, _, _, rfl, rfl, rfl, ?_⟩
          show [some (V.ref a), some (.ref l), some (.int (((k + 1 : Nat) : Int) - 1 - 1))] = _
          rw [show ((k + 1 : Nat) : Int) - 1 - 1 = (k : Int) - 1 by omega]
      · rw [hc, if_pos rfl, List.length_reverse, List.length_take, Nat.min_eq_left (by omega)] at e
        rw [e] at q
        refine iteF ⟨_, rfl, ?_⟩
        show Q (.int (((k + 1 : Nat) : Int) - 1)) H'
        rw [show ((k + 1 : Nat) : Int) - 1 = (k : Int) by omega]
        exact q
def spPlaceBehind (K : PySem.W.Frag) (F : Fld) : Sp := fun vs H Q _ => ∃ (l : Addr) (z : Int) (i : Nat) (nm : Str) (xs : List V) (row : List (Str × Int)), vs = [.ref l, .int z, .str nm] ∧ z + 1 = (i : Int) ∧ i ≤ row.length ∧ SqX K H l xs ∧ DpAll K H xs (row.map dStep) ∧ Q (.int ((i + XM.lead (OF F) nm (row.drop i) : Nat) : Int)) H
theorem c_place_behind (T : Tx K mg) (F : Fld) : Cl P w K mg base CX0 1 "place_behind" (spPlaceBehind K F) := by
  refine cl0 T.d_place_behind (ps := ["pieces", "at", "name"]) (fun _ _ _ _ _ _ us hl => match us, hl with | [_, _, _], _ => rfl) sc_place_behind (fun vs H Q E h => ?_) (fun f cdv A outer st H vs Q E hr h => ?_)
  · obtain ⟨l, z, i, nm, xs, row, rfl, _⟩ := h
    rfl
  · obtain ⟨l, z, i, nm, xs, row, rfl, ez, hi, hS, hD, q⟩ := h
    have nd := sc_place_behind.nd
    have hl := hD.len
    rw [List.length_map] at hl
    refine ⟨_, pss_cons (ps_set (i := 3) nd rfl (.inl rfl) (pe_op op_add (pv 1) pe_int))
      (pss_cons (ps_while PassesOwn.never (PW.pt (pw_and (pt_cmpR op_lt (pv 3) (pe_lenS (by rfl) T.b_len (pv 0)) (nomark _)) (pw_and1 (pt_cmpR op_lt_str (pe_ix ix_tup (pe_ix (ixk_row (K := K) rfl) (pv 0) (pv 3) (fun _ _ => rfl)) pe_int (fun _ _ => rfl)) (pv 2) (nomark _)))))
        (pss_one (ps_aug (i := 3) nd rfl (.inl rfl) pe_int ip_add)))
      (pss_one (ps_ret (pv 3)))), ?_⟩
    have ez : (V.int (z + 1)) = V.int (i : Int) := by rw [ez]
    refine ⟨_, rfl, _, _, rfl, rfl, ?_⟩
    refine ⟨fun m σ H' => H' = H ∧ ∃ k : Nat, m = row.length - k ∧ k ≤ row.length ∧ σ = [some (.ref l), some (.int z), some (.str nm), some (.int (k : Int))] ∧ i + XM.lead (OF F) nm (row.drop i) = k + XM.lead (OF F) nm (row.drop k),
      ⟨_, rfl, i, rfl, hi, by rw [← ez]; rfl, rfl⟩, ?_⟩
    rintro m σ H' ⟨rfl, k, rfl, hk, rfl, e⟩
    refine ⟨_, rfl, _, rfl, l, xs, rfl, hS, _, _, rfl, rfl, _, rfl, ?_⟩
    rw [hl]
    by_cases hlt : k < row.length
    · rw [show decide ((k : Int) < (row.length : Int)) = true from decide_eq_true (by omega)]
      have hs : row[k]? = some row[k] := List.getElem?_eq_getElem hlt
      generalize row[k] = s at hs
      obtain ⟨b, hb, cb⟩ := hD.step hs
      refine iteT ⟨_, rfl, _, rfl, _, _, _, _, rfl, rfl, hS, at_of (j := k) rfl hb, _, _, _, _, rfl, rfl, cb, rfl, _, rfl, _, _, rfl, rfl, _, rfl, ?_⟩
      rw [drop_at hs] at e
      have e : i + XM.lead (OF F) nm (row.drop i) = k + (if sLt s.1 nm then XM.lead (OF F) nm (row.drop (k + 1)) + 1 else 0) := e
      cases hc : sLt s.1 nm
      · rw [hc] at e
        rw [show decide (s.1.cps.toList < nm.cps.toList) = false from hc]
        refine iteF ⟨_, rfl, ?_⟩
        rw [e] at q
        exact q
      · rw [hc, if_pos rfl] at e
        rw [show decide (s.1.cps.toList < nm.cps.toList) = true from hc]
        refine iteT ⟨fun σ' H'' => H'' = H' ∧ σ' = [some (.ref l), some (.int z), some (.str nm), some (.int ((k + 1 : Nat) : Int))], fun σ' H'' h => ?_, ?_⟩
        · obtain ⟨rfl, rfl⟩ := h
          exact ⟨row.length - (k + 1), by omega, rfl, k + 1, rfl, hlt, rfl, by omega⟩
        · exact ⟨_, rfl, _, _, rfl, rfl, rfl, rfl⟩
    · rw [show decide ((k : Int) < (row.length : Int)) = false from decide_eq_false (by omega)]
      refine iteF (iteF ⟨_, rfl, ?_⟩)
      rw [e, show row.drop k = [] from List.drop_eq_nil_iff.mpr (by omega)] at q
      exact q
end
end XB
set_option Elab.async false
set_option linter.all false
set_option maxRecDepth 100000
set_option maxHeartbeats 4000000
namespace XB
open PySem PySem.Spec PyProof.Rows L2
theorem DpAll.set1 {K : PySem.W.Frag} {H : Hp} {v : V} {d : PyData} (hv : Dp K H v d) : ∀ {vs : List V} {ds : List PyData} (i : Nat), DpAll K H vs ds → DpAll K H (vs.set i v) (ds.set i d)
  | _, _, _, .nil => .nil
  | _, _, 0, .cons _ t => .cons hv t
  | _, _, i + 1, .cons h t => .cons h (DpAll.set1 hv i t)
theorem DpAll.er {K : PySem.W.Frag} {H : Hp} : ∀ {vs : List V} {ds : List PyData} (i : Nat), DpAll K H vs ds → DpAll K H (vs.eraseIdx i) (ds.eraseIdx i)
  | _, _, _, .nil => .nil
  | _, _, 0, .cons _ t => t
  | _, _, i + 1, .cons h t => .cons h (DpAll.er i t)
theorem map_er {α β : Type} (f : α → β) : ∀ (l : List α) (i : Nat), (l.eraseIdx i).map f = (l.map f).eraseIdx i
  | [], _ => rfl
  | _ :: _, 0 => rfl
  | x :: l, i + 1 => by
    show f x :: (l.eraseIdx i).map f = f x :: (l.map f).eraseIdx i
    rw [map_er f l i]
/-- a list of steps put in at a place -/
theorem DpAll.inI {K : PySem.W.Frag} {H : Hp} {vs : List V} {row : List (Str × Int)} {v : V} {s : Str × Int} (hv : Dp K H v (dStep s)) (i : Nat) (h : DpAll K H vs (row.map dStep)) :
    DpAll K H (vs.take i ++ [v] ++ vs.drop i) ((row.take i ++ s :: row.drop i).map dStep) := by
  rw [List.append_assoc, List.map_append, List.map_cons, List.map_take, List.map_drop]
  exact (h.take i).app (.cons hv (h.drop i))
section
variable {P : Program} {w : World} {K : PySem.W.Frag} {mg : Str → Option Value} {base : Heap}
/-- the row as the program changes it stands in a list of its own -/
def Row1 (K : PySem.W.Frag) (H : Hp) (D : Addr) (row : List (Str × Int)) : Prop := ∃ xs, H D = some (.lst xs) ∧ DpAll K H xs (row.map dStep)
theorem Row1.put {K : PySem.W.Frag} {H : Hp} {D : Addr} {xs ys : List V} {row : List (Str × Int)} (e : H D = some (.lst xs)) (h : DpAll K H ys (row.map dStep)) : Row1 K (upd H D (.lst ys)) D row :=
  ⟨ys, upd_same, DpAll.tk (Tk.refl.lst e) _ (flat_all_steps row) h⟩
theorem TouchAt.lst {K : PySem.W.Frag} {H : Hp} {t D : Addr} {F : Fld} {xs ys : List V} (h : TouchAt K H t F) (e : H D = some (.lst xs)) : TouchAt K (upd H D (.lst ys)) t F := by
  obtain ⟨kvs, e1, g⟩ := h
  have k : Tk H (upd H D (.lst ys)) := Tk.refl.lst e
  refine ⟨kvs, by rw [upd_ne (ne_of e1 e (fun q => nomatch q))]; exact e1, fun n hn => ?_⟩
  obtain ⟨a, e1, e2⟩ := g n hn
  exact ⟨a, e1, k.sqT e2⟩
theorem lastIx_congr {p q : Str → Bool} : ∀ {r : List (Str × Int)}, (∀ y ∈ r, p y.1 = q y.1) → XM.lastIx p r = XM.lastIx q r
  | [], _ => rfl
  | y :: r, h => by
    have ih := lastIx_congr (p := p) (q := q) (r := r) fun z hz => h z (List.mem_cons_of_mem _ hz)
    have hy := h y List.mem_cons_self
    unfold XM.lastIx
    rw [hy, ih]
def Names (F : Fld) (l : List (Str × Int)) : Prop := ∀ s ∈ l, s.1 ∈ F.names
theorem names_ins {F : Fld} {x : Str × Int} (hx : x.1 ∈ F.names) : ∀ {r : List (Str × Int)}, Names F r → Names F (XM.ins (OF F) x r)
  | [], _ => fun s hs => by
    have hs : s ∈ [x] := hs
    rw [List.mem_singleton.mp hs]
    exact hx
  | y :: r, h => by
    have ih := names_ins hx (r := r) fun z hz => h z (List.mem_cons_of_mem _ hz)
    have hy := h y List.mem_cons_self
    have h0 : Names F r := fun z hz => h z (List.mem_cons_of_mem _ hz)
    have c : ∀ {a : Str × Int} {l : List (Str × Int)}, a.1 ∈ F.names → Names F l → Names F (a :: l) := fun {a l} ha hl s hs => by
      rcases List.mem_cons.mp hs with rfl | hs
      · exact ha
      · exact hl s hs
    unfold XM.ins
    by_cases e1 : y.1 = x.1
    · rw [if_pos e1]
      by_cases e2 : y.2 + x.2 = 0
      · rw [if_pos e2]
        exact h0
      · rw [if_neg e2]
        exact c hx h0
    · rw [if_neg e1]
      by_cases e2 : (OF F).tc y.1 x.1 = true
      · rw [if_pos e2]
        exact c hx h
      · rw [if_neg e2]
        by_cases e3 : ((OF F).lt y.1 x.1 && XM.top (OF F) x.1 r) = true
        · rw [if_pos e3]
          exact c hx h
        · rw [if_neg e3]
          exact c hy ih
theorem names_act {F : Fld} : ∀ {l r : List (Str × Int)}, Names F l → Names F r → Names F (XM.act (OF F) l r)
  | [], _, _, h => h
  | x :: l, r, hl, h => by
    rw [XM.act_cons]
    exact names_act (fun z hz => hl z (List.mem_cons_of_mem _ hz)) (names_ins (hl x List.mem_cons_self) h)
def spPiled (K : PySem.W.Frag) (F : Fld) : Sp := fun vs H Q _ => ∃ (t d : Addr) (xs : List V) (steps : List (Str × Int)), vs = [.ref t, .ref d] ∧ TouchAt K H t F ∧ F.Ok ∧ SqT K H d xs ∧ DpAll K H xs (steps.map dStep) ∧ steps.length ≤ 500 ∧ Names F steps ∧
  ∀ H' r, Same H H' → Dp K H' (.ref r) (dSteps (XM.act (OF F) steps []).reverse) → Q (.ref r) H'
theorem c_piled (T : Tx K mg) (F : Fld) : Cl P w K mg base CX0 2 "piled" (spPiled K F) := by
  refine cl0 T.d_piled (ps := ["touch", "steps"]) (fun _ _ _ _ _ _ us hl => match us, hl with | [_, _], _ => rfl) sc_piled (fun vs H Q E h => ?_) (fun f cdv A outer st H vs Q E hr h => ?_)
  · obtain ⟨t, d, xs, steps, rfl, _⟩ := h
    rfl
  · obtain ⟨t, d, xs, steps, rfl, hT, ok, hS, hD, hlen, hN, q⟩ := h
    have nd := sc_piled.nd
    have hu : (A.deeper (envOfC "piled" (defScope s_piled) st.heap.objs.size f cdv)).units + 1 < cLine := by
      have := hr.un
      omega
    have hl := hD.len
    rw [List.length_map] at hl
    refine ⟨_, pss_cons (ps_set (i := 2) nd rfl (.inl rfl) (pe_lst pa_nil))
      (pss_cons (ps_for PassesOwn.never rfl (pi_tup (pv 1)) (pg_tup rfl (pgs_cons (pg_name (i := 3) nd rfl (.inl rfl)) (pgs_cons (pg_name (i := 4) nd rfl (.inl rfl)) pgs_nil)))
        (pss_cons (ps_set (i := 5) nd rfl (.inl rfl) (pe_k (c_last_touched T) hr (by decide) (by rfl) (pa_cons (pe_dget hu (pv 0) (pv 3) (fun _ _ => rfl)) (pa_cons (pv 2) pa_nil))))
        (pss_one (ps_if (PW.pt (pw_or (pt_cmpR op_lt (pv 5) pe_int (nomark _)) (pw_or1 (pt_cmpR op_ne (pe_ix ix_tup (pe_ix ix_list (pv 2) (pv 5) (fun _ _ => rfl)) pe_int (fun _ _ => rfl)) (pv 3) (nomark _)))))
          (pss_one (ps_expr (pe_bm PySem.F.plainAttrs_list PySem.F.slot_list_insert PySem.F.type_list_insert mt_insert (pv 2) (pa_cons (pe_k (c_place_behind T F) hr (by decide) (by rfl) (pa_cons (pv 2) (pa_cons (pv 5) (pa_cons (pv 3) pa_nil)))) (pa_cons (pe_tup (pa_cons (pv 3) (pa_cons (pv 4) pa_nil))) pa_nil)))))
          (pss_one (ps_if (pt_cmpR op_ne (pe_op op_add (pe_ix ix_tup (pe_ix ix_list (pv 2) (pv 5) (fun _ _ => rfl)) pe_int (fun _ _ => rfl)) (pv 4)) pe_int (nomark _))
            (pss_one (ps_asg (pe_tup (pa_cons (pv 3) (pa_cons (pe_op op_add (pe_ix ix_tup (pe_ix ix_list (pv 2) (pv 5) (fun _ _ => rfl)) pe_int (fun _ _ => rfl)) (pv 4)) pa_nil))) (pg_sub (pv 2) (pv 5) set_list)))
            (pss_one (ps_delL (pv 2) (pv 5)))))))))
      (pss_one (ps_ret (pe_tupleOf (by rfl) T.b_tuple (pv 2))))), ?_⟩
    refine ⟨by decide, fun D hD0 => ?_⟩
    refine ⟨_, rfl, d, rfl, ⟨_, (Tk.of (same_upd hD0)).sqT hS⟩, for_it (walk_tup (xs := xs)) (fun i σ H2 => ∃ (row : List (Str × Int)) (y3 y4 y5 : Option V), σ = [some (.ref t), some (.ref d), some (.ref D), y3, y4, y5] ∧ Same H H2 ∧ Row1 K H2 D row ∧ row.reverse = XM.act (OF F) (steps.take i) [])
      ⟨[], none, none, none, rfl, same_upd hD0, ⟨[], upd_same, .nil⟩, rfl⟩ (fun i σ H2 _ ⟨_, _, _, _, _, s', _⟩ => (Tk.of s').sqT hS) (fun i x σ H2 H3 hi ⟨row, y3, y4, y5, eσ, s2, ⟨ys, eD, hY⟩, er⟩ hy => ?_) (fun σ H2 ⟨row, y3, y4, y5, eσ, s2, ⟨ys, eD, hY⟩, er⟩ => ?_)⟩
    · obtain ⟨rfl, hx⟩ := hy
      subst eσ
      obtain ⟨dd, g1, p1⟩ := hD.get hx
      rw [List.getElem?_map] at g1
      obtain ⟨s, k1, rfl⟩ := Option.map_eq_some_iff.mp g1
      obtain ⟨b, rfl, cb⟩ := p1.step
      have cb := (Tk.of s2).sqT cb
      have ms := hN s (List.mem_of_getElem? k1)
      obtain ⟨kvs, e1, g⟩ := hT.same s2
      obtain ⟨r, e2, e3⟩ := g s.1 ms
      have dg : DGet H3 t (.str s.1) (some (.ref r)) := by
        have := DGet.k (k := .inr s.1) e1
        rwa [e2] at this
      have hly := hY.len
      rw [List.length_map] at hly
      have hnr : Names F row.reverse := by
        rw [er]
        exact names_act (fun z hz => hN z (List.mem_of_mem_take hz)) (fun _ h => nomatch h)
      have hlr : row.length ≤ 500 := by
        have := XM.act_len (O := OF F) (l := steps.take i) (r := [])
        rw [← er, List.length_reverse, List.length_take, List.length_nil] at this
        omega
      have hlt : i < steps.length := by omega
      have fin : ∀ row' : List (Str × Int), XM.ins (OF F) s row.reverse = row'.reverse → row'.reverse = XM.act (OF F) (steps.take (i + 1)) [] := fun row' e => by
        rw [take_snoc k1, XM.act_app, ← er, XM.act_cons, XM.act_nil, e]
      have hc : XM.lastIx (fun b => (touchL F s.1).contains b) row.reverse = XM.lastIx (fun b => (OF F).tc b s.1) row.reverse := lastIx_congr fun y hy => mem_touch ok (hnr y hy)
      refine ⟨b, _, rfl, cb, rfl, _, _, rfl, _, _, rfl, rfl, ?_⟩
      refine ⟨_, rfl, _, rfl, t, .ref r, rfl, dg, _, rfl, r, D, touchL F s.1, ys, row, rfl, e3, .inl (SqL.of eD), hY, ?_⟩
      have hin : ∀ (i0 : Nat) T, H3 T = none → Row1 K (upd (upd H3 T (.tup [.str s.1, .int s.2])) D (.lst (ys.take (((i0 + XM.lead (OF F) s.1 (row.drop i0) : Nat) : Int)).toNat ++ [.ref T] ++ ys.drop (((i0 + XM.lead (OF F) s.1 (row.drop i0) : Nat) : Int)).toNat))) D
          (row.take i0 ++ XM.among (OF F) s (row.drop i0)) := fun i0 T hT' => by
        rw [Int.toNat_natCast]
        have eD' : upd H3 T (.tup [.str s.1, .int s.2]) D = some (.lst ys) := by
          rw [upd_ne (ne_of_none eD hT')]
          exact eD
        have := DpAll.inI (row := row) (v := .ref T) (s := s) (Dp.of_step (SqT.of upd_same)) (i0 + XM.lead (OF F) s.1 (row.drop i0)) (DpAll.tk (Tk.of (same_upd (o := .tup [.str s.1, .int s.2]) hT')) _ (flat_all_steps row) hY)
        have := Row1.put eD' this
        have er1 : row.take i0 ++ XM.among (OF F) s (row.drop i0) = row.take (i0 + XM.lead (OF F) s.1 (row.drop i0)) ++ s :: row.drop (i0 + XM.lead (OF F) s.1 (row.drop i0)) := by
          unfold XM.among
          rw [List.take_add, List.append_assoc, List.drop_drop]
        rw [er1]
        exact this
      obtain ⟨k, hk⟩ : ∃ k, XM.lastIx (fun b => (touchL F s.1).contains b) row.reverse = k := ⟨_, rfl⟩
      rw [hk]
      rw [hc] at hk
      rcases XM.ins_code (O := OF F) hk with ⟨rfl, e⟩ | ⟨j, z, rfl, hz, h⟩
      · refine ⟨_, rfl, _, _, rfl, rfl, _, rfl, iteT (iteT ?_)⟩
        refine ⟨_, rfl, Or.inl ⟨rfl, _, SqL.of eD⟩, _, rfl, _, rfl, _, rfl, D, _, 0, s.1, ys, row, rfl, rfl, Nat.zero_le _, .inl (SqL.of eD), hY, ?_⟩
        have hle := XM.lead_le (O := OF F) (a := s.1) (row.drop (0))
        rw [List.length_drop] at hle
        have hb : (((0) + XM.lead (OF F) s.1 (row.drop (0)) : Nat) : Int) < 2 ^ 63 := by omega
        refine ⟨_, rfl, _, rfl, (show 2 ≤ sizeLine by decide), fun T hT' => ⟨D, ys, _, .ref T, rfl, rfl, by rw [upd_ne (ne_of_none eD hT')]; exact eD, small1000 (by omega), Int.natCast_nonneg _, hb, ?_⟩⟩
        exact ⟨_, _, _, _, rfl, same_put (same_new s2 hT') hD0, hin (0) T hT', fin _ (by simpa using e)⟩
      · have hj := (List.getElem?_eq_some_iff.mp hz).1
        obtain ⟨c, hc1, hc2⟩ := hY.step hz
        refine ⟨_, rfl, _, _, rfl, rfl, _, rfl, ?_⟩
        rw [show decide ((j : Int) < 0) = false from decide_eq_false (by omega)]
        refine iteF ⟨_, rfl, _, rfl, _, _, _, _, rfl, rfl, SqL.of eD, at_of (j := j) rfl hc1, _, _, _, _, rfl, rfl, hc2, rfl, _, rfl, rfl, _, rfl, ?_⟩
        rw [show decide (V.str z.1 = V.str s.1) = decide (z.1 = s.1) from decide_eq_decide.mpr ⟨fun h => V.str.inj h, fun h => congrArg _ h⟩]
        rcases h with ⟨n, e⟩ | ⟨n, n2, e⟩ | ⟨n, n2, e⟩
        · rw [decide_eq_false n]
          refine iteT ?_
          refine ⟨_, rfl, Or.inl ⟨rfl, _, SqL.of eD⟩, _, rfl, _, rfl, _, rfl, D, _, j + 1, s.1, ys, row, rfl, rfl, hj, .inl (SqL.of eD), hY, ?_⟩
          have hle := XM.lead_le (O := OF F) (a := s.1) (row.drop (j + 1))
          rw [List.length_drop] at hle
          have hb : (((j + 1) + XM.lead (OF F) s.1 (row.drop (j + 1)) : Nat) : Int) < 2 ^ 63 := by omega
          refine ⟨_, rfl, _, rfl, (show 2 ≤ sizeLine by decide), fun T hT' => ⟨D, ys, _, .ref T, rfl, rfl, by rw [upd_ne (ne_of_none eD hT')]; exact eD, small1000 (by omega), Int.natCast_nonneg _, hb, ?_⟩⟩
          exact ⟨_, _, _, _, rfl, same_put (same_new s2 hT') hD0, hin (j + 1) T hT', fin _ (by simpa using e)⟩
        · rw [decide_eq_true n]
          refine iteF ⟨_, rfl, _, rfl, _, _, _, _, rfl, rfl, SqL.of eD, at_of (j := j) rfl hc1, _, _, _, _, rfl, rfl, hc2, rfl, _, rfl, _, _, rfl, rfl, rfl, _, rfl, ?_⟩
          rw [dec_int, show (z.2 + s.2 == 0) = false by simp [n2]]
          refine iteT ⟨_, rfl, _, rfl, _, rfl, _, _, _, _, rfl, rfl, SqL.of eD, at_of (j := j) rfl hc1, _, _, _, _, rfl, rfl, hc2, rfl, _, rfl, _, _, rfl, rfl, (show 2 ≤ sizeLine by decide), fun T hT' => ?_⟩
          have eD' : upd H3 T (.tup [.str s.1, .int (z.2 + s.2)]) D = some (.lst ys) := by
            rw [upd_ne (ne_of_none eD hT')]
            exact eD
          refine ⟨_, rfl, _, rfl, D, ys, _, j, rfl, rfl, eD', ixN_of rfl (by omega), ?_⟩
          refine ⟨row.set j (s.1, z.2 + s.2), _, _, _, rfl, same_put (same_new s2 hT') hD0, Row1.put eD' ?_, fin _ e⟩
          rw [List.map_set]
          exact DpAll.set1 (d := dStep (s.1, z.2 + s.2)) (Dp.of_step (SqT.of upd_same)) j (DpAll.tk (Tk.of (same_upd hT')) _ (flat_all_steps row) hY)
        · rw [decide_eq_true n]
          refine iteF ⟨_, rfl, _, rfl, _, _, _, _, rfl, rfl, SqL.of eD, at_of (j := j) rfl hc1, _, _, _, _, rfl, rfl, hc2, rfl, _, rfl, _, _, rfl, rfl, rfl, _, rfl, ?_⟩
          rw [dec_int, show (z.2 + s.2 == 0) = true by simp [n2]]
          have hjb : (j : Int) < 2 ^ 63 := by omega
          refine iteF ⟨_, rfl, _, rfl, D, ys, _, j, rfl, rfl, eD, by omega, hjb, (ixN_seq (ixN_of rfl (by omega))).1, ?_⟩
          refine ⟨row.eraseIdx j, _, _, _, rfl, same_put s2 hD0, Row1.put eD ?_, fin _ e⟩
          rw [map_er]
          exact DpAll.er j hY
    · subst eσ
      refine ⟨_, rfl, .inl ⟨D, ys, rfl, SqL.of eD, fun r hr' => q _ r (same_new s2 hr') ?_⟩⟩
      rw [hl, List.take_length] at er
      rw [← er, List.reverse_reverse]
      exact .tup (SqT.of upd_same) (DpAll.tk (Tk.of (same_upd hr')) _ (flat_all_steps row) hY)
end
end XB
set_option Elab.async false
set_option linter.all false
set_option maxRecDepth 100000
set_option maxHeartbeats 4000000
namespace XB
open PySem PySem.Spec PyProof.Rows L2
section
variable {P : Program} {w : World} {K : PySem.W.Frag} {mg : Str → Option Value} {base : Heap}
theorem GoodScript.names {F : Fld} {l : List (Str × Int)} (g : GoodScript F l) : Names F l := fun s hs => (g.2 s hs).1
theorem GoodScript.nz {F : Fld} {l : List (Str × Int)} (g : GoodScript F l) : XM.NZ l := fun s hs => (g.2 s hs).2.1
/-- a field and a script -/
def FS (K : PySem.W.Frag) (F : Fld) (l : List (Str × Int)) (vs : List V) (H : Hp) : Prop := ∃ (a d : Addr), vs = [.ref a, .ref d] ∧ Dp K H (.ref a) (dField F) ∧ F.Ok ∧ Dp K H (.ref d) (dSteps l) ∧ GoodScript F l
def spLeastPile (K : PySem.W.Frag) (F : Fld) : Sp := fun vs H Q _ => ∃ l, FS K F l vs H ∧ ∀ H' r, Same H H' → Dp K H' (.ref r) (dSteps (XM.act (OF F) l []).reverse) → Q (.ref r) H'
theorem c_least_pile (T : Tx K mg) (F : Fld) : Cl P w K mg base CX0 6 "least_pile" (spLeastPile K F) := by
  refine cl0 T.d_least_pile (ps := ["field", "deeds"]) (fun _ _ _ _ _ _ us hl => match us, hl with | [_, _], _ => rfl) sc_least_pile (fun vs H Q E h => ?_) (fun f cdv A outer st H vs Q E hr h => ?_)
  · obtain ⟨l, ⟨a, d, rfl, _⟩, _⟩ := h
    rfl
  · obtain ⟨l, ⟨a, d, rfl, hF, ok, hL, g⟩, q⟩ := h
    refine ⟨_, pss_cons (ps_expr (pe_k (c_need_script T) hr (by decide) (by rfl) (pa_cons (pv 0) (pa_cons (pv 1) pa_nil))))
      (pss_one (ps_ret (pe_k (c_piled T F) hr (by decide) (by rfl) (pa_cons (pe_k (c_touch_table T) hr (by decide) (by rfl) (pa_cons (pv 0) pa_nil)) (pa_cons (pv 1) pa_nil))))), ?_⟩
    refine ⟨_, rfl, _, rfl, a, d, F, l, rfl, hF, ok, hL, g, fun H1 s1 => ?_⟩
    refine ⟨_, rfl, a, F, rfl, Dp.tk (Tk.of s1) _ (flat_field F) hF, ok, fun H2 t s2 ht hT => ?_⟩
    obtain ⟨_, vs, e, hS, hV⟩ := (Dp.tk (Tk.of (s1.trans s2)) (dSteps l) (flat_steps l) hL).steps
    cases e
    refine ⟨_, rfl, t, d, vs, l, rfl, hT, ok, hS, hV, ?_, g.names, fun H3 r s3 hD => q _ r ((s1.trans s2).trans s3) hD⟩
    have := g.1
    omega
def lenOf (l : List (Str × Int)) : Int := (l.map fun s => if s.2 < 0 then -s.2 else s.2).sum
def spLengthOf (K : PySem.W.Frag) : Sp := fun vs H Q _ => ∃ (a : Addr) (xs : List V) (l : List (Str × Int)), vs = [.ref a] ∧ SqT K H a xs ∧ DpAll K H xs (l.map dStep) ∧ l.length ≤ 500 ∧ ∀ H', Same H H' → Q (.int (lenOf l)) H'
theorem act_len0 {F : Fld} {l : List (Str × Int)} : (XM.act (OF F) l []).length ≤ l.length := by
  have := XM.act_len (O := OF F) (l := l) (r := [])
  rw [List.length_nil] at this
  omega
def spLength (K : PySem.W.Frag) (F : Fld) : Sp := fun vs H Q _ => ∃ l, FS K F l vs H ∧ ∀ H', Same H H' → Q (.int (lenOf (XM.act (OF F) l []).reverse)) H'
def spIsPile (K : PySem.W.Frag) (F : Fld) : Sp := fun vs H Q _ => ∃ l, FS K F l vs H ∧ ∀ H', Same H H' → Q (.bl (decide ((XM.act (OF F) l []).length = l.length))) H'
def spBack (K : PySem.W.Frag) : Sp := fun vs H Q _ => ∃ (a : Addr) (l : List (Str × Int)), vs = [.ref a] ∧ Dp K H (.ref a) (dSteps l) ∧ l.length ≤ 500 ∧ ∀ H' r, Same H H' → Dp K H' (.ref r) (dSteps (XM.back l)) → Q (.ref r) H'
theorem c_back (T : Tx K mg) : Cl P w K mg base CX0 1 "back" (spBack K) := by
  refine cl0 T.d_back (ps := ["steps"]) (fun _ _ _ _ _ _ us hl => match us, hl with | [_], _ => rfl) sc_back (fun vs H Q E h => ?_) (fun f cdv A outer st H vs Q E hr h => ?_)
  · obtain ⟨a, l, rfl, _⟩ := h
    rfl
  · obtain ⟨a, l, rfl, hL, hl, q⟩ := h
    have nd := sc_back.nd
    obtain ⟨_, xs, e, hS, hD⟩ := hL.steps
    cases e
    have hlx := hD.len
    rw [List.length_map] at hlx
    refine ⟨_, pss_one (ps_ret (pe_tupleOf (by rfl) T.b_tuple (pe_lc (own := [("name", 1), ("times", 2)]) (g := gTup K 2 (gCons (gName 1) (gCons (gName 2) gNil))) (tt := tYes) (by rfl) nd (pi_tup (pe_revT (pv 0)))
      (blkOk_by (own := [("name", 1), ("times", 2)]) (N := ["steps", "name", "times"]) (sc := defScope s_back) (by decide +kernel))
      (fun _ _ _ _ _ => pg_tup rfl (pgs_cons (pg_name (i := 1) nd rfl (Or.inl rfl)) (pgs_cons (pg_name (i := 2) nd rfl (Or.inl rfl)) pgs_nil))) (fun _ _ _ _ _ => pts_nil)
      (fun _ _ _ _ _ => pe_tup (pa_cons (pv 1) (pa_cons (pe_un un_neg (pv 2)) pa_nil)))))), ?_⟩
    refine ⟨_, rfl, a, xs, rfl, hS, fun p hp => ⟨p, rfl, ⟨_, SqT.of upd_same⟩, fun D hD' => ?_⟩⟩
    have s0 : Same H (upd H p (.tup xs.reverse)) := same_upd hp
    have hB : SqT K (upd H p (.tup xs.reverse)) p xs.reverse := SqT.of upd_same
    have hR : DpAll K (upd H p (.tup xs.reverse)) xs.reverse (l.reverse.map dStep) := by
      rw [List.map_reverse]
      exact (DpAll.tk (Tk.of s0) _ (flat_all_steps l) hD).rev
    generalize upd H p (.tup xs.reverse) = H1 at s0 hB hR hD' ⊢
    refine lc_it (walk_tup (xs := xs.reverse)) (fun i H' => Row1 K H' D ((l.reverse.take i).map fun x => (x.1, -x.2)) ∧ Same H1 H') ⟨⟨[], upd_same, .nil⟩, same_upd hD'⟩ (fun _ _ _ ⟨_, s'⟩ => (Tk.of s').sqT hB) (fun i x H2 H3 hi ⟨⟨ys, eD, hY⟩, s'⟩ hy => ?_) (fun H2 ⟨⟨ys, eD, hY⟩, s'⟩ => ?_)
    · obtain ⟨rfl, hx⟩ := hy
      obtain ⟨dd, g1, p1⟩ := hR.get hx
      rw [List.getElem?_map] at g1
      obtain ⟨s, k1, rfl⟩ := Option.map_eq_some_iff.mp g1
      obtain ⟨b, rfl, cb⟩ := p1.step
      have hly := hY.len
      rw [List.length_map, List.length_map, List.length_take, List.length_reverse] at hly
      refine ⟨b, _, rfl, (Tk.of s').sqT cb, rfl, _, _, rfl, _, _, rfl, rfl, rfl, yes_ ?_⟩
      refine ⟨_, rfl, _, rfl, s.2, rfl, (show 2 ≤ sizeLine by decide), fun T hT => ⟨ys, ?_, small1000 (by omega), ?_, same_put (same_new s' hT) hD'⟩⟩
      · rw [upd_ne (ne_of_none eD hT)]
        exact eD
      · refine Row1.put (xs := ys) (by rw [upd_ne (ne_of_none eD hT)]; exact eD) ?_
        rw [take_snoc k1, List.map_append, List.map_append]
        exact (DpAll.tk (Tk.of (same_upd hT)) _ (flat_all_steps _) hY).app (.cons (Dp.of_step (s := (s.1, -s.2)) (SqT.of upd_same)) .nil)
    · rw [List.length_reverse, hlx, show l.length = l.reverse.length from (List.length_reverse).symm, List.take_length] at hY
      refine .inl ⟨D, ys, rfl, SqL.of eD, fun r hr' => q _ r (same_new (s0.trans s') hr') ?_⟩
      unfold XM.back
      rw [← List.map_reverse]
      exact .tup (SqT.of upd_same) (DpAll.tk (Tk.of (same_upd hr')) _ (flat_all_steps _) hY)
theorem names_back {F : Fld} {l : List (Str × Int)} (h : Names F l) : Names F (XM.back l) := fun s hs => by
  unfold XM.back at hs
  obtain ⟨x, hx, rfl⟩ := List.mem_map.mp (List.mem_reverse.mp hs)
  exact h x hx
def spTakenBack (K : PySem.W.Frag) (F : Fld) : Sp := fun vs H Q _ => ∃ l, FS K F l vs H ∧ ∀ H' r, Same H H' → Dp K H' (.ref r) (dSteps (XM.act (OF F) (XM.back l) []).reverse) → Q (.ref r) H'
end
end XB
set_option Elab.async false
set_option linter.all false
set_option maxRecDepth 100000
set_option maxHeartbeats 4000000
namespace XM
theorem frs_snoc {α : Type} [DecidableEq α] {O : Ord α} {x : α × Int} : ∀ {l bar : Row α}, frs O bar (l ++ [x]) = frs O bar l ++ (if (bar ++ l).all (fun w => !O.tc w.1 x.1) then [x.1] else [])
  | [], bar => by
    show (if _ then _ else _) = _
    rw [List.append_nil]
    cases bar.all (fun w => !O.tc w.1 x.1) <;> rfl
  | y :: l, bar => by
    have ih := frs_snoc (O := O) (x := x) (l := l) (bar := bar ++ [y])
    rw [List.append_assoc, List.singleton_append] at ih
    show (if _ then y.1 :: frs O (bar ++ [y]) (l ++ [x]) else frs O (bar ++ [y]) (l ++ [x])) = (if _ then _ else _) ++ _
    rw [ih]
    cases bar.all (fun w => !O.tc w.1 y.1) <;> rfl
end XM
namespace XB
open PySem PySem.Spec PyProof.Rows L2
section
variable {P : Program} {w : World} {K : PySem.W.Frag} {mg : Str → Option Value} {base : Heap}
def SrtOf (ns zs : List Str) : Prop := zs.Perm ns ∧ sortedS zs = true
theorem frs_len {F : Fld} : ∀ {l bar : List (Str × Int)}, (XM.frs (OF F) bar l).length ≤ l.length
  | [], _ => Nat.le_refl _
  | x :: l, bar => by
    have ih := frs_len (F := F) (l := l) (bar := bar ++ [x])
    unfold XM.frs
    split
    · rw [List.length_cons, List.length_cons]
      omega
    · rw [List.length_cons]
      omega
theorem barred_all {F : Fld} (ok : F.Ok) {n : Str} (hn : n ∈ F.names) (l : List (Str × Int)) : (!(l.any fun w => (touchL F w.1).contains n)) = l.all fun w => !(OF F).tc w.1 n := by
  induction l with
  | nil => rfl
  | cons y r ih =>
    rw [List.any_cons, List.all_cons, Bool.not_or, ih, mem_touch ok hn, (OF F).symm]
def Bars (H : Hp) (B : Addr) (f : Str → Bool) (m : Nat) : Prop := ∃ kvs : List (Key × V), H B = some (.dK kvs) ∧ kvs.length ≤ m ∧ ∀ n, (valV kvs (.inr n)).isSome = f n
def spFrontNames (K : PySem.W.Frag) (F : Fld) : Sp := fun vs H Q _ => ∃ (t d : Addr) (xs : List V) (l : List (Str × Int)), vs = [.ref t, .ref d] ∧ TouchAt K H t F ∧ F.Ok ∧ SqT K H d xs ∧ DpAll K H xs (l.map dStep) ∧ l.length ≤ 60 ∧ Names F l ∧
  ∀ H' r zs, Same H H' → SrtOf (XM.frs (OF F) [] l) zs → SqT K H' r (zs.map V.str) → Q (.ref r) H'
def spFronts (K : PySem.W.Frag) (F : Fld) : Sp := fun vs H Q _ => ∃ l, FS K F l vs H ∧ ∀ H' r zs, Same H H' → SrtOf (XM.frs (OF F) [] (XM.act (OF F) l []).reverse) zs → SqT K H' r (zs.map V.str) → Q (.ref r) H'
theorem names_rev {F : Fld} {l : List (Str × Int)} (h : Names F l) : Names F l.reverse := fun s hs => h s (List.mem_reverse.mp hs)
def spEnds (K : PySem.W.Frag) (F : Fld) : Sp := fun vs H Q _ => ∃ l, FS K F l vs H ∧ ∀ H' r zs, Same H H' → SrtOf (XM.frs (OF F) [] (XM.act (OF F) l [])) zs → SqT K H' r (zs.map V.str) → Q (.ref r) H'
end
end XB
set_option Elab.async false
set_option linter.all false
set_option maxRecDepth 100000
set_option maxHeartbeats 4000000
/-! rules of rows, lists or tuples -/
namespace XB
open PySem PySem.Spec PyProof.Rows L2
section
variable {P : Program} {w : World} {K : PySem.W.Frag} {mg : Str → Option Value} {base : Heap}
def spLawApart (K : PySem.W.Frag) : Sp := fun vs H Q _ => ∃ (a : Addr) (F : Fld) (x y : Str), vs = [.ref a, .str x, .str y] ∧ Dp K H (.ref a) (dField F) ∧ F.Ok ∧ x ∈ F.names ∧ y ∈ F.names ∧ ∀ H', Same H H' → Q (.bl (apart F x y)) H'
def spLawLength (K : PySem.W.Frag) : Sp := fun vs H Q _ => ∃ (a : Addr) (xs : List V) (l : List (Str × Int)), vs = [.ref a] ∧ SqT K H a xs ∧ DpAll K H xs (l.map dStep) ∧ l.length ≤ 500 ∧ ∀ H', Same H H' → Q (.int (lenOf l)) H'
end
end XB
set_option Elab.async false
set_option linter.all false
set_option maxRecDepth 100000
set_option maxHeartbeats 4000000
namespace XB
open PySem PySem.Spec PyProof.Rows L2
section
variable {P : Program} {w : World} {K : PySem.W.Frag} {mg : Str → Option Value} {base : Heap}
def spLawBack (K : PySem.W.Frag) : Sp := fun vs H Q _ => ∃ (a : Addr) (l : List (Str × Int)), vs = [.ref a] ∧ Dp K H (.ref a) (dSteps l) ∧ l.length ≤ 500 ∧ ∀ H' r, Same H H' → Dp K H' (.ref r) (dSteps (XM.back l)) → Q (.ref r) H'
/-- whether the step there can stand first -/
def free1 (F : Fld) (l : List (Str × Int)) (k : Nat) : Bool := match l[k]? with
  | some s => (l.take k).all fun y => !(OF F).tc y.1 s.1
  | none => false
def firstsL (F : Fld) (l : List (Str × Int)) (n : Nat) : List Nat := (List.range n).filter (free1 F l)
theorem firsts_snoc {F : Fld} {l : List (Str × Int)} {n : Nat} : firstsL F l (n + 1) = firstsL F l n ++ (if free1 F l n then [n] else []) := by
  unfold firstsL
  rw [List.range_succ, List.filter_append]
  congr 1
  cases h : free1 F l n <;> simp [h]
theorem firsts_len {F : Fld} {l : List (Str × Int)} {n : Nat} : (firstsL F l n).length ≤ n := by
  have := List.length_filter_le (free1 F l) (List.range n)
  rw [List.length_range] at this
  exact this
def spLawFirst (K : PySem.W.Frag) : Sp := fun vs H Q _ => ∃ (a p : Addr) (F : Fld) (xs : List V) (l : List (Str × Int)), vs = [.ref a, .ref p] ∧ Dp K H (.ref a) (dField F) ∧ F.Ok ∧ SqX K H p xs ∧ DpAll K H xs (l.map dStep) ∧ Names F l ∧ l.length ≤ 60 ∧
  ∀ H' r, Same H H' → H' r = some (.lst ((firstsL F l l.length).map fun k => V.int (k : Nat))) → H r = none → Q (.ref r) H'
end
end XB
set_option Elab.async false
set_option linter.all false
set_option maxRecDepth 100000
set_option maxHeartbeats 4000000
namespace XB
open PySem PySem.Spec PyProof.Rows L2
def up (n : Nat) (o : Option (Nat × Nat)) : Option (Nat × Nat) := o.map fun p => (p.1 + n, p.2 + n)
theorem met_none {F : Fld} {l : List (Str × Int)} {k : Nat} {s : Str × Int} (hs : l[k]? = some s) (h : XM.near (OF F) s.1 (l.drop (k + 1)) = none) : up k (XM.met (OF F) (l.drop k)) = up (k + 1) (XM.met (OF F) (l.drop (k + 1))) := by
  rw [drop_at hs]
  show up k (match XM.near (OF F) s.1 (l.drop (k + 1)) with
    | some d => some (0, d + 1)
    | none => (XM.met (OF F) (l.drop (k + 1))).map fun p => (p.1 + 1, p.2 + 1)) = _
  rw [h]
  unfold up
  rw [Option.map_map]
  congr 1
  funext p
  show (p.1 + 1 + k, p.2 + 1 + k) = (p.1 + (k + 1), p.2 + (k + 1))
  rw [Nat.add_assoc, Nat.add_assoc, Nat.add_comm 1 k]
theorem met_here {F : Fld} {l : List (Str × Int)} {k d : Nat} {s : Str × Int} (hs : l[k]? = some s) (h : XM.near (OF F) s.1 (l.drop (k + 1)) = some d) : up k (XM.met (OF F) (l.drop k)) = some (k, k + 1 + d) := by
  rw [drop_at hs]
  show up k (match XM.near (OF F) s.1 (l.drop (k + 1)) with
    | some d => some (0, d + 1)
    | none => (XM.met (OF F) (l.drop (k + 1))).map fun p => (p.1 + 1, p.2 + 1)) = _
  rw [h]
  show some (0 + k, d + 1 + k) = _
  rw [Nat.zero_add, Nat.add_comm (d + 1) k, Nat.add_comm d 1, Nat.add_assoc]
section
variable {P : Program} {w : World} {K : PySem.W.Frag} {mg : Str → Option Value} {base : Heap}
def metV (K : PySem.W.Frag) (H : Hp) (Q : VK) : Option (Nat × Nat) → Prop
  | none => ∀ H', Same H H' → Q .non H'
  | some p => ∀ H' r, Same H H' → SqT K H' r [.int (p.1 : Nat), .int (p.2 : Nat)] → Q (.ref r) H'
def spLawMet (K : PySem.W.Frag) : Sp := fun vs H Q _ => ∃ (a p : Addr) (F : Fld) (xs : List V) (l : List (Str × Int)), vs = [.ref a, .ref p] ∧ Dp K H (.ref a) (dField F) ∧ F.Ok ∧ SqX K H p xs ∧ DpAll K H xs (l.map dStep) ∧ Names F l ∧ l.length ≤ 60 ∧
  metV K H Q (XM.met (OF F) l)
end
end XB
set_option Elab.async false
set_option linter.all false
set_option maxRecDepth 100000
set_option maxHeartbeats 4000000
namespace XB
open PySem PySem.Spec PyProof.Rows L2
theorem cut_mid (xs : List V) {i j : Nat} (h1 : i ≤ j) (h2 : j ≤ xs.length) : cutV xs (some (i : Int)) (some (j : Int)) = (xs.drop i).take (j - i) := by
  unfold cutV
  rw [HT.sIx_nat, HT.sIx_nat, Nat.min_eq_left h2, Nat.min_eq_left (Nat.le_trans h1 h2)]
def melt {α : Type} (l : List α) (x : List α) (i j : Nat) : List α := l.take i ++ x ++ ((l.drop (i + 1)).take (j - (i + 1)) ++ l.drop (j + 1))
theorem melt_step {F : Fld} {l : List (Str × Int)} {i j : Nat} (h : XM.met (OF F) l = some (i, j)) (hZ : XM.NZ l) (hN : Names F l) :
    ∃ a s t, l[i]? = some (a, s) ∧ l[j]? = some (a, t) ∧ i < j ∧ j < l.length ∧ ∀ x, x = (if s + t = 0 then [] else [(a, s + t)]) →
      XM.NZ (melt l x i j) ∧ Names F (melt l x i j) ∧ XM.act (OF F) (melt l x i j) [] = XM.act (OF F) l [] ∧ (melt l x i j).length < l.length := by
  obtain ⟨u, a, s, m, t, v, e, hi, hj, hm⟩ := XM.met_some h
  have z1 : s ≠ 0 := hZ (a, s) (by rw [e]; simp)
  have z2 : t ≠ 0 := hZ (a, t) (by rw [e]; simp)
  refine ⟨a, s, t, ?_, ?_, by omega, ?_, fun x hx => ?_⟩
  · rw [e, List.getElem?_append_right (by omega), hi, Nat.sub_self]
    rfl
  · rw [e, List.getElem?_append_right (by omega), show j - u.length = m.length + 1 by omega, List.getElem?_cons_succ, List.getElem?_append_right (by omega), Nat.sub_self]
    rfl
  · rw [e]
    simp
    omega
  · have em : melt l x i j = u ++ (x ++ (m ++ v)) := by
      unfold melt
      have e1 : l.take i = u := by
        rw [e, ← hi, List.take_left']
        rfl
      have e2 : l.drop (i + 1) = m ++ (a, t) :: v := by
        rw [e, ← hi, List.drop_append, List.drop_of_length_le (by omega)]
        rw [show u.length + 1 - u.length = 1 by omega]
        rfl
      have e3 : l.drop (j + 1) = v := by
        have : l.drop (j + 1) = (l.drop (i + 1)).drop (m.length + 1) := by
          rw [List.drop_drop]
          congr 1
          omega
        rw [this, e2, List.drop_append, List.drop_of_length_le (by omega), show m.length + 1 - m.length = 1 by omega]
        rfl
      rw [e1, e2, e3, show j - (i + 1) = m.length by omega, List.take_left' rfl, List.append_assoc]
    have nx : XM.NZ x := by
      rw [hx]
      intro y hy
      by_cases h0 : s + t = 0
      · rw [if_pos h0] at hy
        cases hy
      · rw [if_neg h0] at hy
        rw [List.mem_singleton.mp hy]
        exact h0
    have zl := hZ
    rw [e] at zl
    have zu : XM.NZ u := fun y hy => zl y (by simp [hy])
    have zm : XM.NZ m := fun y hy => zl y (by simp [hy])
    have zv : XM.NZ v := fun y hy => zl y (by simp [hy])
    have nl := hN
    rw [e] at nl
    rw [em]
    refine ⟨zu.app (nx.app (zm.app zv)), fun y hy => ?_, ?_, ?_⟩
    · rw [List.mem_append, List.mem_append, List.mem_append] at hy
      rcases hy with hy | hy | hy | hy
      · exact nl y (by simp [hy])
      · rw [hx] at hy
        by_cases h0 : s + t = 0
        · rw [if_pos h0] at hy
          cases hy
        · rw [if_neg h0] at hy
          rw [List.mem_singleton.mp hy]
          exact nl (a, s) (by simp)
      · exact nl y (by simp [hy])
      · exact nl y (by simp [hy])
    · rw [e, hx]
      exact (XM.act_meet (O := OF F) hm z1 z2 zu zm (show XM.NF (OF F) [] from trivial)).symm
    · rw [e, hx]
      by_cases h0 : s + t = 0
      · rw [if_pos h0]
        simp
        try omega
      · rw [if_neg h0]
        simp
        try omega
section
variable {P : Program} {w : World} {K : PySem.W.Frag} {mg : Str → Option Value} {base : Heap}
def spLawPile (K : PySem.W.Frag) (F : Fld) : Sp := fun vs H Q _ => ∃ (a p : Addr) (xs : List V) (l : List (Str × Int)), vs = [.ref a, .ref p] ∧ Dp K H (.ref a) (dField F) ∧ F.Ok ∧ SqT K H p xs ∧ DpAll K H xs (l.map dStep) ∧ Names F l ∧ XM.NZ l ∧ l.length ≤ 60 ∧
  ∀ H' r l', Same H H' → Row1 K H' r l' → H r = none → Names F l' → XM.NZ l' → XM.pl (OF F) l' = true → XM.act (OF F) l' [] = XM.act (OF F) l [] → l'.length ≤ l.length → Q (.ref r) H'
/-- what _law_met has answered -/
def SpotV (K : PySem.W.Frag) (H : Hp) (z : V) : Option (Nat × Nat) → Prop
  | none => z = .non
  | some p => ∃ t, z = .ref t ∧ SqT K H t [.int (p.1 : Nat), .int (p.2 : Nat)]
theorem metV_of {H : Hp} {Q : VK} {o : Option (Nat × Nat)} (h : ∀ H' z, Same H H' → SpotV K H' z o → Q z H') : metV K H Q o := by
  cases o with
  | none => exact fun H' s => h H' .non s rfl
  | some p => exact fun H' r s hs => h H' (.ref r) s ⟨r, rfl, hs⟩
def PileInv (K : PySem.W.Frag) (F : Fld) (H : Hp) (a p : Addr) (l : List (Str × Int)) : Nat → L2.St → Hp → Prop := fun m σ H2 => ∃ (D : Addr) (ys : List V) (l' : List (Str × Int)) (z : V) (y4 y5 y6 y7 : Option V), m = l'.length ∧ σ = [some (.ref a), some (.ref p), some (.ref D), some z, y4, y5, y6, y7] ∧ Same H H2 ∧ H2 D = some (.lst ys) ∧ DpAll K H2 ys (l'.map dStep) ∧ H D = none ∧
        Names F l' ∧ XM.NZ l' ∧ XM.act (OF F) l' [] = XM.act (OF F) l [] ∧ l'.length ≤ l.length ∧ SpotV K H2 z (XM.met (OF F) l')
end
end XB
set_option Elab.async false
set_option linter.all false
set_option maxRecDepth 100000
set_option maxHeartbeats 4000000
namespace XB
open PySem PySem.Spec PyProof.Rows L2
theorem rising_least : ∀ {r : List Str} {x : Str}, risingS x r = true → ∀ y ∈ r, sLt y x = false
  | [], _, _ => fun _ h => nomatch h
  | z :: r, x, h => by
    unfold risingS at h
    rw [Bool.and_eq_true] at h
    have h1 : sLt z x = false := by
      have := h.1
      rw [ltCps_eq] at this
      unfold sLt
      simpa using this
    intro y hy
    rcases List.mem_cons.mp hy with rfl | hy
    · exact h1
    · have h2 := rising_least h.2 y hy
      cases h3 : sLt y x
      · rfl
      · exfalso
        by_cases e : x = z
        · rw [e] at h3
          rw [h3] at h2
          cases h2
        · have h4 : sLt x z = true := sLt_tot z x (fun q => e q.symm) h1
          have := sLt_trans _ _ _ h3 h4
          rw [this] at h2
          cases h2
theorem sorted_head {y0 : Str} {ys : List Str} (h : sortedS (y0 :: ys) = true) : ∀ y ∈ y0 :: ys, sLt y y0 = false := fun y hy => by
  rcases List.mem_cons.mp hy with rfl | hy
  · exact sLt_irr _
  · exact rising_least h y hy
def nm1 (l : List (Str × Int)) (k : Nat) : Str := (l[k]?.map (·.1)).getD ""
theorem nm1_of {l : List (Str × Int)} {k : Nat} {s : Str × Int} (h : l[k]? = some s) : nm1 l k = s.1 := by
  unfold nm1
  rw [h]
  rfl
theorem mem_firsts {F : Fld} {l : List (Str × Int)} {n k : Nat} : k ∈ firstsL F l n ↔ k < n ∧ free1 F l k = true := by
  unfold firstsL
  rw [List.mem_filter, List.mem_range]
theorem firsts_at {F : Fld} {l : List (Str × Int)} {k : Nat} (h : k ∈ firstsL F l l.length) : ∃ s, l[k]? = some s ∧ ∀ y ∈ l.take k, (OF F).tc y.1 s.1 = false := by
  obtain ⟨h1, h2⟩ := mem_firsts.mp h
  have hs : l[k]? = some l[k] := List.getElem?_eq_getElem h1
  refine ⟨_, hs, fun y hy => ?_⟩
  unfold free1 at h2
  rw [hs] at h2
  have := List.all_eq_true.mp h2 y hy
  simpa using this
theorem least_first {F : Fld} {l : List (Str × Int)} {ys : List Str} {y0 : Str} (hP : (y0 :: ys).Perm ((firstsL F l l.length).map (nm1 l))) (hS : sortedS (y0 :: ys) = true) {k : Nat} (hk : k ∈ firstsL F l l.length) (hn : nm1 l k = y0) :
    ∃ s, l[k]? = some s ∧ s.1 = y0 ∧ l = l.take k ++ s :: l.drop (k + 1) ∧ XM.LeastFirst (OF F) (l.take k) s (l.drop (k + 1)) := by
  obtain ⟨s, hs, hf⟩ := firsts_at hk
  have e1 : s.1 = y0 := by rw [← hn, nm1_of hs]
  have e2 : l = l.take k ++ s :: l.drop (k + 1) := by
    rw [← drop_at hs, List.take_append_drop]
  refine ⟨s, hs, e1, e2, hf, fun p' z q' e hp hz => ?_⟩
  rw [← e2] at e
  have hz' : l[p'.length]? = some z := by
    rw [e, List.getElem?_append_right (Nat.le_refl _), Nat.sub_self]
    rfl
  have m : p'.length ∈ firstsL F l l.length := by
    refine mem_firsts.mpr ⟨(List.getElem?_eq_some_iff.mp hz').1, ?_⟩
    unfold free1
    rw [hz']
    show (l.take p'.length).all _ = true
    rw [e, List.take_left' rfl, List.all_eq_true]
    intro w hw
    rw [hp w hw]
    rfl
  have m2 : z.1 ∈ y0 :: ys := hP.symm.subset (List.mem_map.mpr ⟨_, m, nm1_of hz'⟩)
  have := sorted_head hS _ m2
  show sLt s.1 z.1 = true
  rw [e1]
  exact sLt_tot _ _ (fun q => hz (by rw [q, e1])) this
theorem firsts_some {F : Fld} {l : List (Str × Int)} (h : l ≠ []) : 0 ∈ firstsL F l l.length := by
  cases l with
  | nil => exact absurd rfl h
  | cons x r => exact mem_firsts.mpr ⟨by simp, rfl⟩
/-- what stands fast while the least pile is drawn from a pile -/
structure LInv (F : Fld) (l fl ll : List (Str × Int)) : Prop where
  srt : XM.Srt (OF F) fl ll
  pl : XM.pl (OF F) (fl ++ ll) = true
  nf : XM.NZ fl
  nl : XM.NZ ll
  act : XM.act (OF F) (fl ++ ll) [] = XM.act (OF F) l []
  nm : Names F ll
  len : fl.length + ll.length ≤ 60
theorem LInv.step {F : Fld} {l fl p q : List (Str × Int)} {s : Str × Int} (I : LInv F l fl (p ++ s :: q)) (L : XM.LeastFirst (OF F) p s q) : LInv F l (fl ++ [s]) (p ++ q) := by
  have zs : s.2 ≠ 0 := I.nl s (by simp)
  have zp : XM.NZ p := fun y hy => I.nl y (by simp [hy])
  have zq : XM.NZ q := fun y hy => I.nl y (by simp [hy])
  refine ⟨I.srt.step L, ?_, I.nf.app fun y hy => by rw [List.mem_singleton.mp hy]; exact zs, zp.app zq, ?_, fun y hy => I.nm y ?_, ?_⟩
  · rw [List.append_assoc, List.singleton_append, ← XM.pl_move L.free]
    exact I.pl
  · rw [List.append_assoc, List.singleton_append, ← XM.act_move L.free I.nf zp (show XM.NF (OF F) [] from trivial)]
    exact I.act
  · rw [List.mem_append] at hy
    rcases hy with h | h <;> simp [h]
  · have := I.len
    simp at this ⊢
    omega
theorem LInv.done {F : Fld} {l fl : List (Str × Int)} (I : LInv F l fl []) : (XM.act (OF F) l []).reverse = fl := by
  have h := I.pl
  have nf : XM.NF (OF F) fl.reverse := XM.nf_of (left := []) _ fl rfl I.srt h I.nf
  have a := XM.act_fix nf
  rw [List.reverse_reverse] at a
  have := I.act
  rw [List.append_nil, a] at this
  rw [← this, List.reverse_reverse]
theorem lay_steps : ∀ {l : List (Str × Int)}, (∀ s ∈ l, GoodName s.1) → PyData.canLayAll0 (l.map dStep) = true
  | [], _ => rfl
  | s :: l, h => by
    rw [List.map_cons, PyData.canLayAll0, lay_steps fun x hx => h x (List.mem_cons_of_mem _ hx)]
    show (PyData.canLay0 (.tuple [.str s.1, .int s.2]) && true) = true
    simp [PyData.canLay0, PyData.canLayAll0, strOk_of (h s List.mem_cons_self)]
theorem deep_steps : ∀ l : List (Str × Int), PyData.depthAll (l.map dStep) ≤ 2
  | [] => by decide
  | s :: l => by
    rw [List.map_cons, PyData.depthAll]
    have := deep_steps l
    have e : (dStep s).depth ≤ 2 := by
      show PyData.depth (.tuple [.str s.1, .int s.2]) ≤ 2
      simp [PyData.depth, PyData.depthAll]
    omega
theorem sh_steps {l : List (Str × Int)} (h : ∀ s ∈ l, GoodName s.1) : SeqAt.shaped (.list (l.map dStep)) = true := by
  have h2 := deep_steps l
  show (PyData.canLayAll0 (l.map dStep) && decide (PyData.depthAll (l.map dStep) + 1 ≤ 64)) = true
  rw [lay_steps h, Bool.true_and]
  exact decide_eq_true (by omega)
theorem ne_steps (l : List (Str × Int)) : PyData.eqv (.list (l.map dStep)) (.list []) = l.isEmpty := by
  cases l <;> rfl
end XB
set_option Elab.async false
set_option linter.all false
set_option maxRecDepth 100000
set_option maxHeartbeats 4000000
namespace XB
open PySem PySem.Spec PyProof.Rows L2
theorem fresh_of {H H1 : Hp} {p : Addr} (s : Same H H1) (h : H1 p = none) : H p = none := by
  cases e : H p with
  | none => rfl
  | some o =>
    rw [s _ _ e] at h
    cases h
theorem nat_at {ns : List Nat} {i : Nat} {x : V} (h : (ns.map fun k => V.int (k : Nat))[i]? = some x) : ∃ k, ns[i]? = some k ∧ x = V.int (k : Nat) := by
  rw [List.getElem?_map] at h
  obtain ⟨z, e, rfl⟩ := Option.map_eq_some_iff.mp h
  exact ⟨z, e, rfl⟩
section
variable {P : Program} {w : World} {K : PySem.W.Frag} {mg : Str → Option Value} {base : Heap}
def spLawLeast (K : PySem.W.Frag) (F : Fld) : Sp := fun vs H Q _ => ∃ (a p : Addr) (l : List (Str × Int)), vs = [.ref a, .ref p] ∧ Dp K H (.ref a) (dField F) ∧ F.Ok ∧ Dp K H (.ref p) (dSteps l) ∧ Names F l ∧ XM.NZ l ∧ l.length ≤ 60 ∧
  ∀ H' r, Same H H' → Dp K H' (.ref r) (dSteps (XM.act (OF F) l []).reverse) → Q (.ref r) H'
def LeastInv (K : PySem.W.Frag) (F : Fld) (H : Hp) (a p : Addr) (l : List (Str × Int)) : Nat → L2.St → Hp → Prop := fun m σ H2 => ∃ (D E : Addr) (xs ys : List V) (ll fl : List (Str × Int)) (y4 y5 y6 : Option V), m = ll.length ∧ σ = [some (.ref a), some (.ref p), some (.ref D), some (.ref E), y4, y5, y6] ∧ Same H H2 ∧
  H2 D = some (.lst xs) ∧ DpAll K H2 xs (ll.map dStep) ∧ H D = none ∧ H2 E = some (.lst ys) ∧ DpAll K H2 ys (fl.map dStep) ∧ H E = none ∧ D ≠ E ∧ LInv F l fl ll
end
end XB
set_option Elab.async false
set_option linter.all false
set_option maxRecDepth 100000
set_option maxHeartbeats 4000000
/-! tuples of which it is known that they have no dict of their own: their methods may be called -/
namespace XB
open PySem PySem.Spec PyProof.Rows L2
def SqF (H : Hp) (a : Addr) (xs : List V) : Prop := ∃ o : Obj, H a = some (.frz o (.tup xs)) ∧ o.cls = .type "tuple" ∧ o.dict = none
theorem SqF.sqT {K : PySem.W.Frag} {H : Hp} {a : Addr} {xs : List V} (h : SqF H a xs) : SqT K H a xs := by
  obtain ⟨o, e, _⟩ := h
  exact .inl (.inr ⟨o, e⟩)
theorem SqF.same {H H' : Hp} {a : Addr} {xs : List V} (h : SqF H a xs) (s : Same H H') : SqF H' a xs := by
  obtain ⟨o, e, r⟩ := h
  exact ⟨o, s _ _ e, r⟩
theorem SqF.tk {H H' : Hp} {a : Addr} {xs : List V} (h : SqF H a xs) (t : Tk H H') : SqF H' a xs := by
  obtain ⟨o, e, r⟩ := h
  exact ⟨o, t.z _ _ _ e, r⟩
/-- the names of a field stand so -/
def FNm (K : PySem.W.Frag) (H : Hp) (f : Addr) (F : Fld) : Prop := ∃ n p, SqT K H f [.ref n, .ref p] ∧ SqF H n (F.names.map V.str)
theorem FNm.tk {K : PySem.W.Frag} {H H' : Hp} {f : Addr} {F : Fld} (h : FNm K H f F) (t : Tk H H') : FNm K H' f F := by
  obtain ⟨n, p, h1, h2⟩ := h
  exact ⟨n, p, t.sqT h1, h2.tk t⟩
/-- (e, ..): a new tuple without a dict of its own -/
def tTupF (t : TA) : TE := fun σ H Q => t σ H fun xs H1 => xs.length ≤ sizeLine ∧ ∀ p o, o.cls = .type "tuple" → o.dict = none → H1 p = none → Q (.ref p) (upd H1 p (.frz o (.tup xs)))
def rSlF (K : PySem.W.Frag) : V → Option Int → Option Int → Hp → VK → Prop := fun x lo hi H Q => ∃ a xs, x = .ref a ∧ SqF H a xs ∧ ∀ H' p, Same H H' → SqF H' p (cutV xs lo hi) → Q (.ref p) H'
section
variable {X : Cx} {es : List Expr} {t : TA} {pos : Pos}
theorem pe_tupF {x1} (h : PA X es t) : PE X (.Tuple es x1 pos) (tTupF t) := by
  refine ⟨fun pins s σ H Q I hq => ?_⟩
  refine wpAny_Tuple_spliced (thn (h.run pos pins s σ H _ I hq) fun us s1 ⟨xs, H1, I1, r, z, q⟩ => ⟨by rw [← r.length]; exact z, ?_⟩)
  have hf : H1 s1.heap.objs.size = none := I1.hok.fresh (Nat.le_refl _)
  refine ⟨.ref s1.heap.objs.size, upd H1 s1.heap.objs.size (.frz { cls := .type "tuple", data := .seq us.toArray } (.tup xs)), I1.laid (t' := s1.toks) (fun b u e => Heap.get?_push_of_some _ e) (Nat.le_refl _) ?_, rfl, q _ _ rfl rfl hf⟩
  exact ⟨Heap.get?_push_size _ rfl, z, us, r, ⟨_, Heap.get?_push_size _ rfl, rfl, _, rfl⟩⟩
theorem sl_tupF {K : PySem.W.Frag} (hk : X.K = K) : SlR X (rSlF K) := by
  subst hk
  intro pins s σ H x v vl vu lo hi sl Q I rx hs pl pu h
  obtain ⟨a, xs, rfl, hF, q⟩ := h
  have hx : SqT X.K H a xs := hF.sqT
  cases rx
  obtain ⟨its, r, ht, hz⟩ := I.tuple hx
  have hlen : its.toArray.size = xs.length := by rw [List.size_toArray]; exact r.length.symm
  refine ⟨"tuple", _, PyProof.Rows.slot_tuple_getitem.lookup, ht.typeIs, ?_⟩
  by_cases hw : HT.sIx xs.length 0 lo = 0 ∧ HT.sIx xs.length xs.length hi = xs.length
  · refine getItem_tuple_whole ht hs pl pu (by rw [hlen]; exact hw) ⟨.ref a, H, I, rfl, q H a (Same.refl _) ?_⟩
    have e : cutV xs lo hi = xs := by
      unfold cutV
      rw [hw.1, hw.2]
      simp
    rw [e]
    exact hF
  · refine HT.getItem_tuple_cut ht hs pl pu (by rw [hlen]; exact hw) ?_ (by rw [hlen]; exact hz)
    rw [hlen]
    have hf : H s.heap.objs.size = none := I.hok.fresh (Nat.le_refl _)
    refine ⟨.ref s.heap.objs.size, _, I.laid (t' := s.toks) (o := .frz { cls := .type "tuple", data := .seq ((its.drop (HT.sIx xs.length 0 lo)).take (HT.sIx xs.length xs.length hi - HT.sIx xs.length 0 lo)).toArray } (.tup (cutV xs lo hi))) (fun b ob q => Heap.get?_push_of_some _ q) (Nat.le_refl _) ?_, rfl, q _ _ (same_upd hf) ⟨_, upd_same, rfl, rfl⟩⟩
    exact ⟨Heap.get?_push_size _ rfl, Nat.le_trans (cutV_length xs lo hi) hz, _, (r.drop (HT.sIx xs.length 0 lo)).take (HT.sIx xs.length xs.length hi - HT.sIx xs.length 0 lo), IsTup.new _ _⟩
/-- o.m(e, ..) of such a tuple -/
def tBMF (r : V → List V → Hp → VK → Prop) (to : TE) (t : TA) : TE := fun σ H Q => to σ H fun x H1 => (∃ a xs, x = .ref a ∧ SqF H1 a xs) ∧ t σ H1 fun xs H2 => r x xs H2 Q
variable {o e : Expr} {to : TE} {name : Str} {apos cpos : Pos} {id : String} {r : V → List V → Hp → VK → Prop}
theorem pe_bmF (slot : Slot "tuple" name id) (hty : typeOf (.builtin id) = pure (.type "method_descriptor")) (hm : MtR X id r) (ho : PE X o to) (ha : PA X (e :: es) t)
    (hbase : attributeBase o name X.env (eval o X.env) = eval o X.env := by rfl)
    (hfew : ((backTo cpos (starEach (e :: es) X.env)).all (fun x => !x.1) && (backToKw cpos (keywordEach [] X.env)).all (fun x => x.1.isSome)
      && decide ((e :: es).length + ([] : List Keyword).length + (if ([] : List Keyword).isEmpty then 0 else 1) < 30)) = true := by rfl)
    (hline : (apos.endLine == cpos.line) = true := by rfl) (hs : starEach (e :: es) X.env = (false, eval e X.env) :: starEach es X.env := by rfl) (hplain : (backTo cpos (starEach es X.env)).any (·.1) = false := by rfl) :
    PE X (.Call (.Attribute o name apos) (e :: es) [] cpos) (tBMF r to t) := by
  refine ⟨fun pins s σ H Q I h => ?_⟩
  refine wpAny_Call_method_late hbase hfew hline rfl (thn (ho.run pins s σ H _ I h) fun v s1 ⟨x, H1, I1, r1, ty, q1⟩ => ?_)
  obtain ⟨a, xs, rfl, ob, hH, hc, hd⟩ := ty
  cases r1
  obtain ⟨hg, _⟩ := I1.hok a _ hH
  refine ⟨"tuple", id, PySem.F.plainAttrs_tuple, slot, hty, ⟨ob, hg, hc⟩, fun b e => ?_, ?_⟩
  · cases e
    exact ⟨ob, hg, hd⟩
  · have hA := ha.run cpos pins s1 σ H1 _ I1 q1
    rw [hs] at hA ⊢
    refine Calls.callWith_builtin (by show (false || (backTo cpos (starEach es X.env)).any (·.1)) = false; rw [hplain] <;> rfl) (Calls.evalArgs_plain ?_)
    exact thn hA fun us s2 ⟨vs, H2, I2, r2, q2⟩ => hm pins s2 σ H2 (.ref a) vs _ us Q I2 rfl r2 q2
end
end XB
set_option Elab.async false
set_option linter.all false
set_option maxRecDepth 100000
set_option maxHeartbeats 4000000
namespace XB
open PySem PySem.Spec PyProof.Rows L2
def NL : List Str := ["a", "b", "c", "dd", "e", "f"]
def nmN (i : Nat) : Str := (NL[i]?).getD ""
def fP (n i : Nat) : List (Str × Str) := ((NL.take n).drop (i + 1)).map fun o => (nmN i, o)
def PP (n k : Nat) : List (Str × Str) := (List.range k).flatMap (fP n)
def ltP (p q : Str × Str) : Bool := if p.1 == q.1 then (if p.2 == q.2 then false else sLt p.2 q.2) else sLt p.1 q.1
def pwB {α : Type} (r : α → α → Bool) : List α → Bool
  | [] => true
  | x :: l => l.all (r x) && pwB r l
theorem pw_of {α : Type} {r : α → α → Bool} : ∀ {l : List α}, pwB r l = true → l.Pairwise fun a b => r a b = true
  | [], _ => .nil
  | x :: l, h => by
    unfold pwB at h
    rw [Bool.and_eq_true, List.all_eq_true] at h
    exact .cons h.1 (pw_of h.2)
def goodB (n : Str) : Bool := decide (1 ≤ n.length) && decide (n.length ≤ 6) && n.cps.toList.all fun c => decide (97 ≤ c) && decide (c ≤ 122)
theorem good_of {n : Str} (h : goodB n = true) : GoodName n := by
  unfold goodB at h
  simp only [Bool.and_eq_true, decide_eq_true_eq, List.all_eq_true] at h
  exact ⟨h.1.1, h.1.2, h.2⟩
def okB (n : Nat) : Bool := (PP n n).all (fun p => sLt p.1 p.2 && (NL.take n).contains p.1 && (NL.take n).contains p.2) && pwB ltP (PP n n) && pwB sLt (NL.take n) && (NL.take n).all goodB && decide ((PP n n).length ≤ 100) && decide ((NL.take n).length = n)
theorem okB_all : okB 1 = true ∧ okB 2 = true ∧ okB 3 = true ∧ okB 4 = true ∧ okB 5 = true ∧ okB 6 = true := by decide +kernel
theorem okB_of {n : Nat} (h0 : 1 ≤ n) (h6 : n ≤ 6) : okB n = true := by
  obtain ⟨a, b, c, d, e, f⟩ := okB_all
  rcases n with _ | _ | _ | _ | _ | _ | _ | n
  · omega
  · exact a
  · exact b
  · exact c
  · exact d
  · exact e
  · exact f
  · omega
theorem fld_ok {n : Nat} {ps : List (Str × Str)} (h0 : 1 ≤ n) (h6 : n ≤ 6) (hs : ps.Sublist (PP n n)) : (Fld.mk (NL.take n) ps).Ok := by
  have h := okB_of h0 h6
  unfold okB at h
  simp only [Bool.and_eq_true, decide_eq_true_eq, List.all_eq_true] at h
  obtain ⟨⟨⟨⟨⟨a, b⟩, c⟩, d⟩, e⟩, f⟩ := h
  refine ⟨by show 0 < (NL.take n).length; omega, by show (NL.take n).length ≤ 6; omega, fun p hp => (a p (hs.subset hp)).1.1, fun p hp => ⟨?_, ?_⟩, fun x hx => good_of (d x hx), pw_of c, (pw_of b).sublist hs, Nat.le_trans hs.length_le e⟩
  · have := (a p (hs.subset hp)).1.2
    simpa using this
  · have := (a p (hs.subset hp)).2
    simpa using this
theorem Dr.tk {H H' : Hp} {m c g : Addr} {s : Int} (D : Dr H m c g s) (k : Kp m g H H') : Tk H H' := by
  obtain ⟨⟨cs, gs, em, ec, eg, _⟩, _⟩ := D
  exact ⟨fun b xs e => k b _ (ne_of e em fun q => nomatch q) (ne_of e eg fun q => nomatch q) e, fun b o u e => k b _ (ne_of e em fun q => nomatch q) (ne_of e eg fun q => nomatch q) e⟩
theorem Dr.nm {H : Hp} {m c g : Addr} {s : Int} (D : Dr H m c g s) {p : Addr} (h : H p = none) : p ≠ m ∧ p ≠ c ∧ p ≠ g := by
  obtain ⟨⟨cs, gs, em, ec, eg, _⟩, _⟩ := D
  exact ⟨fun e => (by rw [e, em] at h; cases h), fun e => (by rw [e, ec] at h; cases h), fun e => (by rw [e, eg] at h; cases h)⟩
theorem Dr.same {H H' : Hp} {m c g : Addr} {s : Int} (D : Dr H m c g s) (t : Same H H') : Dr H' m c g s := by
  obtain ⟨⟨cs, gs, em, ec, eg, r⟩, a, b⟩ := D
  exact ⟨⟨cs, gs, t _ _ em, t _ _ ec, t _ _ eg, r⟩, a, b⟩
theorem Dr.put {H : Hp} {m c g D : Addr} {s : Int} {o : HO} (R : Dr H m c g s) (h : D ≠ m ∧ D ≠ c ∧ D ≠ g) : Dr (upd H D o) m c g s := by
  obtain ⟨⟨cs, gs, em, ec, eg, r⟩, a, b⟩ := R
  exact ⟨⟨cs, gs, by rw [upd_ne h.1.symm]; exact em, by rw [upd_ne h.2.1.symm]; exact ec, by rw [upd_ne h.2.2.symm]; exact eg, r⟩, a, b⟩
theorem Kp.put {m g D : Addr} {H H1 : Hp} {o : HO} (k : Kp m g H H1) (h : H D = none) : Kp m g H (upd H1 D o) := fun b u h1 h2 e => by
  rw [upd_ne (ne_of_none e h)]
  exact k b u h1 h2 e
theorem sl_pre {K : PySem.W.Frag} {H : Hp} {a : Addr} {xs : List V} {k : Nat} {Q : VK} (h : SqT K H a xs) (q : ∀ H' p, Same H H' → SqT K H' p (xs.take k) → Q (.ref p) H') : rSlA K (.ref a) none (some (k : Int)) H Q := by
  refine ⟨a, xs, rfl, h, fun hw => q H a (Same.refl _) ?_, fun _ p hp => q _ p (same_upd hp) ?_⟩
  · rw [← cut_init, cut_whole hw]
    exact h
  · rw [← cut_init]
    exact SqT.of upd_same
theorem sl_suf {K : PySem.W.Frag} {H : Hp} {a : Addr} {xs : List V} {k : Nat} {Q : VK} (h : SqT K H a xs) (q : ∀ H' p, Same H H' → SqT K H' p (xs.drop k) → Q (.ref p) H') : rSlA K (.ref a) (some (k : Int)) none H Q := by
  refine ⟨a, xs, rfl, h, fun hw => q H a (Same.refl _) ?_, fun _ p hp => q _ p (same_upd hp) ?_⟩
  · rw [← cut_from, cut_whole hw]
    exact h
  · rw [← cut_from]
    exact SqT.of upd_same
theorem PP_succ (n k : Nat) : PP n (k + 1) = PP n k ++ fP n k := by
  unfold PP
  rw [List.range_succ, List.flatMap_append]
  simp
theorem nl_at {n k : Nat} (h6 : n ≤ 6) (h : k < n) : ((NL.take n).map V.str)[k]? = some (.str (nmN k)) := by
  have hl : k < NL.length := by show k < 6; omega
  rw [List.getElem?_map, List.getElem?_take, if_pos h, List.getElem?_eq_getElem hl]
  unfold nmN
  rw [List.getElem?_eq_getElem hl]
  rfl
theorem nl_len {n : Nat} (h6 : n ≤ 6) : (NL.take n).length = n := by
  rw [List.length_take]
  show min n 6 = n
  omega
/-- pairs in a list of their own -/
def RowP (K : PySem.W.Frag) (H : Hp) (D : Addr) (ps : List (Str × Str)) : Prop := ∃ xs, H D = some (.lst xs) ∧ DpAll K H xs (ps.map dPair)
theorem flat_pairs (ps : List (Str × Str)) : flatAll (ps.map dPair) = true := flatAll_of fun d hd => by
  obtain ⟨y, _, rfl⟩ := List.mem_map.mp hd
  rfl
def FieldInv (K : PySem.W.Frag) (H : Hp) (m c g tn D : Addr) (most ch s : Int) (n : Nat) (all : List (Str × Str)) (b : Nat) (y5 : Option V) : L2.St → Hp → Prop := fun σ H2 => ∃ (y6 : Option V) (s2 : Int) (ps : List (Str × Str)), σ = [some (.ref m), some (.int most), some (.ref tn), some (.ref D), some (.int ch), y5, y6] ∧
  Kp m g H H2 ∧ Dr H2 m c g s2 ∧ s2 ≤ s + 2 + (b : Int) ∧ SqF H2 tn ((NL.take n).map V.str) ∧ RowP K H2 D ps ∧ ps.Sublist all ∧ ps.length ≤ b
section
variable {P : Program} {w : World} {K : PySem.W.Frag} {mg : Str → Option Value} {base : Heap}
def spLawField (K : PySem.W.Frag) : Sp := fun vs H Q _ => ∃ (m c g : Addr) (s most : Int), vs = [.ref m, .int most] ∧ Dr H m c g s ∧ 1 ≤ most ∧ most ≤ 6 ∧ s < 1000000000 ∧
  ∀ H' f F s', Dr H' m c g s' → s' ≤ s + 40 → Kp m g H H' → Dp K H' (.ref f) (dField F) → F.Ok → FNm K H' f F → Q (.ref f) H'
end
end XB
set_option Elab.async false
set_option linter.all false
set_option maxRecDepth 100000
set_option maxHeartbeats 4000000
namespace XB
open PySem PySem.Spec PyProof.Rows L2
def SL : List Int := [1, -1, 1, -1, 2, -2, 3, -3, 1, -1, 6, 10 ^ 30, -(10 ^ 30), 10 ^ 30 - 1]
theorem sl_good {i : Nat} {z : Int} (h : SL[i]? = some z) : GoodTimes z := by
  have : ∀ z ∈ SL, z ≠ 0 ∧ -(10 ^ 30) ≤ z ∧ z ≤ 10 ^ 30 := by decide +kernel
  exact this z (List.mem_of_getElem? h)
section
variable {P : Program} {w : World} {K : PySem.W.Frag} {mg : Str → Option Value} {base : Heap}
def spLawScript (K : PySem.W.Frag) : Sp := fun vs H Q _ => ∃ (m c g f : Addr) (s most : Int) (F : Fld), vs = [.ref m, .ref f, .int most] ∧ Dr H m c g s ∧ Dp K H (.ref f) (dField F) ∧ F.Ok ∧ 0 ≤ most ∧ most ≤ 60 ∧ s < 1000000000 ∧
  ∀ H' r l s', Dr H' m c g s' → s' ≤ s + 2 + 2 * most → Kp m g H H' → Dp K H' (.ref r) (dSteps l) → GoodScript F l → (l.length : Int) ≤ most → Q (.ref r) H'
def ScriptInv (K : PySem.W.Frag) (F : Fld) (H : Hp) (m c g f D S : Addr) (most many s : Int) (b : Nat) : L2.St → Hp → Prop := fun σ H2 => ∃ (y6 : Option V) (s2 : Int) (l : List (Str × Int)), σ = [some (.ref m), some (.ref f), some (.int most), some (.ref D), some (.ref S), some (.int many), y6] ∧
  Kp m g H H2 ∧ Dr H2 m c g s2 ∧ s2 ≤ s + 2 + 2 * (b : Int) ∧ Dp K H2 (.ref f) (dField F) ∧ H2 S = some (.lst (SL.map V.int)) ∧ Row1 K H2 D l ∧ (∀ x ∈ l, x.1 ∈ F.names ∧ GoodTimes x.2) ∧ l.length = b
end
end XB
set_option Elab.async false
set_option linter.all false
set_option maxRecDepth 100000
set_option maxHeartbeats 4000000
namespace XB
open PySem PySem.Spec PyProof.Rows L2
/-- what can be shown: how great it is -/
structure Sz (d : PyData) (n : Nat) : Prop where
  sh : d.showable = true
  nd : d.hasDict = false
  dp : d.depth ≤ 20
  lv : d.leavesShort 60 = true
  bk : d.bulk ≤ n
structure SzA (ds : List PyData) (n : Nat) : Prop where
  sh : PyData.showableAll ds = true
  nd : PyData.hasDictAll ds = false
  dp : PyData.depthAll ds ≤ 19
  lv : PyData.leavesShortAll 60 ds = true
  bk : PyData.bulkAll ds ≤ n
theorem Sz.fits {d : PyData} {n : Nat} (h : Sz d n) (hn : n ≤ 100000) : d.shown.length ≤ sizeLine := by
  have q := PyData.shown_le_bulk 60 (by decide) d h.lv
  have := h.bk
  rw [sizeLine_eq]
  omega
theorem SzA.nil : SzA [] 0 := ⟨rfl, rfl, by decide, rfl, Nat.le_refl _⟩
theorem SzA.cons {d : PyData} {ds : List PyData} {n k : Nat} (h : Sz d n) (hd : d.depth ≤ 19) (t : SzA ds k) : SzA (d :: ds) (n + 1 + k) := by
  refine ⟨?_, ?_, ?_, ?_, ?_⟩
  · rw [PyData.showableAll, h.sh, t.sh]
    rfl
  · rw [PyData.hasDictAll, h.nd, t.nd]
    rfl
  · rw [PyData.depthAll]
    have := t.dp
    omega
  · rw [PyData.leavesShortAll, h.lv, t.lv]
    rfl
  · rw [PyData.bulkAll]
    have := h.bk
    have := t.bk
    omega
theorem SzA.tup {ds : List PyData} {n : Nat} (h : SzA ds n) : Sz (.tuple ds) n := ⟨by rw [PyData.showable]; exact h.sh, by rw [PyData.hasDict]; exact h.nd, by rw [PyData.depth]; have := h.dp; omega, by rw [PyData.leavesShort]; exact h.lv, by rw [PyData.bulk]; exact h.bk⟩
theorem SzA.lst {ds : List PyData} {n : Nat} (h : SzA ds n) : Sz (.list ds) n := ⟨by rw [PyData.showable]; exact h.sh, by rw [PyData.hasDict]; exact h.nd, by rw [PyData.depth]; have := h.dp; omega, by rw [PyData.leavesShort]; exact h.lv, by rw [PyData.bulk]; exact h.bk⟩
theorem Sz.mono {d : PyData} {n k : Nat} (h : Sz d n) (e : n ≤ k) : Sz d k := ⟨h.sh, h.nd, h.dp, h.lv, Nat.le_trans h.bk e⟩
theorem sz_bool (b : Bool) : Sz (.bool b) 0 := ⟨rfl, rfl, by simp [PyData.depth], rfl, Nat.le_refl _⟩
theorem sz_int {z : Int} (h : z.natAbs < 10 ^ 50) : Sz (.int z) 0 := by
  refine ⟨decide_eq_true ?_, rfl, by simp [PyData.depth], decide_eq_true ?_, Nat.le_refl _⟩
  · by_cases h0 : z.natAbs = 0
    · rw [h0]
      decide
    · have : z.natAbs.log2 < 200 := (Nat.log2_lt h0).mpr (Nat.lt_of_lt_of_le h (by decide))
      omega
  · have e := int_text_length_le10 (k := 50) (by decide) h
    show (Str.ofString (toString z)).length ≤ 60
    rw [PySem.ofString_length]
    omega
theorem sz_str {n : Str} (h : GoodName n) : Sz (.str n) 6 := by
  refine ⟨rfl, rfl, by simp [PyData.depth], ?_, h.2.1⟩
  show (n.cps.toList.all fun c => decide (c < 16 ^ 8)) = true
  rw [List.all_eq_true]
  intro c hc
  have := h.2.2 c hc
  exact decide_eq_true (by omega)
theorem sz_step {s : Str × Int} (h : GoodName s.1) (g : s.2.natAbs < 10 ^ 50) : Sz (dStep s) 8 := (SzA.cons (sz_str h) (by simp [PyData.depth]) (SzA.cons (sz_int g) (by simp [PyData.depth]) SzA.nil)).tup.mono (by omega)
theorem sz_stepsA : ∀ {l : List (Str × Int)}, (∀ s ∈ l, GoodName s.1 ∧ s.2.natAbs < 10 ^ 50) → SzA (l.map dStep) (9 * l.length)
  | [], _ => SzA.nil
  | s :: l, h => by
    have t := sz_stepsA fun x hx => h x (List.mem_cons_of_mem _ hx)
    have hs := h s List.mem_cons_self
    have e : (dStep s).depth ≤ 19 := by
      show PyData.depth (.tuple [.str s.1, .int s.2]) ≤ 19
      simp [PyData.depth, PyData.depthAll]
    have q := SzA.cons (sz_step hs.1 hs.2) e t
    exact ⟨q.sh, q.nd, q.dp, q.lv, Nat.le_trans q.bk (by rw [List.length_cons]; omega)⟩
theorem sz_strsA : ∀ {l : List Str}, (∀ s ∈ l, GoodName s) → SzA (l.map .str) (7 * l.length)
  | [], _ => SzA.nil
  | s :: l, h => by
    have t := sz_strsA fun x hx => h x (List.mem_cons_of_mem _ hx)
    have q := SzA.cons (sz_str (h s List.mem_cons_self)) (by simp [PyData.depth]) t
    exact ⟨q.sh, q.nd, q.dp, q.lv, Nat.le_trans q.bk (by rw [List.length_cons]; omega)⟩
section
variable {P : Program} {w : World} {K : PySem.W.Frag} {mg : Str → Option Value} {base : Heap}
def spLike (K : PySem.W.Frag) : Sp := fun vs H Q _ => ∃ (u v : V) (d : PyData), vs = [u, v] ∧ Dp K H u d ∧ Dp K H v d ∧ Sz d 90000 ∧ Q (.bl true) H
theorem g__law_like (T : Tx K mg) : Cg P w K mg base CX0 1 "_law_like" (spLike K) := by
  refine cg0 T.d__law_like (ps := ["answer", "due"]) (fun _ _ _ _ _ _ us hl => match us, hl with | [_, _], _ => rfl) sc__law_like (fun vs H Q E h => ?_) (fun f cdv A outer st H vs Q E hgu hr h => ?_)
  · obtain ⟨u, v, d, rfl, _⟩ := h
    rfl
  · obtain ⟨u, v, d, rfl, h1, h2, z, q⟩ := h
    have hu : (A.deeper (envOfC "_law_like" (defScope s__law_like) st.heap.objs.size f cdv)).units + 70 < cLine := by
      have := hr.un
      omega
    refine ⟨_, pss_one (ps_ret (pe_cmpR op_eq (pe_callB (call_reprD hgu hu) (by rfl) T.b_repr (by decide +kernel) (pa_cons (pv 0) pa_nil)) (pe_callB (call_reprD hgu hu) (by rfl) T.b_repr (by decide +kernel) (pa_cons (pv 1) pa_nil)) (nomark _))), ?_⟩
    have dd := z.dp
    refine ⟨_, rfl, u, d, rfl, h1, z.sh, z.nd, by omega, z.fits (by decide), _, rfl, v, d, rfl, h2, z.sh, z.nd, by omega, z.fits (by decide), rfl, ?_⟩
    show Q (.bl (decide (V.str d.shown = V.str d.shown))) H
    rw [decide_eq_true rfl]
    exact q
end
end XB
set_option Elab.async false
set_option linter.all false
set_option maxRecDepth 100000
set_option maxHeartbeats 4000000
namespace XB
open PySem PySem.Spec PyProof.Rows L2
theorem firsts_frs {F : Fld} {l : List (Str × Int)} : ∀ n : Nat, n ≤ l.length → (firstsL F l n).map (nm1 l) = XM.frs (OF F) [] (l.take n)
  | 0, _ => rfl
  | n + 1, h => by
    have ih := firsts_frs (F := F) n (Nat.le_of_succ_le h)
    have hs : l[n]? = some l[n] := List.getElem?_eq_getElem h
    generalize l[n] = s at hs
    rw [firsts_snoc, List.map_append, ih, take_snoc hs, XM.frs_snoc, List.nil_append]
    congr 1
    have e : free1 F l n = (l.take n).all fun w => !(OF F).tc w.1 s.1 := by
      unfold free1
      rw [hs]
    rw [e]
    cases (l.take n).all fun w => !(OF F).tc w.1 s.1
    · rfl
    · rw [if_pos rfl, if_pos rfl, List.map_singleton, nm1_of hs]
theorem srt_unique : ∀ {zs ys : List Str}, zs.Perm ys → sortedS zs = true → sortedS ys = true → zs = ys
  | [], ys, p, _, _ => (List.Perm.nil_eq p)
  | z :: zs, [], p, _, _ => by
    have := p.length_eq
    simp at this
  | z :: zs, y :: ys, p, h1, h2 => by
    have m1 : y ∈ z :: zs := p.symm.subset List.mem_cons_self
    have m2 : z ∈ y :: ys := p.subset List.mem_cons_self
    have a1 := sorted_head h1 y m1
    have a2 := sorted_head h2 z m2
    have e : z = y := by
      by_cases e : z = y
      · exact e
      · have := sLt_tot z y e a2
        rw [a1] at this
        cases this
    subst e
    have t : ∀ {x : Str} {l : List Str}, sortedS (x :: l) = true → sortedS l = true := fun {x l} h => by
      cases l with
      | nil => rfl
      | cons y r =>
        have h : risingS x (y :: r) = true := h
        unfold risingS at h
        rw [Bool.and_eq_true] at h
        exact h.2
    rw [srt_unique (p.cons_inv) (t h1) (t h2)]
theorem srt_same {ns ms zs ys : List Str} (h1 : SrtOf ns zs) (h2 : SrtOf ms ys) (h : ns.Perm ms) : zs = ys := srt_unique (h1.1.trans (h.trans h2.1.symm)) h1.2 h2.2
theorem ins_bound {F : Fld} {x : Str × Int} {b c : Nat} (hx : x.2.natAbs ≤ c) : ∀ {r : List (Str × Int)}, (∀ y ∈ r, y.2.natAbs ≤ b) → ∀ y ∈ XM.ins (OF F) x r, y.2.natAbs ≤ b + c
  | [], _ => fun y hy => by
    have hy : y ∈ [x] := hy
    rw [List.mem_singleton.mp hy]
    omega
  | z :: r, h => by
    have ih := ins_bound (F := F) hx (r := r) fun y hy => h y (List.mem_cons_of_mem _ hy)
    have hz := h z List.mem_cons_self
    have h0 : ∀ y ∈ r, y.2.natAbs ≤ b + c := fun y hy => by
      have := h y (List.mem_cons_of_mem _ hy)
      omega
    have k : ∀ {a : Str × Int} {l : List (Str × Int)}, a.2.natAbs ≤ b + c → (∀ y ∈ l, y.2.natAbs ≤ b + c) → ∀ y ∈ a :: l, y.2.natAbs ≤ b + c := fun {a l} ha hl y hy => by
      rcases List.mem_cons.mp hy with rfl | hy
      · exact ha
      · exact hl y hy
    unfold XM.ins
    by_cases e1 : z.1 = x.1
    · rw [if_pos e1]
      by_cases e2 : z.2 + x.2 = 0
      · rw [if_pos e2]
        exact h0
      · rw [if_neg e2]
        exact k (by show (z.2 + x.2).natAbs ≤ b + c; omega) h0
    · rw [if_neg e1]
      by_cases e2 : (OF F).tc z.1 x.1 = true
      · rw [if_pos e2]
        exact k (by omega) (k (by omega) h0)
      · rw [if_neg e2]
        by_cases e3 : ((OF F).lt z.1 x.1 && XM.top (OF F) x.1 r) = true
        · rw [if_pos e3]
          exact k (by omega) (k (by omega) h0)
        · rw [if_neg e3]
          exact k (by omega) ih
theorem act_bound {F : Fld} {c : Nat} : ∀ {l r : List (Str × Int)} {b : Nat}, (∀ y ∈ l, y.2.natAbs ≤ c) → (∀ y ∈ r, y.2.natAbs ≤ b) → ∀ y ∈ XM.act (OF F) l r, y.2.natAbs ≤ b + l.length * c
  | [], r, b, _, h => fun y hy => by
    have := h y hy
    omega
  | x :: l, r, b, hl, h => fun y hy => by
    rw [XM.act_cons] at hy
    have := act_bound (F := F) (b := b + c) (fun z hz => hl z (List.mem_cons_of_mem _ hz)) (ins_bound (hl x List.mem_cons_self) h) y hy
    rw [List.length_cons, Nat.succ_mul]
    omega
theorem len_bound {c : Nat} : ∀ {l : List (Str × Int)}, (∀ y ∈ l, y.2.natAbs ≤ c) → (lenOf l).natAbs ≤ l.length * c
  | [], _ => by
    show (0 : Int).natAbs ≤ _
    omega
  | x :: l, h => by
    have t := len_bound (l := l) fun y hy => h y (List.mem_cons_of_mem _ hy)
    have hx := h x List.mem_cons_self
    have e : lenOf (x :: l) = (if x.2 < 0 then -x.2 else x.2) + lenOf l := by
      unfold lenOf
      rw [List.map_cons, List.sum_cons]
    rw [e, List.length_cons, Nat.succ_mul]
    split <;> omega
/-- the data of a good script's pile -/
structure PileD (F : Fld) (A : List (Str × Int)) : Prop where
  nm : Names F A
  ln : A.length ≤ 60
  bd : ∀ y ∈ A, y.2.natAbs < 10 ^ 40
theorem times_c {t : Int} (g : GoodTimes t) : t.natAbs ≤ 10 ^ 30 := by
  obtain ⟨_, a, b⟩ := g
  omega
theorem pileD {F : Fld} {l : List (Str × Int)} (hN : Names F l) (h60 : l.length ≤ 60) (hb : ∀ y ∈ l, y.2.natAbs ≤ 10 ^ 30) : PileD F (XM.act (OF F) l []).reverse := by
  refine ⟨names_rev (names_act hN (fun _ h => nomatch h)), ?_, fun y hy => ?_⟩
  · rw [List.length_reverse]
    exact Nat.le_trans act_len0 h60
  · have := act_bound (F := F) (r := []) (b := 0) hb (fun _ h => nomatch h) y (List.mem_reverse.mp hy)
    have h2 : l.length * 10 ^ 30 ≤ 60 * 10 ^ 30 := Nat.mul_le_mul_right _ h60
    exact Nat.lt_of_le_of_lt this (Nat.lt_of_le_of_lt (by omega) (show 60 * 10 ^ 30 < 10 ^ 40 by decide))
theorem PileD.szA {F : Fld} (ok : F.Ok) {A : List (Str × Int)} (h : PileD F A) : Sz (dSteps A) 540 := (sz_stepsA fun s hs => ⟨ok.sgn _ (h.nm s hs), Nat.lt_trans (h.bd s hs) (by decide)⟩).tup.mono (by have := h.ln; omega)
theorem PileD.szL {F : Fld} {A : List (Str × Int)} (h : PileD F A) : Sz (.int (lenOf A)) 0 := by
  refine sz_int (Nat.lt_of_le_of_lt (len_bound (c := 10 ^ 40) fun y hy => Nat.le_of_lt (h.bd y hy)) ?_)
  have : A.length * 10 ^ 40 ≤ 60 * 10 ^ 40 := Nat.mul_le_mul_right _ h.ln
  exact Nat.lt_of_le_of_lt this (by decide)
theorem frs_mem {F : Fld} : ∀ {l bar : List (Str × Int)} {n : Str}, n ∈ XM.frs (OF F) bar l → ∃ s ∈ l, s.1 = n
  | [], _, _, h => by cases h
  | x :: l, bar, n, h => by
    unfold XM.frs at h
    split at h
    · rcases List.mem_cons.mp h with rfl | h
      · exact ⟨x, List.mem_cons_self, rfl⟩
      · obtain ⟨s, hs, e⟩ := frs_mem h
        exact ⟨s, List.mem_cons_of_mem _ hs, e⟩
    · obtain ⟨s, hs, e⟩ := frs_mem h
      exact ⟨s, List.mem_cons_of_mem _ hs, e⟩
theorem sz_names {F : Fld} (ok : F.Ok) {A : List (Str × Int)} (hn : Names F A) (h60 : A.length ≤ 60) {zs : List Str} (h : SrtOf (XM.frs (OF F) [] A) zs) : Sz (dNames zs) 420 := by
  refine (sz_strsA fun s hs => ?_).tup.mono ?_
  · obtain ⟨x, hx, rfl⟩ := frs_mem (h.1.subset hs)
    exact ok.sgn _ (hn x hx)
  · have e := h.1.length_eq
    have := frs_len (F := F) (l := A) (bar := [])
    omega
theorem deep_dsteps (A : List (Str × Int)) : (dSteps A).depth ≤ 19 := by
  have := deep_steps A
  show PyData.depth (.tuple _) ≤ 19
  rw [PyData.depth]
  omega
theorem deep_strs : ∀ zs : List Str, PyData.depthAll (zs.map .str) ≤ 1
  | [] => by decide
  | z :: zs => by
    have := deep_strs zs
    rw [List.map_cons, PyData.depthAll]
    have e : (PyData.str z).depth = 0 := by simp [PyData.depth]
    omega
theorem deep_dnames (zs : List Str) : (dNames zs).depth ≤ 19 := by
  have := deep_strs zs
  show PyData.depth (.tuple _) ≤ 19
  rw [PyData.depth]
  omega
end XB
set_option Elab.async false
set_option linter.all false
set_option maxRecDepth 100000
set_option maxHeartbeats 8000000
namespace XB
open PySem PySem.Spec PyProof.Rows L2
section
variable {P : Program} {w : World} {K : PySem.W.Frag} {mg : Str → Option Value} {base : Heap}
theorem fg0 {x : Str} {st : Stmt} {N ps : List Str} {k : Nat} {sp : Sp} {fl : Addr} {fd : FuncData} (F : Fun K x x st fl fd) (S : FnScope N ps (defScope st)) (len : ∀ vs H Q E, sp vs H Q E → vs.length = ps.length)
    (body : ∀ (f : Addr) (cdv : Value) (A : Around) (outer : List Env) (s : Shared) (H : Hp) (vs : List V) (Q : VK) (E : XK), (A.deeper (envOfC x (defScope st) s.heap.objs.size f cdv)).guards = some [] → Room k (A.deeper (envOfC x (defScope st) s.heap.objs.size f cdv)) → sp vs H Q E →
      ∃ t, PSs (cxOf CX0 P w K mg base N x (defScope st) f cdv A outer s H E).nox (defBody st) t ∧ t { nx := fun _ H' => Q .non H', rt := Q } (start N vs) H) : FnG P w K mg base CX0 (k + 1) fl fd ps sp := by
  obtain ⟨oc, od, kV, doc, pm, an, cdv, ct, osl, rfl, lk, hcd⟩ := id F.ex
  refine fng_of lk hcd S len fun A outer s H vs Q E hg hr h => ?_
  obtain ⟨t, ht, q⟩ := body fl cdv A outer s H vs Q E hg hr h
  exact ⟨t, ht.nox, q⟩
end
section
variable {X : Cx} {k j : Nat} {x : Str} {sp : Fld → Sp} {p pos : Pos} {e : Expr} {es : List Expr} {t : TA}
/-- a def's promises for each field -/
theorem pe_gF (c : ∀ F, Cg X.prog X.w X.K X.mg X.base CX0 k x (sp F)) (hgu : X.A.guards = some []) (hr : Room j X.A) (hk : k ≤ j) (hg : Gl X x) (ha : PA X (e :: es) t)
    (hdb : (x == ("__debug__" : Str)) = false := by decide) (he : starEach (e :: es) X.env = (false, eval e X.env) :: starEach es X.env := by rfl) (hpl : (backTo pos (starEach es X.env)).any (·.1) = false := by rfl) :
    PE X (.Call (.Name x p) (e :: es) [] pos) (tCall (fun vs H Q E => ∃ F, sp F vs H Q E) [] E0 t) := by
  obtain ⟨f, _, _, _, hm, kp, _⟩ := (c ⟨[], []⟩).ex
  constructor
  intro pins s σ H Q I h
  refine wpAny_Call_Name_kw (ld_glob I hg hm ?_ hdb)
  refine PySem.W.callWith_K (h₀ := X.base) I.ok.mod.kin kp (thn (ha.run pos pins s σ H _ I h) ?_) he hpl
  rintro us s1 ⟨vs, H1, I1, r, G, q⟩
  obtain ⟨f', fd, ps, F, hm', _, b⟩ := (c G).ex
  have ef : f = f' := Value.ref.inj (Option.some.inj (hm.symm.trans hm'))
  subst ef
  have q' : sp G vs H1 Q E0 := by
    rw [List.append_nil] at q
    exact q
  have hl : us.length = ps.length := by
    rw [← r.length]
    exact F.many _ _ _ _ q'
  have bb := b s1 us I1.kIn (by rw [List.append_nil]; exact hl)
  rw [List.append_nil] at bb
  refine ⟨I1.kIn, wpAny_call (codeAny_mono (F.goes (outer := X.stack) (Q := Q) (E := E0) hgu (hr.mono hk) I1.env0 bb r q') ?_)⟩
  rintro (er | fl) s' hq
  · exact hq.elim
  · rcases fl with u | _ | _ | _ <;> first
      | exact I1.after hq
      | exact False.elim hq
end
section
variable {P : Program} {w : World} {K : PySem.W.Frag} {mg : Str → Option Value} {base : Heap}
def spLaw (K : PySem.W.Frag) : Sp := fun vs H Q _ => ∃ (a : Addr) (ns : List Int), vs = [.ref a] ∧ SqL K H a (ns.map V.int) ∧ ns.length ≤ 1000 ∧ ∀ H', Q (.bl true) H'
theorem sp_law_len {vs : List V} {H : Hp} {Q : VK} {E : XK} (h : spLaw K vs H Q E) : vs.length = ["script"].length := by
  obtain ⟨a, ns, rfl, _⟩ := h
  rfl
theorem same_t {H H1 H2 : Hp} (a : Same H H1) (b : Same H1 H2) : Same H H2 := a.trans b
theorem tS {K : PySem.W.Frag} {H H' : Hp} {v : V} {l : List (Str × Int)} (h : Dp K H v (dSteps l)) (s : Same H H') : Dp K H' v (dSteps l) := Dp.tk (Tk.of s) _ (flat_steps l) h
theorem tF {K : PySem.W.Frag} {H H' : Hp} {v : V} {F : Fld} (h : Dp K H v (dField F)) (s : Same H H') : Dp K H' v (dField F) := Dp.tk (Tk.of s) _ (flat_field F) h
theorem tN {K : PySem.W.Frag} {H H' : Hp} {v : V} {l : List Str} (h : Dp K H v (dNames l)) (s : Same H H') : Dp K H' v (dNames l) := Dp.tk (Tk.of s) _ (flat_names l) h
theorem dpN {K : PySem.W.Frag} {H : Hp} {a : Addr} {l : List Str} (h : SqT K H a (l.map V.str)) : Dp K H (.ref a) (dNames l) := .tup h (DpAll.strs l)
end
end XB
set_option Elab.async false
set_option linter.all false
set_option maxRecDepth 100000
set_option maxHeartbeats 4000000
/-! closers for readings of lists and tuples -/
namespace XB
open PySem PySem.Spec PyProof.Rows L2
theorem one_sz : 1 ≤ sizeLine := by decide
theorem two_sz : 2 ≤ sizeLine := by decide
theorem three_sz : 3 ≤ sizeLine := by decide
theorem slL {K : PySem.W.Frag} {H : Hp} {D : Addr} {ys : List V} {lo hi : Option Int} {Q : VK} (h : H D = some (.lst ys)) (q : ∀ H' p, Same H H' → H p = none → H' p = some (.lst (cutV ys lo hi)) → Q (.ref p) H') : rSlL K (.ref D) lo hi H Q :=
  ⟨D, ys, rfl, SqL.of h, fun p hp => q _ p (same_upd hp) hp upd_same⟩
theorem catL {H : Hp} {a b : Addr} {xs ys : List V} {Q : VK} (h1 : H a = some (.lst xs)) (h2 : H b = some (.lst ys)) (hl : xs.length + ys.length ≤ sizeLine) (q : ∀ H' p, Same H H' → H p = none → H' p = some (.lst (xs ++ ys)) → Q (.ref p) H') : rCat (.ref a) (.ref b) H Q :=
  ⟨a, b, xs, ys, rfl, rfl, h1, h2, hl, fun p hp => q _ p (same_upd hp) hp upd_same⟩
/-- a new object's heap as any heap that keeps what stood -/
@[elab_as_elim] theorem upd_gen {H : Hp} {p : Addr} {o : HO} {motive : Hp → Prop} (hp : H p = none) (q : ∀ H', Same H H' → H' p = some o → motive H') : motive (upd H p o) := q _ (same_upd hp) upd_same
theorem at_nil {α : Type} {x : α} {xs : List α} : atI (x :: xs) 0 = some x := atI_nat (j := 0) rfl
theorem ix0 {K : PySem.W.Frag} {σ : L2.St} {H : Hp} {b : Addr} {x : V} {xs : List V} {Q : VK} (h : SqT K H b (x :: xs)) (q : Q x H) : tC (.int 0) σ H (fun y H2 => rIxT K (.ref b) y H2 Q) := ⟨b, _, 0, x, rfl, rfl, h, at_nil, q⟩
theorem at_one {α : Type} {x y : α} {xs : List α} : atI (x :: y :: xs) 1 = some y := atI_nat (j := 1) rfl
theorem ix1 {K : PySem.W.Frag} {σ : L2.St} {H : Hp} {b : Addr} {x y : V} {xs : List V} {Q : VK} (h : SqT K H b (x :: y :: xs)) (q : Q y H) : tC (.int 1) σ H (fun z H2 => rIxT K (.ref b) z H2 Q) := ⟨b, _, 1, y, rfl, rfl, h, at_one, q⟩
theorem op_catAk {X : Cx} {K : PySem.W.Frag} (hk : X.K = K) : OpR X (binaryOp .Add) (rCatA K) := by
  subst hk
  exact op_catA
theorem catA {K : PySem.W.Frag} {H : Hp} {a b : Addr} {xs ys : List V} {Q : VK} (ha : SqT K H a xs) (hb : SqT K H b ys) (hl : xs.length + ys.length ≤ sizeLine) (q : ∀ H' p, Same H H' → SqT K H' p (xs ++ ys) → Q (.ref p) H') : rCatA K (.ref a) (.ref b) H Q :=
  ⟨a, b, xs, ys, rfl, rfl, ha, hb, hl, fun e => q H b (Same.refl _) (by rw [e]; exact hb), fun _ e => q H a (Same.refl _) (by rw [e, List.append_nil]; exact ha), fun _ _ p hp => q _ p (same_upd hp) (SqT.of upd_same)⟩
/-- an if whose else is shown once -/
theorem ifS_by {c : TT} {t u : TS} {D : Ends} {σ : L2.St} {H : Hp} (he : ∀ H', Same H H' → u D σ H') (hc : (∀ H', Same H H' → u D σ H') → c σ H (fun b H1 => if b = true then t D σ H1 else u D σ H1)) : tIfS c t u D σ H := hc he
theorem ix0L {K : PySem.W.Frag} {σ : L2.St} {H : Hp} {b : Addr} {x : V} {xs : List V} {Q : VK} (h : H b = some (.lst (x :: xs))) (q : Q x H) : tC (.int 0) σ H (fun y H2 => rIxL K (.ref b) y H2 Q) := ⟨b, _, 0, x, rfl, rfl, SqL.of h, at_nil, q⟩
theorem four_sz : 4 ≤ sizeLine := by decide
theorem by_q {t : TE} {σ : L2.St} {H : Hp} {Q : VK} (C : V → Hp → Prop) (h : ∀ Qx : VK, (∀ v H', C v H' → Qx v H') → t σ H Qx) (hq : ∀ v H', C v H' → Q v H') : t σ H Q := h Q hq
theorem Paired.get {α β : Type} {R : α → β → Prop} : ∀ {l : List α} {l' : List β} {i : Nat} {x : α}, Paired R l l' → l[i]? = some x → ∃ y, l'[i]? = some y ∧ R x y
  | _, _, _, _, .nil, e => by simp at e
  | _, _, 0, _, .cons h _, e => by
    cases e
    exact ⟨_, rfl, h⟩
  | _, _, i + 1, _, .cons _ t, e => Paired.get (i := i) t (by simpa using e)
end XB
set_option Elab.async false
set_option linter.all false
set_option maxRecDepth 100000
set_option maxHeartbeats 4000000
namespace XB
open PySem PySem.Spec PyProof.Rows L2
theorem sh_dsteps {l : List (Str × Int)} (h : ∀ s ∈ l, GoodName s.1) : SeqAt.shaped (dSteps l) = true := by
  have h2 := deep_steps l
  show (PyData.canLayAll0 (l.map dStep) && decide (PyData.depthAll (l.map dStep) + 1 ≤ 64)) = true
  rw [lay_steps h, Bool.true_and]
  exact decide_eq_true (by omega)
theorem eqv_step (s t : Str × Int) : PyData.eqv (dStep s) (dStep t) = decide (s = t) := by
  obtain ⟨a, i⟩ := s
  obtain ⟨b, j⟩ := t
  show (PyData.eqv (.str a) (.str b) && (PyData.eqv (.int i) (.int j) && true)) = _
  rw [Bool.and_true]
  show ((a == b) && (i == j)) = _
  by_cases h1 : a = b
  · by_cases h2 : i = j
    · simp [h1, h2]
    · simp [h2]
  · simp [h1]
theorem eqv_all_steps : ∀ l m : List (Str × Int), PyData.eqvAll (l.map dStep) (m.map dStep) = decide (l = m)
  | [], [] => rfl
  | [], b :: m => rfl
  | a :: l, [] => rfl
  | a :: l, b :: m => by
    rw [List.map_cons, List.map_cons, PyData.eqvAll, eqv_step, eqv_all_steps l m]
    by_cases h1 : a = b
    · by_cases h2 : l = m
      · simp [h1, h2]
      · simp [h2]
    · simp [h1]
theorem eqv_steps (l m : List (Str × Int)) : PyData.eqv (dSteps l) (dSteps m) = decide (l = m) := by
  show PyData.eqv (.tuple (l.map dStep)) (.tuple (m.map dStep)) = _
  rw [PyData.eqv]
  exact eqv_all_steps l m
theorem good_pile {F : Fld} (ok : F.Ok) {l : List (Str × Int)} (hN : Names F l) : ∀ s ∈ (XM.act (OF F) l []).reverse, GoodName s.1 := fun s hs => ok.sgn _ (names_act (r := []) hN (fun _ h => (nomatch h)) s (List.mem_reverse.mp hs))
/-- a row of a yard, and the yard -/
def GoodAll (F : Fld) (l : List (Str × Int)) : Prop := ∀ x ∈ l, x.1 ∈ F.names ∧ GoodTimes x.2
theorem GoodAll.nz {F : Fld} {l : List (Str × Int)} (h : GoodAll F l) : XM.NZ l := fun x hx => (h x hx).2.1
theorem GoodAll.names {F : Fld} {l : List (Str × Int)} (h : GoodAll F l) : Names F l := fun x hx => (h x hx).1
theorem GoodAll.app {F : Fld} {l m : List (Str × Int)} (h : GoodAll F l) (g : GoodAll F m) : GoodAll F (l ++ m) := fun x hx => (List.mem_append.mp hx).elim (h x) (g x)
theorem GoodAll.take {F : Fld} {l : List (Str × Int)} (h : GoodAll F l) (k : Nat) : GoodAll F (l.take k) := fun x hx => h x (List.mem_of_mem_take hx)
theorem GoodAll.drop {F : Fld} {l : List (Str × Int)} (h : GoodAll F l) (k : Nat) : GoodAll F (l.drop k) := fun x hx => h x (List.mem_of_mem_drop hx)
theorem GoodAll.one {F : Fld} {x : Str × Int} (h : x.1 ∈ F.names ∧ GoodTimes x.2) : GoodAll F [x] := fun y hy => by
  rw [List.mem_singleton.mp hy]
  exact h
/-- the same to every pile -/
theorem good_neg {t : Int} (h : GoodTimes t) : GoodTimes (-t) := by
  obtain ⟨a, b, c⟩ := h
  exact ⟨by omega, by omega, by omega⟩
theorem good_back {F : Fld} {l : List (Str × Int)} (h : GoodAll F l) : GoodAll F (XM.back l) := fun s hs => by
  unfold XM.back at hs
  obtain ⟨x, hx, rfl⟩ := List.mem_map.mp (List.mem_reverse.mp hs)
  exact ⟨(h x hx).1, good_neg (h x hx).2⟩
theorem len_back {l : List (Str × Int)} : (XM.back l).length = l.length := by
  unfold XM.back
  rw [List.length_reverse, List.length_map]
section
variable {K : PySem.W.Frag}
theorem slTo {H : Hp} {a : Addr} {l : List (Str × Int)} {k : Nat} {Q : VK} (h : Dp K H (.ref a) (dSteps l)) (q : ∀ H' p, Same H H' → Dp K H' (.ref p) (dSteps (l.take k)) → Q (.ref p) H') : rSlA K (.ref a) none (some (k : Int)) H Q := by
  obtain ⟨_, xs, e, hS, hV⟩ := h.steps
  cases e
  have hl := hV.len
  rw [List.length_map] at hl
  have e2 : HT.sIx xs.length xs.length (some (k : Int)) = min k xs.length := HT.sIx_nat xs.length xs.length k
  refine ⟨a, xs, rfl, hS, fun hw => ?_, fun _ p hp => ?_⟩
  · rw [e2] at hw
    have : l.take k = l := List.take_of_length_le (by omega)
    refine q _ _ (Same.refl _) ?_
    rw [this]
    exact h
  · refine q _ p (same_upd hp) (.tup (SqT.of upd_same) ?_)
    rw [cut_init, List.map_take]
    exact (DpAll.tk (Tk.of (same_upd hp)) _ (flat_all_steps l) hV).take k
theorem slFrom {H : Hp} {a : Addr} {l : List (Str × Int)} {k : Nat} {Q : VK} (h : Dp K H (.ref a) (dSteps l)) (q : ∀ H' p, Same H H' → Dp K H' (.ref p) (dSteps (l.drop k)) → Q (.ref p) H') : rSlA K (.ref a) (some (k : Int)) none H Q := by
  obtain ⟨_, xs, e, hS, hV⟩ := h.steps
  cases e
  have hl := hV.len
  rw [List.length_map] at hl
  have e2 : HT.sIx xs.length 0 (some (k : Int)) = min k xs.length := HT.sIx_nat xs.length 0 k
  refine ⟨a, xs, rfl, hS, fun hw => ?_, fun _ p hp => ?_⟩
  · rw [e2] at hw
    refine q _ _ (Same.refl _) ?_
    rcases Nat.eq_zero_or_pos k with h0 | h0
    · rw [h0, List.drop_zero]
      exact h
    · have : l = [] := List.length_eq_zero_iff.mp (by omega)
      rw [this] at h ⊢
      rw [List.drop_nil]
      exact h
  · refine q _ p (same_upd hp) (.tup (SqT.of upd_same) ?_)
    rw [cut_from, List.map_drop]
    exact (DpAll.tk (Tk.of (same_upd hp)) _ (flat_all_steps l) hV).drop k
theorem catD {H : Hp} {a b : Addr} {l m : List (Str × Int)} {Q : VK} (h1 : Dp K H (.ref a) (dSteps l)) (h2 : Dp K H (.ref b) (dSteps m)) (hl : l.length + m.length ≤ 500) (q : ∀ H' p, Same H H' → Dp K H' (.ref p) (dSteps (l ++ m)) → Q (.ref p) H') : rCatA K (.ref a) (.ref b) H Q := by
  obtain ⟨_, xs, e, hS, hV⟩ := h1.steps
  cases e
  obtain ⟨_, ys, e, hS2, hV2⟩ := h2.steps
  cases e
  have l1 := hV.len
  have l2 := hV2.len
  rw [List.length_map] at l1 l2
  refine catA hS hS2 (Nat.le_of_lt (small1000 (by omega))) fun H' p s h => q H' p s (.tup h ?_)
  rw [List.map_append]
  exact (DpAll.tk (Tk.of s) _ (flat_all_steps l) hV).app (DpAll.tk (Tk.of s) _ (flat_all_steps m) hV2)
end
end XB
set_option linter.all false
/-! cores: weights of rows, powers of rows, round piles that are turns of one another -/
namespace XM
section
variable {α : Type} [DecidableEq α] {O : Ord α}
/-- a weight of pieces, and which pairs of pieces may come together so that it adds -/
structure Wt (α : Type) where
  w : α → Int → Nat
  g : α → Int → Int → Prop
  nz : ∀ a s t, g a s t → s + t ≠ 0
  add : ∀ a s t, g a s t → w a (s + t) = w a s + w a t
  left : ∀ a s t r, g a s t → g a t r → g a (s + t) r
  right : ∀ a s t r, g a s t → g a r s → g a r (s + t)
  le : ∀ a s t, w a (s + t) ≤ w a s + w a t
variable {W : Wt α}
def Wt.sum (W : Wt α) : Row α → Nat
  | [] => 0
  | y :: r => W.w y.1 y.2 + W.sum r
theorem Wt.sum_app {l m : Row α} : W.sum (l ++ m) = W.sum l + W.sum m := by
  induction l with
  | nil => simp [Wt.sum]
  | cons x l ih =>
    rw [List.cons_append, Wt.sum, Wt.sum, ih]
    omega
theorem Wt.sum_rev {l : Row α} : W.sum l.reverse = W.sum l := by
  induction l with
  | nil => rfl
  | cons x l ih =>
    rw [List.reverse_cons, Wt.sum_app, ih, Wt.sum, Wt.sum, Wt.sum]
    omega
theorem Wt.sum_ins {x : α × Int} : ∀ {r : Row α}, W.sum (ins O x r) ≤ W.w x.1 x.2 + W.sum r
  | [] => Nat.le_refl _
  | y :: r => by
    have ih := Wt.sum_ins (x := x) (r := r)
    have hl := W.le x.1 y.2 x.2
    unfold ins
    split
    · rename_i e
      split
      · simp only [Wt.sum]
        omega
      · simp only [Wt.sum]
        rw [e]
        omega
    · split
      · exact Nat.le_refl _
      · split
        · exact Nat.le_refl _
        · simp only [Wt.sum]
          omega
theorem Wt.sum_act : ∀ {l r : Row α}, W.sum (act O l r) ≤ W.sum l + W.sum r
  | [], r => by simp [act, Wt.sum]
  | x :: l, r => by
    have h1 := Wt.sum_act (l := l) (r := ins O x r)
    have h2 := Wt.sum_ins (W := W) (O := O) (x := x) (r := r)
    rw [act_cons]
    simp only [Wt.sum]
    omega
theorem Wt.ins_eq {x : α × Int} : ∀ {r : Row α}, (ins O x r).length = r.length + 1 → W.sum (ins O x r) = W.w x.1 x.2 + W.sum r
  | [], _ => rfl
  | y :: r, h => by
    unfold ins at h ⊢
    by_cases e : y.1 = x.1
    · rw [if_pos e] at h
      by_cases h0 : y.2 + x.2 = 0
      · rw [if_pos h0] at h
        simp only [List.length_cons] at h
        omega
      · rw [if_neg h0] at h
        simp only [List.length_cons] at h
        omega
    · rw [if_neg e] at h ⊢
      by_cases ht : O.tc y.1 x.1 = true
      · rw [if_pos ht] at h ⊢
        rfl
      · rw [if_neg ht] at h ⊢
        by_cases hc : (O.lt y.1 x.1 && top O x.1 r) = true
        · rw [if_pos hc]
          rfl
        · rw [if_neg hc] at h ⊢
          have ih := Wt.ins_eq (x := x) (r := r) (by simpa using h)
          simp only [Wt.sum]
          omega
theorem Wt.act_eq : ∀ {l r : Row α}, (act O l r).length = l.length + r.length → W.sum (act O l r) = W.sum l + W.sum r
  | [], r, _ => by simp [act, Wt.sum]
  | x :: l, r, h => by
    have h1 := act_len (O := O) (l := l) (r := ins O x r)
    have h2 := ins_len (O := O) (x := x) (r := r)
    rw [act_cons] at h ⊢
    simp only [List.length_cons] at h
    have i1 := Wt.act_eq (l := l) (r := ins O x r) (by omega)
    have i2 := Wt.ins_eq (W := W) (O := O) (x := x) (r := r) (by omega)
    simp only [Wt.sum]
    omega
/-- the times of the piece of a name that is met from the left -/
def nearS (O : Ord α) (a : α) : Row α → Option Int
  | [] => none
  | y :: r => if y.1 = a then some y.2 else if O.tc y.1 a then none else nearS O a r
theorem nearS_none {a : α} : ∀ {r : Row α}, nearS O a r = none ↔ near O a r = none
  | [] => ⟨fun _ => rfl, fun _ => rfl⟩
  | y :: r => by
    unfold nearS near
    split
    · simp
    · split
      · simp
      · rw [Option.map_eq_none_iff]
        exact nearS_none
theorem nearS_apart {a : α} : ∀ {m v : Row α}, (∀ y ∈ m, O.tc y.1 a = false) → nearS O a (m ++ v) = nearS O a v
  | [], _, _ => rfl
  | y :: m, v, h => by
    have hy := h y List.mem_cons_self
    rw [List.cons_append, nearS, if_neg (ne_of_apart hy), if_neg (by rw [hy]; decide)]
    exact nearS_apart fun z hz => h z (List.mem_cons_of_mem _ hz)
/-- something is met on the way -/
theorem nearS_hit {a : α} : ∀ {m v : Row α}, (∃ y ∈ m, O.tc y.1 a = true) → nearS O a (m ++ v) = nearS O a m
  | [], _, h => by
    obtain ⟨y, hy, _⟩ := h
    cases hy
  | y :: m, v, h => by
    rw [List.cons_append, nearS, nearS]
    by_cases e : y.1 = a
    · rw [if_pos e, if_pos e]
    · rw [if_neg e, if_neg e]
      by_cases ht : O.tc y.1 a = true
      · rw [if_pos ht, if_pos ht]
      · rw [if_neg ht, if_neg ht]
        obtain ⟨z, hz, hh⟩ := h
        rcases List.mem_cons.mp hz with q | hz
        · rw [q] at hh
          exact absurd hh ht
        · exact nearS_hit ⟨z, hz, hh⟩
/-- pairs that can come together are let -/
def NC (O : Ord α) (W : Wt α) : Row α → Prop
  | [] => True
  | x :: l => (∀ t, nearS O x.1 l = some t → W.g x.1 x.2 t) ∧ NC O W l
theorem nc_pl : ∀ {l : Row α}, pl O l = true → NC O W l
  | [], _ => True.intro
  | x :: l, h => by
    unfold pl at h
    rw [Bool.and_eq_true] at h
    refine ⟨fun t e => ?_, nc_pl h.2⟩
    have : nearS O x.1 l = none := nearS_none.mpr (Option.isNone_iff_eq_none.mp h.1)
    rw [this] at e
    cases e
theorem near_join {a b : α} {s t : Int} {m v : Row α} (hm : ∀ y ∈ m, O.tc y.1 a = false) (hb : b ≠ a) : ∀ {u : Row α}, nearS O b (u ++ (a, s + t) :: (m ++ v)) = nearS O b (u ++ (a, s) :: (m ++ (a, t) :: v))
  | [] => by
    have hb' : ¬ a = b := fun e => hb e.symm
    show (if a = b then some (s + t) else if O.tc a b = true then none else nearS O b (m ++ v)) = (if a = b then some s else if O.tc a b = true then none else nearS O b (m ++ (a, t) :: v))
    rw [if_neg hb', if_neg hb']
    by_cases ht : O.tc a b = true
    · rw [if_pos ht, if_pos ht]
    · rw [if_neg ht, if_neg ht]
      by_cases hh : ∃ y ∈ m, O.tc y.1 b = true
      · rw [nearS_hit hh, nearS_hit hh]
      · have hn : ∀ y ∈ m, O.tc y.1 b = false := fun y hy => by
          cases e : O.tc y.1 b
          · rfl
          · exact absurd ⟨y, hy, e⟩ hh
        rw [nearS_apart hn, nearS_apart hn]
        show _ = (if a = b then some t else if O.tc a b = true then none else nearS O b v)
        rw [if_neg hb', if_neg ht]
  | y :: u => by
    rw [List.cons_append, List.cons_append, nearS, nearS, near_join hm hb]
theorem near_joinA {a : α} {s t : Int} {m v : Row α} : ∀ {u : Row α}, (nearS O a (u ++ (a, s) :: (m ++ (a, t) :: v)) = some s ∧ nearS O a (u ++ (a, s + t) :: (m ++ v)) = some (s + t)) ∨ nearS O a (u ++ (a, s) :: (m ++ (a, t) :: v)) = nearS O a (u ++ (a, s + t) :: (m ++ v))
  | [] => .inl ⟨by rw [List.nil_append, nearS, if_pos rfl], by rw [List.nil_append, nearS, if_pos rfl]⟩
  | y :: u => by
    rw [List.cons_append, List.cons_append, nearS, nearS]
    by_cases e : y.1 = a
    · rw [if_pos e, if_pos e]
      exact .inr rfl
    · rw [if_neg e, if_neg e]
      by_cases ht : O.tc y.1 a = true
      · rw [if_pos ht, if_pos ht]
        exact .inr rfl
      · rw [if_neg ht, if_neg ht]
        exact near_joinA
theorem nc_join0 {a : α} {t : Int} {v : Row α} : ∀ {m : Row α}, (∀ y ∈ m, O.tc y.1 a = false) → NC O W (m ++ (a, t) :: v) → NC O W (m ++ v) ∧ ∀ r, nearS O a v = some r → W.g a t r
  | [], _, h => ⟨h.2, h.1⟩
  | y :: m, hm, h => by
    have hy := hm y List.mem_cons_self
    have ih := nc_join0 (fun z hz => hm z (List.mem_cons_of_mem _ hz)) h.2
    refine ⟨⟨fun r e => h.1 r ?_, ih.1⟩, ih.2⟩
    rw [← e]
    show nearS O y.1 (m ++ (a, t) :: v) = nearS O y.1 (m ++ v)
    by_cases hh : ∃ z ∈ m, O.tc z.1 y.1 = true
    · rw [nearS_hit hh, nearS_hit hh]
    · have hn : ∀ z ∈ m, O.tc z.1 y.1 = false := fun z hz => by
        cases q : O.tc z.1 y.1
        · rfl
        · exact absurd ⟨z, hz, q⟩ hh
      have : O.tc a y.1 = false := apart_symm hy
      rw [nearS_apart hn, nearS_apart hn, nearS, if_neg (ne_of_apart this), if_neg (by rw [this]; decide)]
theorem nc_join {a : α} {s t : Int} {m v : Row α} (hm : ∀ y ∈ m, O.tc y.1 a = false) : ∀ {u : Row α}, NC O W (u ++ (a, s) :: (m ++ (a, t) :: v)) → NC O W (u ++ (a, s + t) :: (m ++ v)) ∧ W.g a s t
  | [], h => by
    have hst : W.g a s t := h.1 t (by
      show nearS O a (m ++ (a, t) :: v) = some t
      rw [nearS_apart hm, nearS, if_pos rfl])
    obtain ⟨h1, h2⟩ := nc_join0 hm h.2
    refine ⟨⟨fun r e => W.left a s t r hst (h2 r ?_), h1⟩, hst⟩
    have e : nearS O a (m ++ v) = some r := e
    rwa [nearS_apart hm] at e
  | y :: u, h => by
    obtain ⟨h1, h2⟩ := nc_join hm h.2
    refine ⟨⟨fun r e => ?_, h1⟩, h2⟩
    have e : nearS O y.1 (u ++ (a, s + t) :: (m ++ v)) = some r := e
    have h0 : ∀ r, nearS O y.1 (u ++ (a, s) :: (m ++ (a, t) :: v)) = some r → W.g y.1 y.2 r := h.1
    by_cases hb : y.1 = a
    · rw [hb] at e h0 ⊢
      rcases near_joinA (O := O) (a := a) (s := s) (t := t) (m := m) (v := v) (u := u) with ⟨q1, q2⟩ | q
      · rw [q2] at e
        cases e
        exact W.right a s t y.2 h2 (h0 s q1)
      · exact h0 r (q.trans e)
    · rw [near_join hm hb] at e
      exact h0 r e
/-- where all that comes together is let, the weight stays -/
theorem Wt.sum_nc : ∀ (n : Nat) (l : Row α), l.length = n → NZ l → NC O W l → W.sum (act O l []) = W.sum l := by
  intro n
  induction n using Nat.strongRecOn with
  | _ n ih =>
    intro l hl hz hn
    cases hm : met O l with
    | none =>
      have e := (pile_iff hz).mpr hm
      have := Wt.act_eq (W := W) (O := O) (l := l) (r := []) (by rw [e]; simp)
      simpa [Wt.sum] using this
    | some ij =>
      obtain ⟨u, a, s, m, t, v, rfl, _, _, h5⟩ := met_some hm
      have hs : s ≠ 0 := hz (a, s) (by simp)
      have ht : t ≠ 0 := hz (a, t) (by simp)
      obtain ⟨g1, g2⟩ := nc_join h5 hn
      have n0 := W.nz a s t g2
      rw [act_meet h5 hs ht hz.left (fun w hw => hz w (by simp [hw])) (show NF O [] from True.intro), if_neg n0]
      have z2 : NZ (u ++ (a, s + t) :: (m ++ v)) := fun x hx => by
        rcases List.mem_append.mp hx with h | h
        · exact hz x (by simp [h])
        · rcases List.mem_cons.mp h with h | h
          · rw [h]
            exact n0
          · rcases List.mem_append.mp h with h | h <;> exact hz x (by simp [h])
      rw [show u ++ ([(a, s + t)] ++ (m ++ v)) = u ++ (a, s + t) :: (m ++ v) from rfl, ih _ (by rw [← hl]; simp) _ rfl z2 g1]
      simp only [Wt.sum_app, Wt.sum]
      rw [W.add a s t g2]
      omega
/-! ### rows so many times -/
def rep (n : Nat) (l : Row α) : Row α := (List.replicate n l).flatten
theorem rep_zero {l : Row α} : rep 0 l = [] := rfl
theorem rep_succ {n : Nat} {l : Row α} : rep (n + 1) l = l ++ rep n l := by
  unfold rep
  rw [List.replicate_succ, List.flatten_cons]
theorem nz_rep {l : Row α} (h : NZ l) : ∀ n : Nat, NZ (rep n l)
  | 0 => fun _ hx => nomatch hx
  | n + 1 => by
    rw [rep_succ]
    exact h.app (nz_rep h n)
theorem Wt.sum_rep {l : Row α} : ∀ n : Nat, W.sum (rep n l) = n * W.sum l
  | 0 => by simp [rep, Wt.sum]
  | n + 1 => by
    rw [rep_succ, Wt.sum_app, Wt.sum_rep n, Nat.succ_mul, Nat.add_comm]
/-- rows that are alike stay so, so many times -/
theorem act_same {l m q : Row α} (zl : NZ l) (zm : NZ m) (h : act O l [] = act O m []) (hq : NF O q) : act O l q = act O m q := by
  rw [← act_self zl hq, h, act_self zm hq]
theorem act_rep {l m : Row α} (zl : NZ l) (zm : NZ m) (h : act O l [] = act O m []) : ∀ (n : Nat) {q : Row α}, NF O q → act O (rep n l) q = act O (rep n m) q
  | 0, q, _ => rfl
  | n + 1, q, hq => by
    rw [rep_succ, rep_succ, act_app, act_app, act_same zl zm h hq]
    exact act_rep zl zm h n (nf_act zm hq)
theorem act_conj {x u : Row α} (zx : NZ x) (zu : NZ u) : ∀ (n : Nat) {q : Row α}, NF O q → act O (rep n (x ++ (u ++ back x))) q = act O (x ++ (rep n u ++ back x)) q
  | 0, q, hq => by
    rw [rep_zero, rep_zero, act_nil, List.nil_append, act_app, act_back zx hq]
  | n + 1, q, hq => by
    have hc : NZ (x ++ (u ++ back x)) := zx.app (zu.app (back_nz zx))
    rw [rep_succ, act_app, act_conj zx zu n (nf_act hc hq), rep_succ]
    simp only [act_app]
    have h1 := nf_act zu (nf_act zx hq)
    have := act_back (O := O) (l := back x) (back_nz zx) h1
    rw [back_back] at this
    rw [this]
theorem Wt.sum_back {l : Row α} (hw : ∀ a t, W.w a (-t) = W.w a t) : W.sum (back l) = W.sum l := by
  unfold back
  rw [Wt.sum_rev]
  induction l with
  | nil => rfl
  | cons x l ih =>
    rw [List.map_cons, Wt.sum, Wt.sum, ih, hw]
/-- if all powers of a row keep its weight, a row that it is a turn of has no less -/
theorem weight_le {u v x y : Row α} (hw : ∀ a t, W.w a (-t) = W.w a t) (zx : NZ x) (zy : NZ y) (zu : NZ u) (zv : NZ v) (hp : ∀ n, W.sum (act O (rep n u) []) = n * W.sum u)
    (h : act O (x ++ (u ++ back x)) [] = act O (y ++ (v ++ back y)) []) : W.sum u ≤ W.sum v := by
  have n0 : NF O ([] : Row α) := True.intro
  have key : ∀ n, n * W.sum u ≤ n * W.sum v + (2 * W.sum x + 2 * W.sum y) := by
    intro n
    have e := act_rep (O := O) (zx.app (zu.app (back_nz zx))) (zy.app (zv.app (back_nz zy))) h n n0
    rw [act_conj zx zu n n0, act_conj zy zv n n0] at e
    have zr := nz_rep zu n
    -- the power of u, by what stands around it taken back
    have e2 : act O (rep n u) [] = act O (back x ++ ((act O (x ++ (rep n u ++ back x)) []).reverse ++ x)) [] := by
      have zc : NZ (x ++ (rep n u ++ back x)) := zx.app (zr.app (back_nz zx))
      have hb := nf_act (O := O) (back_nz zx) n0
      rw [act_app, act_app, act_self zc hb, act_app, act_app]
      have i1 := act_back (O := O) (l := back x) (r := []) (back_nz zx) n0
      rw [back_back] at i1
      rw [i1]
      have i2 := act_back (O := O) (l := back x) (r := act O (rep n u) []) (back_nz zx) (nf_act zr n0)
      rw [back_back] at i2
      exact i2.symm
    have b1 := hp n
    rw [e2, e] at b1
    have b2 := Wt.sum_act (W := W) (O := O) (l := back x ++ ((act O (y ++ (rep n v ++ back y)) []).reverse ++ x)) (r := [])
    have b3 := Wt.sum_act (W := W) (O := O) (l := y ++ (rep n v ++ back y)) (r := [])
    simp only [Wt.sum_app, Wt.sum_rev, Wt.sum_back hw, Wt.sum_rep, Wt.sum] at b2 b3
    omega
  rcases Nat.lt_or_ge (W.sum v) (W.sum u) with hl | hl
  · exfalso
    have k := key (2 * W.sum x + 2 * W.sum y + 1)
    have : (2 * W.sum x + 2 * W.sum y + 1) * (W.sum v + 1) ≤ (2 * W.sum x + 2 * W.sum y + 1) * W.sum u := Nat.mul_le_mul_left _ hl
    rw [Nat.mul_add, Nat.mul_one] at this
    omega
  · exact hl
/-! ### round piles -/
/-- no name has two pieces, one of which can stand first, and the other one last -/
structure Rnd (O : Ord α) (u : Row α) : Prop where
  pl : pl O u = true
  one : ∀ p x l, u = p ++ x :: l → (∀ w ∈ l, O.tc w.1 x.1 = false) → (nearS O x.1 u).isSome = true → ∀ w ∈ p, O.tc w.1 x.1 = false
theorem nc_rep {u : Row α} (hp : pl O u = true) (hR : ∀ p x l, u = p ++ x :: l → (∀ w ∈ l, O.tc w.1 x.1 = false) → ∀ t, nearS O x.1 u = some t → W.g x.1 x.2 t) : ∀ n : Nat, NC O W (rep n u)
  | 0 => True.intro
  | n + 1 => by
    have ih := nc_rep hp hR n
    rw [rep_succ]
    have suf : ∀ (l p : Row α), u = p ++ l → NC O W (l ++ rep n u) := by
      intro l
      induction l with
      | nil => exact fun p _ => ih
      | cons x l il =>
        intro p e
        refine ⟨fun t ht => ?_, il (p ++ [x]) (by rw [e]; simp)⟩
        have ht : nearS O x.1 (l ++ rep n u) = some t := ht
        by_cases hh : ∃ y ∈ l, O.tc y.1 x.1 = true
        · rw [nearS_hit hh] at ht
          have h2 : pl O (x :: l) = true := pl_right (u := p) (by rw [← e]; exact hp)
          unfold XM.pl at h2
          rw [Bool.and_eq_true] at h2
          have := nearS_none.mpr (Option.isNone_iff_eq_none.mp h2.1)
          rw [this] at ht
          cases ht
        · have hn : ∀ y ∈ l, O.tc y.1 x.1 = false := fun y hy => by
            cases q : O.tc y.1 x.1
            · rfl
            · exact absurd ⟨y, hy, q⟩ hh
          rw [nearS_apart hn] at ht
          cases n with
          | zero => cases ht
          | succ n =>
            rw [rep_succ, nearS_hit ⟨x, by rw [e]; simp, O.refl _⟩] at ht
            exact hR p x l e hn t ht
    exact suf u [] rfl
theorem sum_pow {u : Row α} (hz : NZ u) (hp : pl O u = true) (hR : ∀ p x l, u = p ++ x :: l → (∀ w ∈ l, O.tc w.1 x.1 = false) → ∀ t, nearS O x.1 u = some t → W.g x.1 x.2 t) (n : Nat) : W.sum (act O (rep n u) []) = n * W.sum u := by
  rw [Wt.sum_nc _ _ rfl (nz_rep hz n) (nc_rep hp hR n), Wt.sum_rep]
theorem rnd_same {u p l : Row α} {x : α × Int} {t : Int} (h : Rnd O u) (e : u = p ++ x :: l) (hl : ∀ w ∈ l, O.tc w.1 x.1 = false) (ht : nearS O x.1 u = some t) : t = x.2 ∧ ∀ w ∈ p, O.tc w.1 x.1 = false := by
  have hp := h.one p x l e hl (by rw [ht]; rfl)
  refine ⟨?_, hp⟩
  rw [e, nearS_apart hp, nearS, if_pos rfl] at ht
  exact (Option.some.inj ht).symm
theorem sq_pos {t : Int} (h : t ≠ 0) : 0 < t * t := by
  rcases Int.lt_or_gt_of_ne h with h | h
  · exact Int.mul_pos_of_neg_of_neg h h
  · exact Int.mul_pos h h
/-- of one sign -/
def Sg (s t : Int) : Prop := (0 < s ∧ 0 < t) ∨ (s < 0 ∧ t < 0)
/-- how many deeds of the names that are asked for there are -/
def WL (P : α → Bool) : Wt α where
  w := fun a t => if P a = true then t.natAbs else 0
  g := fun _ s t => Sg s t
  nz := fun _ s t h => by rcases h with h | h <;> omega
  add := fun a s t h => by
    split
    · rcases h with h | h <;> omega
    · rfl
  left := fun _ s t r h k => by
    rcases h with h | h <;> rcases k with k | k <;> first | (exact .inl ⟨by omega, by omega⟩) | (exact .inr ⟨by omega, by omega⟩) | (exfalso; omega)
  right := fun _ s t r h k => by
    rcases h with h | h <;> rcases k with k | k <;> first | (exact .inl ⟨by omega, by omega⟩) | (exact .inr ⟨by omega, by omega⟩) | (exfalso; omega)
  le := fun a s t => by split <;> omega
/-- how many pieces of a name there are -/
def WP (b : α) : Wt α where
  w := fun a _ => if a = b then 1 else 0
  g := fun a s t => Sg s t ∧ a ≠ b
  nz := fun _ s t h => by rcases h.1 with h | h <;> omega
  add := fun a s t h => by rw [if_neg h.2]
  left := fun _ s t r h k => ⟨by
    obtain ⟨h, _⟩ := h
    obtain ⟨k, _⟩ := k
    rcases h with h | h <;> rcases k with k | k <;> first | (exact .inl ⟨by omega, by omega⟩) | (exact .inr ⟨by omega, by omega⟩) | (exfalso; omega), h.2⟩
  right := fun _ s t r h k => ⟨by
    obtain ⟨h, _⟩ := h
    obtain ⟨k, _⟩ := k
    rcases h with h | h <;> rcases k with k | k <;> first | (exact .inl ⟨by omega, by omega⟩) | (exact .inr ⟨by omega, by omega⟩) | (exfalso; omega), h.2⟩
  le := fun a s t => by split <;> omega
/-- two rows that are turns of one another, steps ahead of each -/
def Turn (O : Ord α) (u v : Row α) : Prop := ∃ x y, NZ x ∧ NZ y ∧ act O (x ++ (u ++ back x)) [] = act O (y ++ (v ++ back y)) []
theorem Turn.symm {u v : Row α} (h : Turn O u v) : Turn O v u := by
  obtain ⟨x, y, zx, zy, e⟩ := h
  exact ⟨y, x, zy, zx, e.symm⟩
theorem turn_len {u v : Row α} (P : α → Bool) (hu : Rnd O u) (zu : NZ u) (zv : NZ v) (h : Turn O u v) : (WL P).sum u ≤ (WL P).sum v := by
  obtain ⟨x, y, zx, zy, e⟩ := h
  refine weight_le (fun a t => ?_) zx zy zu zv (sum_pow zu hu.pl fun p x l e hl t ht => ?_) e
  · show (if P a = true then (-t).natAbs else 0) = (if P a = true then t.natAbs else 0)
    rw [Int.natAbs_neg]
  · obtain ⟨e1, _⟩ := rnd_same hu e hl ht
    have : x.2 ≠ 0 := zu x (by rw [e]; simp)
    show Sg x.2 t
    rw [e1]
    rcases Int.lt_or_gt_of_ne this with q | q
    · exact .inr ⟨q, q⟩
    · exact .inl ⟨q, q⟩
theorem wp_none {b : α} : ∀ {l : Row α}, (∀ w ∈ l, O.tc w.1 b = false) → (WP b).sum l = 0
  | [], _ => rfl
  | y :: l, h => by
    have hy := ne_of_apart (h y List.mem_cons_self)
    show (if y.1 = b then 1 else 0) + (WP b).sum l = 0
    rw [if_neg hy, wp_none fun w hw => h w (List.mem_cons_of_mem _ hw)]
theorem turn_pc {u v : Row α} (b : α) (hu : Rnd O u) (zu : NZ u) (zv : NZ v) (h : Turn O u v) : (WP b).sum u ≤ (WP b).sum v := by
  by_cases h2 : 2 ≤ (WP b).sum u
  · obtain ⟨x, y, zx, zy, e⟩ := h
    refine weight_le (fun a t => rfl) zx zy zu zv (sum_pow zu hu.pl fun p x l e hl t ht => ?_) e
    obtain ⟨e1, hp⟩ := rnd_same hu e hl ht
    have hx : x.2 ≠ 0 := zu x (by rw [e]; simp)
    refine ⟨?_, fun eb => ?_⟩
    · rw [e1]
      rcases Int.lt_or_gt_of_ne hx with q | q
      · exact .inr ⟨q, q⟩
      · exact .inl ⟨q, q⟩
    · rw [eb] at hp hl
      rw [e, Wt.sum_app, wp_none hp] at h2
      have : (WP b).sum (x :: l) = 1 := by
        show (if x.1 = b then 1 else 0) + (WP b).sum l = 1
        rw [if_pos eb, wp_none hl]
      omega
  · by_cases h0 : (WP b).sum u = 0
    · omega
    · -- one piece: there is one over there, too
      have hl := turn_len (fun a => decide (a = b)) hu zu zv h
      have pos : ∀ {l : Row α}, NZ l → ((WP b).sum l = 0 ↔ (WL fun a => decide (a = b)).sum l = 0) := by
        intro l
        induction l with
        | nil => exact fun _ => ⟨fun _ => rfl, fun _ => rfl⟩
        | cons y l ih =>
          intro hz
          have i := ih fun w hw => hz w (List.mem_cons_of_mem _ hw)
          have hy := hz y List.mem_cons_self
          show (if y.1 = b then 1 else 0) + (WP b).sum l = 0 ↔ (if decide (y.1 = b) = true then y.2.natAbs else 0) + (WL fun a => decide (a = b)).sum l = 0
          by_cases e : y.1 = b
          · rw [if_pos e, if_pos (decide_eq_true e)]
            constructor <;> intro q <;> omega
          · rw [if_neg e, if_neg (by simpa using e)]
            rw [Nat.zero_add, Nat.zero_add]
            exact i
      have k1 : (WL fun a => decide (a = b)).sum u ≠ 0 := fun q => h0 ((pos zu).mpr q)
      have k2 : (WP b).sum v ≠ 0 := fun q => by
        have := (pos zv).mp q
        omega
      omega
theorem wp_count {b : α} : ∀ {l : Row α}, (WP b).sum l = (l.map (·.1)).count b
  | [] => rfl
  | y :: l => by
    show (if y.1 = b then 1 else 0) + (WP b).sum l = _
    rw [wp_count, List.map_cons, List.count_cons]
    by_cases e : y.1 = b
    · rw [if_pos e, if_pos (by simpa using e), Nat.add_comm]
    · rw [if_neg e, if_neg (by simpa using e), Nat.zero_add, Nat.add_zero]
/-- round piles that are turns of one another have as many pieces, of the same names, and the same length -/
theorem turn_same {u v : Row α} (hu : Rnd O u) (hv : Rnd O v) (zu : NZ u) (zv : NZ v) (h : Turn O u v) : u.length = v.length ∧ ((u.map (·.1)).Perm (v.map (·.1))) ∧ (WL fun _ => true).sum u = (WL fun _ => true).sum v := by
  have pm : (u.map (·.1)).Perm (v.map (·.1)) := List.perm_iff_count.mpr fun b => by
    have h1 := turn_pc b hu zu zv h
    have h2 := turn_pc b hv zv zu h.symm
    rw [wp_count, wp_count] at h1 h2
    omega
  have l1 := pm.length_eq
  rw [List.length_map, List.length_map] at l1
  exact ⟨l1, pm, Nat.le_antisymm (turn_len _ hu zu zv h) (turn_len _ hv zv zu h.symm)⟩
end
end XM
set_option linter.all false
/-! distances of rows: the length of what leads from one to another -/
namespace XM
section
variable {α : Type} [DecidableEq α] {O : Ord α}
/-- the length of a row -/
def ln (l : Row α) : Nat := (WL fun _ => true).sum l
theorem ln_app (l m : Row α) : ln (l ++ m) = ln l + ln m := Wt.sum_app
theorem ln_rev (l : Row α) : ln l.reverse = ln l := Wt.sum_rev
theorem ln_back (l : Row α) : ln (back l) = ln l := Wt.sum_back fun a t => by
  show (if (true : Bool) = true then (-t).natAbs else 0) = if (true : Bool) = true then t.natAbs else 0
  rw [Int.natAbs_neg]
theorem ln_act {l : Row α} : ln (act O l []) ≤ ln l := by
  have := Wt.sum_act (O := O) (W := WL fun _ => true) (l := l) (r := [])
  exact this
theorem ln_pile {l : Row α} (hz : NZ l) (h : pl O l = true) : ln (act O l []) = ln l := by
  have e := (pile_iff hz).mpr (met_pl.mpr h)
  have := Wt.act_eq (O := O) (W := WL fun _ => true) (l := l) (r := []) (by rw [e]; rfl)
  exact this
theorem ln_zero {l : Row α} (hz : NZ l) : ln l = 0 ↔ l = [] := by
  cases l with
  | nil => exact ⟨fun _ => rfl, fun _ => rfl⟩
  | cons x r =>
    refine ⟨fun h => ?_, fun h => nomatch h⟩
    have hx := hz x List.mem_cons_self
    have : ln (x :: r) = x.2.natAbs + ln r := rfl
    omega
theorem back_app (l m : Row α) : back (l ++ m) = back m ++ back l := by
  unfold back
  rw [List.map_append, List.reverse_append]
theorem pl_back {l : Row α} (h : pl O l = true) : pl O (back l) = true := by
  unfold back
  exact pl_rev (by rw [pl_map (g := fun x => (x.1, -x.2)) fun _ => rfl]; exact h)
/-- what takes a row back is as long -/
theorem ln_act_back {l : Row α} (hz : NZ l) : ln (act O (back l) []) = ln (act O l []) := by
  have n0 : NF O ([] : Row α) := True.intro
  have hn := nf_act (O := O) hz n0
  have hw : NZ (act O l []).reverse := fun x hx => nf_nz hn x (List.mem_reverse.mp hx)
  have e : act O (act O l []).reverse [] = act O l [] := act_self hz n0
  rw [act_back_eq hz hw e.symm n0, ln_pile (back_nz hw) (pl_back (pl_nf hn)), ln_back, ln_rev]
/-- how far one row is from another -/
def far (O : Ord α) (l m : Row α) : Nat := ln (act O (back l ++ m) [])
theorem far_symm {l m : Row α} (zl : NZ l) (zm : NZ m) : far O l m = far O m l := by
  unfold far
  rw [← ln_act_back ((back_nz zl).app zm), back_app, back_back]
theorem act_bk {l q : Row α} (zl : NZ l) (hq : NF O q) : act O l (act O (back l) q) = q := by
  have := act_back (O := O) (r := q) (back_nz zl) hq
  rwa [back_back] at this
theorem far_tri {l m n : Row α} (zl : NZ l) (zm : NZ m) (zn : NZ n) : far O l n ≤ far O l m + far O m n := by
  have n0 : NF O ([] : Row α) := True.intro
  have z1 := (back_nz zl).app zm
  have z2 := (back_nz zm).app zn
  have f1 := nf_act (O := O) z1 n0
  have e : act O ((act O (back l ++ m) []).reverse ++ (act O (back m ++ n) []).reverse) [] = act O (back l ++ n) [] := by
    rw [act_app, act_self z1 n0, act_self z2 f1]
    rw [act_app, act_app, act_app, act_back zm (nf_act (back_nz zl) n0)]
  unfold far
  rw [← e]
  refine Nat.le_trans ln_act ?_
  rw [ln_app, ln_rev, ln_rev]
  exact Nat.le_refl _
theorem far_zero {l m : Row α} (zl : NZ l) (zm : NZ m) : far O l m = 0 ↔ act O l [] = act O m [] := by
  have n0 : NF O ([] : Row α) := True.intro
  have z1 := (back_nz zl).app zm
  have f1 := nf_act (O := O) z1 n0
  unfold far
  rw [ln_zero (nf_nz f1)]
  have fq := nf_act (O := O) (back_nz zl) n0
  constructor
  · intro h
    rw [act_app] at h
    have h1 : act O (back m) [] = act O (back l) [] := by
      have := act_back (O := O) (r := act O (back l) []) zm fq
      rw [h] at this
      exact this
    have := act_back_eq (back_nz zl) (back_nz zm) h1.symm n0
    rwa [back_back, back_back] at this
  · intro h
    rw [act_app, ← act_same zl zm h fq]
    exact act_bk zl n0
theorem far_self {l : Row α} (zl : NZ l) : far O l l = 0 := (far_zero zl zl).mpr rfl
/-- the same ahead of both -/
theorem far_ahead {x l m : Row α} (zx : NZ x) (zl : NZ l) : far O (x ++ l) (x ++ m) = far O l m := by
  have n0 : NF O ([] : Row α) := True.intro
  unfold far
  have : act O (back (x ++ l) ++ (x ++ m)) [] = act O (back l ++ m) [] := by
    rw [back_app, act_app, act_app, act_app, act_app, act_bk zx (nf_act (back_nz zl) n0)]
  rw [this]
theorem far_nil {m : Row α} : far O [] m = ln (act O m []) := rfl
theorem far_piles {l m : Row α} (zl : NZ l) (zm : NZ m) : far O (act O l []).reverse (act O m []).reverse = far O l m := by
  have n0 : NF O ([] : Row α) := True.intro
  have hl := nf_act (O := O) zl n0
  have zl' : NZ (act O l []).reverse := fun x hx => nf_nz hl x (List.mem_reverse.mp hx)
  unfold far
  rw [act_app, act_app, act_back_eq zl' zl (act_self zl n0) n0, act_self zm (nf_act (back_nz zl) n0)]
theorem pl_tail {x : α × Int} {r : Row α} (h : pl O (x :: r) = true) : pl O r = true := pl_right (u := [x]) h
theorem pl_times {a : α} {s t : Int} {r : Row α} (h : pl O ((a, s) :: r) = true) : pl O ((a, t) :: r) = true := h
/-- a unit of the first piece of what leads from one to the other -/
def sg (t : Int) : Int := if 0 < t then 1 else -1
theorem act_join1 {v q : Row α} {a : α} {s t : Int} (hs : s ≠ 0) (ht : t ≠ 0) (hN : NF O q) : act O ((a, s) :: (a, t) :: v) q = act O ((if s + t = 0 then [] else [(a, s + t)]) ++ v) q := by
  have := act_meet (O := O) (a := a) (s := s) (t := t) (u := []) (m := []) (v := v) (r := q) (fun _ h => nomatch h) hs ht (fun _ h => nomatch h) (fun _ h => nomatch h) hN
  rw [List.nil_append, List.nil_append] at this
  rw [this]
  split <;> rfl
theorem far_part {l m w' : Row α} {a : α} {t : Int} (zl : NZ l) (zm : NZ m) (h : (act O (back l ++ m) []).reverse = (a, t) :: w') : far O l (l ++ [(a, sg t)]) = 1 ∧ far O (l ++ [(a, sg t)]) m + 1 = far O l m := by
  have n0 : NF O ([] : Row α) := True.intro
  have z1 := (back_nz zl).app zm
  have f1 := nf_act (O := O) z1 n0
  have hp := pl_nf f1
  have hz : NZ (act O (back l ++ m) []).reverse := fun x hx => nf_nz f1 x (List.mem_reverse.mp hx)
  rw [h] at hp hz
  have ht : t ≠ 0 := hz (a, t) List.mem_cons_self
  have hs : sg t ≠ 0 := by unfold sg; split <;> decide
  have ze : NZ [(a, sg t)] := fun x hx => by rw [List.mem_singleton.mp hx]; exact hs
  constructor
  · have := far_ahead (O := O) (x := l) (l := []) (m := [(a, sg t)]) zl (fun _ h => nomatch h)
    rw [List.append_nil] at this
    rw [this, far_nil, ln_pile ze (by simp [pl, near])]
    show (sg t).natAbs + 0 = 1
    unfold sg
    by_cases q : 0 < t
    · rw [if_pos q]; rfl
    · rw [if_neg q]; rfl
  · have e0 : ln (act O (back l ++ m) []) = t.natAbs + ln w' := by
      rw [← ln_rev, h]
      rfl
    have e1 : act O (back (l ++ [(a, sg t)]) ++ m) [] = act O ((a, -(sg t)) :: (a, t) :: w') [] := by
      have g1 : act O ((a, -(sg t)) :: (a, t) :: w') [] = act O ((a, t) :: w') (act O [(a, -(sg t))] []) := rfl
      have hq : NF O (act O [(a, -(sg t))] []) := nf_act (fun x hx => by rw [List.mem_singleton.mp hx]; show -(sg t) ≠ 0; omega) n0
      rw [g1, ← h, act_self z1 hq, back_app, List.append_assoc, act_app]
      rfl
    have e2 := act_join1 (O := O) (v := w') (q := []) (a := a) (s := -(sg t)) (t := t) (by omega) ht n0
    unfold far
    rw [e0, e1, e2]
    by_cases q : -(sg t) + t = 0
    · rw [if_pos q, List.nil_append, ln_pile (fun x hx => hz x (List.mem_cons_of_mem _ hx)) (pl_tail hp)]
      have : t.natAbs = 1 := by
        unfold sg at q
        split at q <;> omega
      omega
    · rw [if_neg q]
      have z3 : NZ ((a, -(sg t) + t) :: w') := fun x hx => by
        rcases List.mem_cons.mp hx with e | e
        · rw [e]; exact q
        · exact hz x (List.mem_cons_of_mem _ e)
      show ln (act O ((a, -(sg t) + t) :: w') []) + 1 = _
      rw [ln_pile z3 (pl_times hp)]
      have : ln ((a, -(sg t) + t) :: w') = (-(sg t) + t).natAbs + ln w' := rfl
      rw [this]
      unfold sg at *
      split at * <;> omega
end
end XM
set_option Elab.async false
set_option linter.all false
set_option maxRecDepth 100000
set_option maxHeartbeats 4000000
namespace XB
open PySem PySem.Spec PyProof.Rows L2
theorem len_ln : ∀ l : List (Str × Int), lenOf l = (XM.ln l : Nat)
  | [] => rfl
  | s :: l => by
    have h := len_ln l
    unfold lenOf at h ⊢
    rw [List.map_cons, List.sum_cons, h]
    show (if s.2 < 0 then -s.2 else s.2) + _ = (((if (true : Bool) = true then s.2.natAbs else 0) + XM.ln l : Nat) : Int)
    rw [if_pos rfl]
    split <;> omega
theorem len_far {F : Fld} {l m : List (Str × Int)} : lenOf (XM.act (OF F) (XM.back l ++ m) []).reverse = (XM.far (OF F) l m : Nat) := by
  rw [len_ln, XM.ln_rev]
  rfl
theorem act_len1 {F : Fld} {l : List (Str × Int)} : (XM.act (OF F) l []).reverse.length ≤ l.length := by
  rw [List.length_reverse]
  exact act_len0
section
variable {P : Program} {w : World} {K : PySem.W.Frag} {mg : Str → Option Value} {base : Heap}
def spLeading (K : PySem.W.Frag) (F : Fld) : Sp := fun vs H Q _ => ∃ (t d e : Addr) (l m : List (Str × Int)), vs = [.ref t, .ref d, .ref e] ∧ TouchAt K H t F ∧ F.Ok ∧ Dp K H (.ref d) (dSteps l) ∧ Dp K H (.ref e) (dSteps m) ∧ l.length + m.length ≤ 400 ∧ Names F l ∧ Names F m ∧
  ∀ H' r, Same H H' → Dp K H' (.ref r) (dSteps (XM.act (OF F) (XM.back l ++ m) []).reverse) → Q (.ref r) H'
theorem c_leading (T : Tx K mg) (F : Fld) : Cl P w K mg base CX0 3 "leading" (spLeading K F) := by
  refine cl0 T.d_leading (ps := ["touch", "one", "other"]) (fun _ _ _ _ _ _ us hl => match us, hl with | [_, _, _], _ => rfl) sc_leading (fun vs H Q E h => ?_) (fun fa cdv A outer st H vs Q E hr h => ?_)
  · obtain ⟨t, d, e, l, m, rfl, _⟩ := h
    rfl
  · obtain ⟨t, d, e, l, m, rfl, hT, ok, hL, hM, hl, nl, nm, q⟩ := h
    have nd := sc_leading.nd
    refine ⟨_, (pss_one (ps_ret (pe_k (c_piled T F) hr (by decide) (by rfl) (pa_cons (pv 0) (pa_cons (pe_op (op_catAk (K := K) rfl) (pe_k (c_back T) hr (by decide) (by rfl) (pa_cons (pv 1) pa_nil)) (pv 2)) pa_nil))))), ?_⟩
    refine ⟨_, rfl, _, rfl, d, l, rfl, hL, by omega, fun H1 r s1 h1 => ⟨_, rfl, catD h1 (tS hM s1) (by rw [len_back]; omega) fun H2 p s2 h2 => ?_⟩⟩
    have s12 := s1.trans s2
    obtain ⟨_, xs, ex, hxS, hxD⟩ := h2.steps
    cases ex
    exact ⟨t, p, xs, _, rfl, hT.same s12, ok, hxS, hxD, by rw [List.length_append, len_back]; omega, fun z hz => (List.mem_append.mp hz).elim (names_back nl z) (nm z), fun H3 r3 s3 h3 => q H3 r3 (s12.trans s3) h3⟩
end
end XB
set_option Elab.async false
set_option linter.all false
set_option maxRecDepth 100000
set_option maxHeartbeats 4000000
/-! comprehensions with two fors; data that stand where all stands -/
namespace XB
open PySem PySem.Spec PyProof.Rows L2
theorem pi_tupk {X : Cx} {tg e : Expr} {te : TE} {K : PySem.W.Frag} (hk : X.K = K) (he : PE X e te) : PI X tg e (iTup K te) := by
  subst hk
  exact pi_tup he
theorem pi_listk {X : Cx} {tg e : Expr} {te : TE} {K : PySem.W.Frag} (hk : X.K = K) (he : PE X e te) : PI X tg e (iList K te) := by
  subst hk
  exact pi_list he
theorem cr_allk {X : Cx} {K : PySem.W.Frag} (hk : X.K = K) (hc : X.calm = true) : CallR X (.builtin "all") (rAll K) := by
  subst hk
  exact cr_all hc
theorem pi_enumk {X : Cx} {K : PySem.W.Frag} (hk : X.K = K) {e : Expr} {ta : TA} {p pos tpos : Pos} {elts : List Expr} {kk : Nat} (hg : Gl X "enumerate") (hm : X.mg "enumerate" = none) (ha : PA X [e] ta) (hs : starEach [e] X.env = [(false, eval e X.env)] := by rfl) :
    PI X (.Tuple elts kk tpos) (.Call (.Name "enumerate" p) [e] [] pos) (iEnum K ta) := by
  subst hk
  exact pi_enum hg hm ha hs
theorem pt_truthk {X : Cx} {K : PySem.W.Frag} (hk : X.K = K) {a : Expr} {ta : TE} (ha : PE X a ta) (he : ∀ whole, isTrue a X.env whole = (do let v ← whole; standAt a.pos; holding [v] (truthy v)) := by intro _; rfl) : PT X a (fun σ H Q => ta σ H fun x H' => ∃ k, TruV K x H' k ∧ Q k H') := by
  subst hk
  exact pt_truth ha he
/-- the inner for -/
def Lc2In (J1 : It) (g1 : TG) (tt1 : TT) (te : TE) (vs1 : List Nat) (σ2 : L2.St) (D : Addr) (Nx : Hp → Prop) (H4 : Hp) : Prop :=
  ∃ W1 : Nat → Nat → Hp → Prop, (∃ m, W1 0 m H4) ∧ ∀ j k H, W1 j k H →
      (J1.stop j H ∧ Nx H) ∨ (J1.go j H ∧ ∃ Nx1 : Hp → Prop, (∀ H', Nx1 H' → ∃ k', k' < k ∧ W1 (j + 1) k' H') ∧ ∀ x H', J1.yld j H x H' → g1 x (wipe σ2 vs1) H' fun σ3 H5 => wipe σ3 vs1 = wipe σ2 vs1 ∧ tt1 σ3 H5 fun b H6 =>
        if b = true then te σ3 H6 fun y H7 => ∃ acc, H7 D = some (.lst acc) ∧ acc.length < sizeLine ∧ Nx1 (upd H7 D (.lst (acc ++ [y]))) else Nx1 H6)
theorem lc2_in {J1 : It} {n1 : Nat} {G1 : Hp → Prop} {Y1 : Nat → Hp → V → Hp → Prop} (w : Walk J1 n1 G1 Y1) {g1 : TG} {tt1 : TT} {te : TE} {vs1 : List Nat} {σ2 : L2.St} {D : Addr} {Nx : Hp → Prop} {H4 : Hp} (Pv : Nat → Hp → Prop) (h0 : Pv 0 H4) (hG : ∀ i H, i ≤ n1 → Pv i H → G1 H)
    (hs : ∀ i x H H', i < n1 → Pv i H → Y1 i H x H' → g1 x (wipe σ2 vs1) H' fun σ3 H5 => wipe σ3 vs1 = wipe σ2 vs1 ∧ tt1 σ3 H5 fun b H6 =>
      if b = true then te σ3 H6 fun y H7 => ∃ acc, H7 D = some (.lst acc) ∧ acc.length < sizeLine ∧ Pv (i + 1) (upd H7 D (.lst (acc ++ [y]))) else Pv (i + 1) H6) (hd : ∀ H, Pv n1 H → Nx H) : Lc2In J1 g1 tt1 te vs1 σ2 D Nx H4 := by
  refine ⟨fun i m H => m = n1 - i ∧ i ≤ n1 ∧ Pv i H, ⟨n1, by simp, Nat.zero_le _, h0⟩, ?_⟩
  rintro i m H ⟨rfl, hi, p⟩
  have q := hG i H hi p
  by_cases hlt : i < n1
  · refine .inr ⟨w.goes i H hlt q, Pv (i + 1), fun H' p' => ⟨n1 - (i + 1), by omega, rfl, hlt, p'⟩, fun x H' y => hs i x H H' hlt p (w.yields i H x H' hlt q y)⟩
  · have e : i = n1 := by omega
    subst e
    exact .inl ⟨w.stops H q, hd H p⟩
theorem lc2_out {J : It} {n : Nat} {G : Hp → Prop} {Y : Nat → Hp → V → Hp → Prop} (w : Walk J n G Y) {wi1 : TI} {g g1 : TG} {tt tt1 : TT} {te : TE} {vs vs1 : List Nat} {σ : L2.St} {H1 : Hp} {D : Addr} {Qd : Hp → Prop} (Pv : Nat → Hp → Prop) (h0 : Pv 0 (upd H1 D (.lst []))) (hG : ∀ i H, i ≤ n → Pv i H → G H)
    (hs : ∀ i x H H', i < n → Pv i H → Y i H x H' → g x (wipe σ vs) H' fun σ2 H2 => wipe σ2 vs = wipe σ vs ∧ tt σ2 H2 fun b H3 =>
      if b = true then wi1 σ2 H3 fun J1 H4 => Lc2In J1 g1 tt1 te vs1 σ2 D (Pv (i + 1)) H4 else Pv (i + 1) H3) (hd : ∀ H, Pv n H → Qd H) :
    ∃ W : Nat → Nat → Hp → Prop, (∃ m, W 0 m (upd H1 D (.lst []))) ∧ ∀ i m H, W i m H →
      (J.stop i H ∧ Qd H) ∨ (J.go i H ∧ ∃ Nx : Hp → Prop, (∀ H', Nx H' → ∃ m', m' < m ∧ W (i + 1) m' H') ∧ ∀ x H', J.yld i H x H' → g x (wipe σ vs) H' fun σ2 H2 => wipe σ2 vs = wipe σ vs ∧ tt σ2 H2 fun b H3 =>
        if b = true then wi1 σ2 H3 fun J1 H4 => Lc2In J1 g1 tt1 te vs1 σ2 D Nx H4 else Nx H3) := by
  refine ⟨fun i m H => m = n - i ∧ i ≤ n ∧ Pv i H, ⟨n, by simp, Nat.zero_le _, h0⟩, ?_⟩
  rintro i m H ⟨rfl, hi, p⟩
  have q := hG i H hi p
  by_cases hlt : i < n
  · refine .inr ⟨w.goes i H hlt q, Pv (i + 1), fun H' p' => ⟨n - (i + 1), by omega, rfl, hlt, p'⟩, fun x H' y => hs i x H H' hlt p (w.yields i H x H' hlt q y)⟩
  · have e : i = n := by omega
    subst e
    exact .inl ⟨w.stops H q, hd H p⟩
theorem sqL_same {K : PySem.W.Frag} {H H' : Hp} {a : Addr} {xs : List V} (s : Same H H') (h : SqL K H a xs) : SqL K H' a xs := s.seq h
mutual
theorem Dp.sm {K : PySem.W.Frag} {H H' : Hp} (s : Same H H') : ∀ (d : PyData) {v : V}, Dp K H v d → Dp K H' v d
  | .none, _, h => by cases h; exact .non
  | .bool b, _, h => by cases h; exact .bl b
  | .int i, _, h => by cases h; exact .int i
  | .str x, _, h => by cases h; exact .str x
  | .list ds, _, h => by
    cases h with
    | lst h1 h2 => exact .lst (s.seq h1) (DpAll.sm s ds h2)
  | .tuple ds, _, h => by
    cases h with
    | tup h1 h2 => exact .tup ((Tk.of s).sqT h1) (DpAll.sm s ds h2)
  | .dict _, _, h => by cases h
theorem DpAll.sm {K : PySem.W.Frag} {H H' : Hp} (s : Same H H') : ∀ (ds : List PyData) {vs : List V}, DpAll K H vs ds → DpAll K H' vs ds
  | [], _, h => by cases h; exact .nil
  | d :: ds, _, h => by
    cases h with
    | cons h1 h2 => exact .cons (Dp.sm s d h1) (DpAll.sm s ds h2)
end
/-- a list of data -/
def RowG (K : PySem.W.Frag) (H : Hp) (D : Addr) (ds : List PyData) : Prop := ∃ xs, H D = some (.lst xs) ∧ DpAll K H xs ds
theorem RowG.same {K : PySem.W.Frag} {H H' : Hp} {D : Addr} {ds : List PyData} (h : RowG K H D ds) (s : Same H H') : RowG K H' D ds := by
  obtain ⟨xs, e, v⟩ := h
  exact ⟨xs, s _ _ e, DpAll.sm s ds v⟩
theorem rowCatG {K : PySem.W.Frag} {H : Hp} {a b : Addr} {l m : List PyData} {Q : VK} (h1 : RowG K H a l) (h2 : RowG K H b m) (hl : l.length + m.length ≤ 9000) (q : ∀ H' p, Same H H' → H p = none → RowG K H' p (l ++ m) → Q (.ref p) H') : rCat (.ref a) (.ref b) H Q := by
  obtain ⟨xs, e1, v1⟩ := h1
  obtain ⟨ys, e2, v2⟩ := h2
  have l1 := v1.len
  have l2 := v2.len
  refine catL e1 e2 (Nat.le_trans (show xs.length + ys.length ≤ 9000 by omega) (by decide)) fun H' p s hp e => q H' p s hp ⟨_, e, ?_⟩
  exact (DpAll.sm s l v1).app (DpAll.sm s m v2)
end XB
set_option Elab.async false
set_option linter.all false
set_option maxRecDepth 100000
set_option maxHeartbeats 4000000
/-! sorted(xs): alike data, in a list or a tuple, of any length; tuples of which the first is empty, too -/
namespace XSo
open PySem PySem.Spec PySem.W PySem.SeqAt PySem.Calls PyProof.Rows
section
variable {prog : Program} {w : World} {A : Around} {s : Shared} {E : Value → Shared → Prop}
theorem call_tuple_lt {Q : Value → Shared → Prop} {l b : Addr} {items items2 : Array Value} {e r : Nat → Bool} (hl : s.heap.IsTuple l items) (hb : s.heap.IsTuple b items2)
    (he : ∀ j (h1 : j < items.size) (h2 : j < items2.size), EqAt A.in1 s items[j] items2[j] (e j)) (hr : ∀ j (h1 : j < items.size) (h2 : j < items2.size), e j = false → RcLt A.in1 s items[j] items2[j] (r j))
    (h : Q (.bool (firstLt e r (decide (items.size < items2.size)) (List.range (min items.size items2.size)))) s) : wpAny (model prog w) A (call (.builtin "tuple.__lt__") [.ref l, .ref b]) Q E s := by
  obtain ⟨⟨cls, dd, data, sl⟩, ho, hc, n, hd⟩ := id hl
  obtain ⟨⟨cls2, dd2, data2, sl2⟩, ho2, hc2, n2, hd2⟩ := id hb
  simp only at hc hd hc2 hd2
  subst hc hd hc2 hd2
  exact call_meets F.slot_tuple_lt ⟨_, ho, rfl⟩ F.entry_tuple_lt (F.args_tuple_lt_2 _ _) (tuple_ltAt l b items items2 n n2 dd dd2 sl sl2 e r) ⟨ho, ho2, he, hr, h⟩
theorem oneLt_tuple {xs ys : List PyData} {a b : Value} {as bs : List Addr} {Q : Bool → Shared → Prop} (ra : Reads s.heap a (.tuple xs) as) (rb : Reads s.heap b (.tuple ys) bs) (hal : alikeAll xs ys = true)
    (hu : A.units + min (PyData.tuple xs).depth (PyData.tuple ys).depth < cLine) (hq : Q (dataLt (.tuple xs) (.tuple ys)) s) : wpAny (model prog w) A (oneLt' true a b) Q E s := by
  cases ra with
  | @tuple l o vs n _ as₁ h1 h2 h3 h4 =>
    cases rb with
    | @tuple l' o' vs' n' _ bs₁ k1 k2 k3 k4 =>
      have n1 : vs.size = xs.length := by simpa using ReadsAll.length _ _ _ h4
      have n2 : vs'.size = ys.length := by simpa using ReadsAll.length _ _ _ k4
      rw [dataLt_tuple, ← firstLt_toks xs ys hal, ← n1, ← n2] at hq
      rw [oneLt'_eq]
      simp only [if_true]
      refine wpAny_bind (wpAny_cRoomFor (room_here hu) ?_)
      refine wpAny_bind (wpAny_callSpecialIfBound?_slot (T := "tuple") ⟨_, h1, h2⟩ F.slot_tuple_lt (call_tuple_lt (e := pairEq xs ys) (r := fun j => dataLt (xs.getD j .none) (ys.getD j .none)) ⟨_, h1, h2, _, h3⟩ ⟨_, k1, k2, _, k3⟩ (fun j j1 j2 => ?_) (fun j j1 j2 hj => ?_) ?_))
      · have := eqAt_alikeAll xs ys A.in1 s vs.toList vs'.toList _ _ h4 k4 hal (room_in hu) j (by simpa using j1) (by simpa using j2)
        simpa using this
      · have := rcLt_alikeAll xs ys A.in1 s vs.toList vs'.toList _ _ h4 k4 hal (room_in hu) j (by simpa using j1) (by simpa using j2) hj
        simpa using this
      · exact wpAny_truthy_bool hq
/-- what sorting asks of a value first -/
def gFirst (h : Heap) : Value → Option Value
  | .ref a => match h.get? a with
    | some o => match o.data with
      | .seq xs _ => xs[0]?
      | _ => none
    | none => none
  | _ => none
theorem first_at {xs : List PyData} {a : Value} {as : List Addr} {Q : Option Value → Shared → Prop} (r : Reads s.heap a (.tuple xs) as) (h : Q (gFirst s.heap a) s) : wpAny (model prog w) A (firstOfTuple' a) Q E s := by
  cases r with
  | @tuple l o vs n _ as₁ h1 h2 h3 h4 =>
    have e : gFirst s.heap (.ref l) = vs[0]? := by
      simp only [gFirst, h1, h3]
    rw [e] at h
    rw [kas_first_eq]
    refine wpAny_bind (wpAny_typeOf (T := "tuple") ⟨o, h1, h2⟩ ?_)
    rw [if_neg (by decide)]
    exact wpAny_bind (listItems_at h1 h3 (wpAny_pure h))
theorem first_nil {a : Value} {as : List Addr} (r : Reads s.heap a (.tuple []) as) : gFirst s.heap a = none := by
  cases r with
  | @tuple l o vs n _ as₁ h1 h2 h3 h4 =>
    have n1 : vs.size = 0 := by simpa using ReadsAll.length _ _ _ h4
    simp only [gFirst, h1, h3]
    exact Array.getElem?_eq_none (by omega)
theorem mapM_firsts : ∀ (l : List Value) {Q : List (Option Value) → Shared → Prop}, (∀ v ∈ l, ∀ (Q' : Option Value → Shared → Prop), Q' (gFirst s.heap v) s → wpAny (model prog w) A (firstOfTuple' v) Q' E s) → Q (l.map (gFirst s.heap)) s → wpAny (model prog w) A (l.mapM firstOfTuple') Q E s
  | [], _, _, h => by rw [List.mapM_nil]; exact wpAny_pure h
  | x :: l, Q, hf, h => by
    rw [List.mapM_cons]
    exact wpAny_bind (hf x (.head _) _ (wpAny_bind (mapM_firsts l (Q := fun bs s' => wpAny (model prog w) A (pure (gFirst s.heap x :: bs)) Q E s') (fun v hv => hf v (.tail _ hv)) (wpAny_pure h))))
theorem kind_mixed {v : Value} {vs : List Value} {Q : SortKind → Shared → Prop} (hT : ∀ u ∈ v :: vs, ∃ xs as, Reads s.heap u (.tuple xs) as) (h0 : gFirst s.heap v = none) (h : Q oneType' s) : wpAny (model prog w) A (keyKind' (v :: vs).toArray) Q E s := by
  rw [keyKind'_eq, List.mapM_toArray, map_eq_pure_bind]
  refine wpAny_bind (wpAny_bind (mapM_firsts _ (fun u hu Q' hq => ?_) (wpAny_pure ?_)))
  · obtain ⟨xs, as, r⟩ := hT u hu
    exact first_at r hq
  · rw [if_neg (by simp [h0]), if_neg (by simp [h0])]
    rw [oneTypeOnly'_eq, List.mapM_toArray, map_eq_pure_bind]
    refine wpAny_bind (wpAny_bind (wpAny_bind (kas_mapM (r := Value.type "tuple") _ (fun u hu Q' hq => ?_) (wpAny_pure ?_))))
    · obtain ⟨xs, as, r⟩ := hT u hu
      exact (looks_reads r).here hq
    · have hall : ((List.map (fun _ => Value.type "tuple") (v :: vs)).toArray.all fun x => x == Value.type "tuple") = true := by
        simp only [List.all_toArray, List.all_map, List.all_eq_true]
        intro _ _
        exact beq_self_eq_true _
      have h0 : (List.map (fun _ => Value.type "tuple") (v :: vs)).toArray[0]? = some (Value.type "tuple") := by simp
      rw [h0]
      simp only [hall, if_true]
      exact wpAny_pure (wpAny_pure h)
/-- tuples of which the first is empty can be sorted -/
theorem sorts_mixed {vs : List Value} {ds : List PyData} (e : EachIs (fun v d => ∃ as, Reads s.heap v d as) vs (.tuple [] :: ds)) (ht : ∀ d ∈ ds, ∃ xs, d = .tuple xs) (hal : AllAlike (.tuple [] :: ds)) (hu : ∀ d, d ∈ PyData.tuple [] :: ds → A.units + d.depth < cLine) :
    SortsAt prog w A s (dataKind s.heap (.tuple [] :: ds)) vs := by
  have ht' : ∀ d ∈ PyData.tuple [] :: ds, ∃ xs, d = .tuple xs := fun d hd => by
    rcases List.mem_cons.mp hd with h | h
    · exact ⟨[], h⟩
    · exact ht d h
  have room : ∀ {d d' : PyData}, d ∈ PyData.tuple [] :: ds → A.units + min d.depth d'.depth < cLine := fun {d d'} hd => Nat.lt_of_le_of_lt (Nat.add_le_add_left (Nat.min_le_left _ _) _) (hu d hd)
  refine ⟨fun v hv => ?_, oneType', ?_, fun h2 E Q hq => ?_⟩
  · obtain ⟨d, hd, as, r⟩ := e.left v hv
    exact ⟨_, dataKind_some hal hd r⟩
  · intro E x y a b Q ha hb hq
    obtain ⟨d, as, hd, ra, rfl⟩ := dataKind_inv ha
    obtain ⟨d', as', hd', rb, rfl⟩ := dataKind_inv hb
    have hdd := hal d hd d' hd'
    have hr := room (d' := d') hd
    obtain ⟨xs, rfl⟩ := ht' d hd
    obtain ⟨ys, rfl⟩ := ht' d' hd'
    rw [keyLt'_oneType]
    exact oneLt_tuple ra rb (by simpa [alike] using hdd) hr hq
  · cases e with
    | cons h t =>
      obtain ⟨as, r⟩ := h
      refine kind_mixed (fun u hu => ?_) (first_nil r) hq
      rcases List.mem_cons.mp hu with q | q
      · rw [q]
        exact ⟨_, _, r⟩
      · obtain ⟨d, hd, as, r⟩ := t.left u q
        obtain ⟨xs, rfl⟩ := ht d hd
        exact ⟨_, _, r⟩
theorem collect_tuple {l : Addr} {vs : List Value} {Q : List Value → Shared → Prop} (hl : s.heap.IsTuple l vs.toArray)
    (h : Q vs { s with heap := (s.heap.push (seqObj "list" #[] 0)).update s.heap.objs.size (Obj.mapSeq (· ++ vs.toArray)) }) (hsz : vs.length ≤ sizeLine) :
    wpAny (model prog w) A (collect (.ref l)) Q E s := by
  obtain ⟨o, ho, hc, n, hd⟩ := id hl
  unfold collect
  refine wpAny_bind (wpAny_runValue (codeAny_builtin entry_proto_collect' ?_))
  show wpAny _ _ (do again (.builtin "list.__iadd__" ⟨[← newList [], .ref l], []⟩)) _ _ s
  refine wpAny_bind (wpAny_newList (wpAny_pure ⟨Code.quiet_builtin _ (by decide +kernel), codeAny_builtin entry_list_iadd' ?_⟩))
  show wpAny _ _ (Builtin.List.listExtendWith (.ref s.heap.objs.size) (.ref l) (.ref s.heap.objs.size)) _ _ { s with heap := s.heap.push (seqObj "list" #[] 0) }
  unfold Builtin.List.listExtendWith
  have ho' : (s.heap.push (seqObj "list" #[] 0)).get? l = some o := Heap.get?_push_of_some _ ho
  refine wpAny_bind (wpAny_typeOf (T := "tuple") ⟨o, ho', hc⟩ ?_)
  have ht : (Value.type "tuple" == Value.type "tuple") = true := by rfl
  rw [if_pos (by rw [ht]; simp)]
  refine wpAny_bind (listItems_at ho' hd ?_)
  refine wpAny_bind (listItems_at (xs := #[]) (n := 0) (Heap.get?_push_size _ rfl) rfl ?_)
  rw [if_neg (by simp)]
  refine wpAny_bind (listUpdate_at (xs := #[]) (n := 0) (Heap.get?_push_size _ rfl) rfl ?_ (Nat.zero_le _) (by show (#[] ++ vs.toArray).size ≤ sizeLine + 1; simp only [Array.size_append, List.size_toArray, List.length_nil]; omega))
  refine wpAny_pure ?_
  show wpAny (model prog w) A (do
      let o ← load s.heap.objs.size
      match o.data with
      | .seq xs _ => pure xs.toList
      | _ => unsupported "internal:collect") Q E { s with heap := (s.heap.push (seqObj "list" #[] 0)).update s.heap.objs.size (Obj.mapSeq (· ++ vs.toArray)) }
  refine wpAny_bind (wpAny_load (get?_update_seq (Heap.get?_push_size _ rfl) _) ?_)
  show wpAny _ _ (pure ((#[] : Array Value) ++ vs.toArray).toList) Q E _
  rw [show ((#[] : Array Value) ++ vs.toArray).toList = vs by simp]
  exact wpAny_pure h
theorem sorted_valsT {κ : PyProof.Rows.KeyKind} {l : Addr} {vs : List Value} {Q : Value → Shared → Prop} (hl : s.heap.IsTuple l vs.toArray) (S : SortsAt prog w A.in1.in1 { s with heap := sortingHeap (copyHeap s.heap vs) (s.heap.objs.size + 1) vs } κ vs) (hL : vs.length ≤ sizeLine)
    (h : Q (.ref (s.heap.objs.size + 1)) { s with heap := sortedAll s.heap vs (sortVals κ false vs vs).toArray }) : wpAny (model prog w) A (call (.builtin "sorted") [.ref l]) Q E s := by
  refine call_function_entry_kw kind_sorted plain_sorted entry_sorted (args_sorted1 _) ?_
  unfold Builtin.«sorted»
  refine wpAny_bind (m := checkCount "sorted" 1 1 _) (wpAny_pure ?_)
  refine wpAny_bind (collect_tuple hl ?_ hL)
  refine wpAny_bind (wpAny_newList ?_ hL)
  have hsz : ((s.heap.push (seqObj "list" #[] 0)).update s.heap.objs.size (Obj.mapSeq (· ++ vs.toArray))).objs.size = s.heap.objs.size + 1 := by
    rw [Heap.size_update, size_push']
  show wpAny _ _ _ _ _ { s with heap := copyHeap s.heap vs }
  rw [hsz]
  refine wpAny_bind (wpAny_holding (wpAny_call_entry_kw slot_list_sort ⟨_, copyHeap_at s.heap vs, rfl⟩ entry_list_sort ?body (args_list_sort _)))
  case body =>
    show wpAny (model prog w) A.in1.in1 (Builtin.«list.sort» ⟨[.ref (s.heap.objs.size + 1)], []⟩) _ _ _
    refine wpAny_mono (list_sort_vals (P := fun f s' => f = .done (.ret .none) ∧ Q (.ref (s.heap.objs.size + 1)) s') (s := { s with heap := copyHeap s.heap vs }) (copyHeap_at s.heap vs) S hL ⟨rfl, h⟩) (fun f s' hf => ?_) fun _ _ e => e
    obtain ⟨rfl, hq⟩ := hf
    exact ⟨_, rfl, wpAny_pure ⟨_, rfl, hq⟩⟩
end
end XSo
namespace XB
open PySem PySem.Spec PyProof.Rows L2
/-- alike data that can be sorted -/
structure SortOkD (ds : List PyData) : Prop where
  al : PySem.W.AllAlike ds
  so : PySem.W.Sortable ds ∨ ∃ ds', ds = .tuple [] :: ds' ∧ ∀ d ∈ ds', ∃ xs, d = .tuple xs
  dp : ∀ d ∈ ds, d.depth ≤ 60
/-- the data in their order -/
def sortD (ds : List PyData) : List PyData := ds.mergeSort (PySem.W.dataLe false id)
def rSortedD (K : PySem.W.Frag) : List V → Hp → VK → Prop := fun vs H Q => ∃ (a : Addr) (ys : List V) (ds : List PyData), vs = [.ref a] ∧ (SqL K H a ys ∨ SqT K H a ys) ∧ DpAll K H ys ds ∧ SortOkD ds ∧
  ∀ p zs, H p = none → DpAll K H zs (sortD ds) → Q (.ref p) (upd H p (.lst zs))
theorem each_zip {K : PySem.W.Frag} {H : Hp} : ∀ {its : List Value} {ys : List V} {ds : List PyData}, Vals ys its → DpAll K H ys ds → PySem.W.EachIs (fun v (b : V × PyData) => RelV b.1 v ∧ Dp K H b.1 b.2) its (ys.zip ds)
  | _, _, _, .nil, .nil => .nil
  | _, _, _, .cons r rs, .cons d dd => .cons ⟨r, d⟩ (each_zip rs dd)
theorem zip_snd {K : PySem.W.Frag} {H : Hp} : ∀ {ys : List V} {ds : List PyData}, DpAll K H ys ds → (ys.zip ds).map Prod.snd = ds
  | _, _, .nil => rfl
  | _, _, .cons d dd => by
    rw [List.zip_cons_cons, List.map_cons, zip_snd dd]
theorem each_back {K : PySem.W.Frag} {H : Hp} : ∀ {out : List Value} {bs : List (V × PyData)}, PySem.W.EachIs (fun v (b : V × PyData) => RelV b.1 v ∧ Dp K H b.1 b.2) out bs → Vals (bs.map Prod.fst) out ∧ DpAll K H (bs.map Prod.fst) (bs.map Prod.snd)
  | _, _, .nil => ⟨.nil, .nil⟩
  | _, _, .cons ⟨r, d⟩ t => ⟨.cons r (each_back t).1, .cons d (each_back t).2⟩
theorem each_zipR {K : PySem.W.Frag} {H : Hp} {R : Value → PyData → Prop} : ∀ {its : List Value} {ys : List V} {ds : List PyData}, DpAll K H ys ds → PySem.W.EachIs R its ds → PySem.W.EachIs (fun v (b : V × PyData) => R v b.2) its (ys.zip ds)
  | _, _, _, .nil, .nil => .nil
  | _, _, _, .cons _ dd, .cons r rs => .cons r (each_zipR dd rs)
theorem cr_sortedD {X : Cx} {K : PySem.W.Frag} (hk : X.K = K) (hu : X.A.units + 65 < cLine) : CallR X (.builtin "sorted") (rSortedD K) := by
  subst hk
  intro pins s σ H vs us Q I r h
  obtain ⟨a, ys, ds, rfl, hs, hD, hok, q⟩ := h
  rw [Vals.ref1 r]
  have main : ∀ its : List Value, Vals ys its → its.length ≤ sizeLine → (∀ {κ : PyProof.Rows.KeyKind} {Q' : Value → Shared → Prop}, PySem.W.SortsAt X.prog X.w X.A.in1.in1 { s with heap := PySem.W.sortingHeap (PySem.W.copyHeap s.heap its) (s.heap.objs.size + 1) its } κ its →
      Q' (.ref (s.heap.objs.size + 1)) { s with heap := PyProof.Rows.sortedAll s.heap its (PySem.W.sortVals κ false its its).toArray } → wpAny (model X.prog X.w) X.A (call (.builtin "sorted") [.ref a]) Q' X.xe s) →
      wpAny (model X.prog X.w) X.A (call (.builtin "sorted") [.ref a]) (EP X pins σ Q) X.xe s := fun its rv hz run => by
    obtain ⟨as, ra⟩ := Dp.readsAll I ds ys its hD rv
    have e0 : PySem.W.EachIs (fun v d => ∃ as, Reads s.heap v d as) its ds := by
      have := PySem.W.readsAll_each (h := s.heap) id (bs := ds) (vs := its) (as := as) (by rw [List.map_id]; exact ra)
      exact this
    have e1 : PySem.W.EachIs (fun v d => ∃ as, Reads (PySem.W.sortingHeap (PySem.W.copyHeap s.heap its) (s.heap.objs.size + 1) its) v d as) its ds := e0.mono fun _ _ ⟨as, r⟩ => ⟨as, PyProof.Rows.Reads.keeps (fun _ _ => PySem.W.sorting_copy_old) r⟩
    have hz1 := zip_snd hD
    have er := each_zipR hD e1
    have hal := hok.al
    rw [← hz1] at hal
    have eo := PySem.W.sortVals_data (enc := Prod.snd) false (each_zip rv hD) er hal
    rw [hz1] at eo
    obtain ⟨hv, hd⟩ := each_back eo
    have hs : ((ys.zip ds).mergeSort (PySem.W.dataLe false Prod.snd)).map Prod.snd = sortD ds := by
      have h := List.map_mergeSort (r := PySem.W.dataLe false Prod.snd) (s := PySem.W.dataLe false id) (f := Prod.snd) (l := ys.zip ds) (fun _ _ _ _ => rfl)
      rw [hz1] at h
      exact h
    rw [hs] at hd
    generalize ((ys.zip ds).mergeSort (PySem.W.dataLe false Prod.snd)).map Prod.fst = zs at hv hd
    have S : PySem.W.SortsAt X.prog X.w X.A.in1.in1 { s with heap := PySem.W.sortingHeap (PySem.W.copyHeap s.heap its) (s.heap.objs.size + 1) its } (PySem.W.dataKind (PySem.W.sortingHeap (PySem.W.copyHeap s.heap its) (s.heap.objs.size + 1) its) ds) its := by
      have hb : ∀ d ∈ ds, X.A.in1.in1.units + d.depth < cLine := fun d hd => by
        have := hok.dp d hd
        show X.A.units + 2 + d.depth < cLine
        omega
      rcases hok.so with q | ⟨ds', rfl, ht⟩
      · exact PySem.W.SortsAt.data (s := { s with heap := PySem.W.sortingHeap (PySem.W.copyHeap s.heap its) (s.heap.objs.size + 1) its }) e1 hok.al q hb
      · exact XSo.sorts_mixed (s := { s with heap := PySem.W.sortingHeap (PySem.W.copyHeap s.heap its) (s.heap.objs.size + 1) its }) e1 ht hok.al hb
    refine run S ?_
    generalize PySem.W.sortVals _ false its its = out at hv ⊢
    obtain ⟨ep, he'⟩ := PyProof.Rows.sortedAll_at s.heap its out.toArray
    have hlen : zs.length ≤ sizeLine := by
      have l1 := hd.len
      have l2 := hD.len
      have l3 := rv.length
      unfold sortD at l1
      rw [List.length_mergeSort] at l1
      omega
    exact ⟨.ref _, upd H (s.heap.objs.size + 1) (.lst zs), I.laid (t' := s.toks) (fun _ _ => PyProof.Rows.sortedAll_old) (Nat.le_succ _) ⟨hlen, out, ep, hv, he'⟩, rfl, q _ zs (I.hok.fresh (Nat.le_succ _)) hd⟩
  rcases hs with hs | hs
  · obtain ⟨its, rv, hl, hz⟩ := I.list hs
    exact main its rv (by rw [← rv.length]; exact hz) fun S h => PySem.W.sorted_vals hl.isList S (by rw [← rv.length]; exact hz) h
  · obtain ⟨its, rv, hl, hz⟩ := I.tuple hs
    exact main its rv (by rw [← rv.length]; exact hz) fun S h => XSo.sorted_valsT hl S (by rw [← rv.length]; exact hz) h
end XB
set_option linter.all false
/-! lower parts of rows, what two have in common, and middles: by lengths alone -/
namespace XM
section
variable {α : Type} [DecidableEq α] {O : Ord α}
/-- the length of the pile of a row -/
def gl (O : Ord α) (l : Row α) : Nat := ln (act O l [])
theorem gl_le {l : Row α} : gl O l ≤ ln l := ln_act
theorem n00 : NF O ([] : Row α) := True.intro
theorem nz0 : NZ ([] : Row α) := fun _ h => nomatch h
theorem nz1 {x : α × Int} (h : x.2 ≠ 0) : NZ [x] := fun y hy => by rw [List.mem_singleton.mp hy]; exact h
theorem nzc {x : α × Int} {l : Row α} (h : x.2 ≠ 0) (z : NZ l) : NZ (x :: l) := fun y hy => (List.mem_cons.mp hy).elim (fun e => by rw [e]; exact h) (z y)
theorem nzt {x : α × Int} {l : Row α} (z : NZ (x :: l)) : NZ l := fun y hy => z y (List.mem_cons_of_mem _ hy)
theorem gl_congr {l m : Row α} (h : act O l [] = act O m []) : gl O l = gl O m := by unfold gl; rw [h]
theorem gl_app {u v : Row α} (zu : NZ u) (zv : NZ v) : gl O (u ++ v) ≤ gl O u + gl O v := by
  have h := far_tri (O := O) (l := back u) (m := []) (n := v) (back_nz zu) nz0 zv
  unfold far at h
  rw [back_back, List.append_nil] at h
  exact h
theorem gl_cons {x : α × Int} {l : Row α} (hx : x.2 ≠ 0) (zl : NZ l) : gl O (x :: l) ≤ x.2.natAbs + gl O l := by
  have h := gl_app (O := O) (nz1 hx) zl
  have h2 : gl O [x] ≤ ln [x] := gl_le
  have e : ln [x] = x.2.natAbs + 0 := rfl
  have e2 : [x] ++ l = x :: l := rfl
  rw [e2] at h
  omega
theorem eq_app {u u' v v' : Row α} (zu' : NZ u') (zv : NZ v) (zv' : NZ v') (h1 : act O u [] = act O u' []) (h2 : act O v [] = act O v' []) : act O (u ++ v) [] = act O (u' ++ v') [] := by
  rw [act_app, act_app, h1, act_same zv zv' h2 (nf_act zu' n00)]
theorem gl_back {l : Row α} (hz : NZ l) : gl O (back l) = gl O l := ln_act_back hz
theorem gl_zero {l : Row α} (zl : NZ l) (h : gl O l = 0) : act O l [] = [] := (ln_zero (nf_nz (nf_act (O := O) zl n00))).mp h
/-- the row of the pile -/
def pile (O : Ord α) (l : Row α) : Row α := (act O l []).reverse
theorem pile_nz {l : Row α} (zl : NZ l) : NZ (pile O l) := fun x hx => nf_nz (nf_act (O := O) zl n00) x (List.mem_reverse.mp hx)
theorem pile_pl {l : Row α} (zl : NZ l) : pl O (pile O l) = true := pl_nf (nf_act zl n00)
theorem pile_act {l : Row α} (zl : NZ l) {q : Row α} (hq : NF O q) : act O (pile O l) q = act O l q := act_self zl hq
theorem pile_ln {l : Row α} : ln (pile O l) = gl O l := ln_rev _
theorem pile_gl {l : Row α} (zl : NZ l) : gl O (pile O l) = ln (pile O l) := by
  rw [pile_ln]
  exact gl_congr (pile_act zl n00)
/-! ### rows in which nothing vanishes -/
abbrev Nc (O : Ord α) (l : Row α) : Prop := NC O (WL fun _ => true) l
theorem nc_red {l : Row α} (zl : NZ l) (h : Nc O l) : gl O l = ln l := Wt.sum_nc _ l rfl zl h
theorem nearS_split {a : α} {t : Int} : ∀ {r : Row α}, nearS O a r = some t → ∃ m v, r = m ++ (a, t) :: v ∧ ∀ w ∈ m, O.tc w.1 a = false
  | [], h => nomatch h
  | y :: r, h => by
    unfold nearS at h
    by_cases e : y.1 = a
    · rw [if_pos e] at h
      refine ⟨[], r, ?_, fun _ h => nomatch h⟩
      rw [← e, ← Option.some.inj h]
      rfl
    · rw [if_neg e] at h
      by_cases ht : O.tc y.1 a = true
      · rw [if_pos ht] at h
        cases h
      · rw [if_neg ht] at h
        obtain ⟨m, v, rfl, hm⟩ := nearS_split h
        exact ⟨y :: m, v, rfl, fun w hw => (List.mem_cons.mp hw).elim (fun e => by rw [e]; exact Bool.eq_false_iff.mpr ht) (hm w)⟩
theorem red_nc : ∀ {l : Row α}, NZ l → gl O l = ln l → Nc O l
  | [], _, _ => True.intro
  | x :: l, zl, h => by
    have hx : x.2 ≠ 0 := zl x List.mem_cons_self
    have zt := nzt zl
    have h1 := gl_cons (O := O) hx zt
    have h2 := gl_le (O := O) (l := l)
    have e : ln (x :: l) = x.2.natAbs + ln l := rfl
    refine ⟨fun t ht => ?_, red_nc zt (by omega)⟩
    obtain ⟨m, v, rfl, hm⟩ := nearS_split ht
    have h0 : t ≠ 0 := zt (x.1, t) (by simp)
    refine Classical.byContradiction fun hn => ?_
    have hn : ¬ Sg x.2 t := hn
    have zm : NZ m := zt.left
    have m1 := act_meet (O := O) (u := []) (m := m) (v := v) (a := x.1) (s := x.2) (t := t) (r := []) hm hx h0 nz0 zm n00
    have m1 : act O (x :: (m ++ (x.1, t) :: v)) [] = act O ((if x.2 + t = 0 then [] else [(x.1, x.2 + t)]) ++ (m ++ v)) [] := m1
    have m2 := gl_congr m1
    have m3 : gl O ((if x.2 + t = 0 then [] else [(x.1, x.2 + t)]) ++ (m ++ v)) ≤ (x.2 + t).natAbs + (ln m + ln v) := by
      refine Nat.le_trans gl_le ?_
      rw [ln_app, ln_app]
      by_cases q : x.2 + t = 0
      · rw [if_pos q, q]
        exact Nat.le_refl _
      · rw [if_neg q]
        exact Nat.le_refl _
    have e2 : ln (m ++ (x.1, t) :: v) = ln m + (t.natAbs + ln v) := ln_app _ _
    have : (x.2 + t).natAbs < x.2.natAbs + t.natAbs := by
      unfold Sg at hn
      omega
    omega
/-! ### units that can stand first -/
def Un (s : Int) : Prop := s = 1 ∨ s = -1
theorem Un.ne {s : Int} (h : Un s) : s ≠ 0 := by rcases h with h | h <;> omega
theorem Un.neg {s : Int} (h : Un s) : Un (-s) := by rcases h with h | h <;> simp [Un, h]
theorem Un.abs {s : Int} (h : Un s) : s.natAbs = 1 := by rcases h with h | h <;> simp [h]
theorem sg_un (t : Int) : Un (sg t) := by
  unfold sg
  split
  · exact .inl rfl
  · exact .inr rfl
def Frt (O : Ord α) (a : α) (s : Int) (l : Row α) : Prop := gl O ((a, -s) :: l) + 1 = gl O l
theorem act_cancel {a : α} {s : Int} {l q : Row α} (hs : s ≠ 0) (hq : NF O q) : act O ((a, s) :: (a, -s) :: l) q = act O l q := by
  rw [act_join1 (O := O) (v := l) hs (by omega) hq, if_pos (by omega)]
  rfl
theorem act_cancel2 {a : α} {s : Int} {l q : Row α} (hs : s ≠ 0) (hq : NF O q) : act O ((a, -s) :: (a, s) :: l) q = act O l q := by
  rw [act_join1 (O := O) (v := l) (by omega) hs hq, if_pos (by omega)]
  rfl
theorem cons_congr {x : α × Int} {l m : Row α} (hx : x.2 ≠ 0) (zl : NZ l) (zm : NZ m) (h : act O l [] = act O m []) : act O (x :: l) [] = act O (x :: m) [] :=
  eq_app (u := [x]) (u' := [x]) (nz1 hx) zl zm rfl h
theorem frt_congr {a : α} {s : Int} {l m : Row α} (hs : Un s) (zl : NZ l) (zm : NZ m) (h : act O l [] = act O m []) : Frt O a s l ↔ Frt O a s m := by
  unfold Frt
  rw [gl_congr h, gl_congr (cons_congr (x := (a, -s)) hs.neg.ne zl zm h)]
/-- one unit ahead changes the length by one -/
theorem unit_low {a : α} {s : Int} {l : Row α} (hs : Un s) (zl : NZ l) : gl O l ≤ gl O ((a, -s) :: l) + 1 := by
  have h := gl_cons (O := O) (x := (a, s)) (l := (a, -s) :: l) hs.ne (nzc hs.neg.ne zl)
  rw [gl_congr (act_cancel hs.ne n00)] at h
  have := hs.abs
  have : (a, s).2.natAbs = 1 := this
  omega
theorem unit_high {a : α} {s : Int} {l : Row α} (hs : Un s) (zl : NZ l) : gl O ((a, s) :: l) ≤ gl O l + 1 := by
  have h := gl_cons (O := O) (x := (a, s)) (l := l) hs.ne zl
  have : (a, s).2.natAbs = 1 := hs.abs
  omega
theorem frt_of {a : α} {s : Int} {l : Row α} (zl : NZ l) (h : gl O l = ln l) (hn : nearS O a l = some s) : Frt O a (sg s) l := by
  obtain ⟨m, v, rfl, hm⟩ := nearS_split hn
  have hs : s ≠ 0 := zl (a, s) (by simp)
  have hu := sg_un s
  have m1 := act_meet (O := O) (u := []) (m := m) (v := v) (a := a) (s := -(sg s)) (t := s) (r := []) hm hu.neg.ne hs nz0 zl.left n00
  have m1 : act O ((a, -(sg s)) :: (m ++ (a, s) :: v)) [] = act O ((if -(sg s) + s = 0 then [] else [(a, -(sg s) + s)]) ++ (m ++ v)) [] := m1
  have m2 := gl_congr m1
  have m3 : gl O ((if -(sg s) + s = 0 then [] else [(a, -(sg s) + s)]) ++ (m ++ v)) ≤ (-(sg s) + s).natAbs + (ln m + ln v) := by
    refine Nat.le_trans gl_le ?_
    rw [ln_app, ln_app]
    by_cases q : -(sg s) + s = 0
    · rw [if_pos q, q]
      exact Nat.le_refl _
    · rw [if_neg q]
      exact Nat.le_refl _
  have e2 : ln (m ++ (a, s) :: v) = ln m + (s.natAbs + ln v) := ln_app _ _
  have e3 : (-(sg s) + s).natAbs + 1 = s.natAbs := by
    unfold sg
    split <;> omega
  have := unit_low (O := O) (a := a) hu zl
  unfold Frt
  omega
theorem frt_iff {a : α} {s : Int} {l : Row α} (zl : NZ l) (h : gl O l = ln l) (hs : Un s) : Frt O a s l ↔ ∃ t, nearS O a l = some t ∧ sg t = s := by
  refine ⟨fun hf => ?_, fun ⟨t, ht, e⟩ => by rw [← e]; exact frt_of zl h ht⟩
  refine Classical.byContradiction fun hn => ?_
  have nc : Nc O ((a, -s) :: l) := ⟨fun t ht => by
    have h0 : t ≠ 0 := by
      obtain ⟨m, v, e, _⟩ := nearS_split ht
      exact zl (a, t) (by rw [e]; simp)
    have hq : sg t ≠ s := fun e => hn ⟨t, ht, e⟩
    show Sg (-s) t
    unfold sg at hq
    unfold Sg
    rcases hs with q | q <;> subst q <;> split at hq <;> omega, red_nc zl h⟩
  have e := nc_red (nzc hs.neg.ne zl) nc
  have e2 : ln ((a, -s) :: l) = (-s).natAbs + ln l := rfl
  have := hs.neg.abs
  unfold Frt at hf
  omega
theorem unit_or {a : α} {s : Int} {l : Row α} (hs : Un s) (zl : NZ l) : Frt O a s l ∨ gl O ((a, -s) :: l) = gl O l + 1 := by
  rcases Classical.em (Frt O a s l) with h | h
  · exact .inl h
  · refine .inr ?_
    have zp := pile_nz (O := O) zl
    have ep := pile_act (O := O) zl (q := []) n00
    have hr := pile_gl (O := O) zl
    have nc : Nc O ((a, -s) :: pile O l) := ⟨fun t ht => by
      have h0 : t ≠ 0 := by
        obtain ⟨m, v, e, _⟩ := nearS_split ht
        exact zp (a, t) (by rw [e]; simp)
      have hq : sg t ≠ s := fun e => h ((frt_congr hs zp zl ep).mp ((frt_iff zp hr hs).mpr ⟨t, ht, e⟩))
      show Sg (-s) t
      unfold sg at hq
      unfold Sg
      rcases hs with q | q <;> subst q <;> split at hq <;> omega, red_nc zp hr⟩
    have e := nc_red (nzc hs.neg.ne zp) nc
    have e2 : ln ((a, -s) :: pile O l) = (-s).natAbs + ln (pile O l) := rfl
    have := hs.neg.abs
    rw [gl_congr (cons_congr (x := (a, -s)) hs.neg.ne zp zl ep), pile_ln] at *
    omega
/-- what is not empty has a unit that can stand first -/
theorem frt_ex {l : Row α} (zl : NZ l) (h : gl O l ≠ 0) : ∃ a s, Un s ∧ Frt O a s l := by
  have zp := pile_nz (O := O) zl
  have ep := pile_act (O := O) zl (q := []) n00
  have hr := pile_gl (O := O) zl
  have hl := pile_ln (O := O) (l := l)
  cases hp : pile O l with
  | nil =>
    rw [hp] at hl
    exact absurd hl.symm h
  | cons x r =>
    refine ⟨x.1, sg x.2, sg_un _, (frt_congr (sg_un _) zp zl ep).mp (frt_of zp hr ?_)⟩
    rw [hp]
    unfold nearS
    rw [if_pos rfl]
theorem frt_sign {a : α} {s t : Int} {l : Row α} (hs : Un s) (ht : Un t) (zl : NZ l) (h1 : Frt O a s l) (h2 : Frt O a t l) : s = t := by
  have zp := pile_nz (O := O) zl
  have ep := pile_act (O := O) zl (q := []) n00
  have hr := pile_gl (O := O) zl
  obtain ⟨u, e1, r1⟩ := (frt_iff zp hr hs).mp ((frt_congr hs zl zp ep.symm).mp h1)
  obtain ⟨v, e2, r2⟩ := (frt_iff zp hr ht).mp ((frt_congr ht zl zp ep.symm).mp h2)
  rw [e1] at e2
  cases e2
  rw [← r1, ← r2]
theorem nearS_out {a b : α} {t : Int} {w B : Row α} (hab : O.tc b a = false) (hB : ∀ y ∈ B, y.1 = b) {m : Row α} : nearS O a (m ++ (B ++ w)) = nearS O a (m ++ (b, t) :: w) := by
  rcases Classical.em (∃ y ∈ m, O.tc y.1 a = true) with h | h
  · rw [nearS_hit h, nearS_hit h]
  · have hm : ∀ y ∈ m, O.tc y.1 a = false := fun y hy => Bool.eq_false_iff.mpr fun q => h ⟨y, hy, q⟩
    rw [nearS_apart hm, nearS_apart hm, nearS_apart fun y hy => by rw [hB y hy]; exact hab]
    exact (nearS_apart (m := [(b, t)]) fun y hy => by rw [List.mem_singleton.mp hy]; exact hab).symm
/-- two units that can stand first are apart, and stay so -/
theorem frt_two {a b : α} {s t : Int} {l : Row α} (hs : Un s) (ht : Un t) (zl : NZ l) (hab : a ≠ b) (h1 : Frt O a s l) (h2 : Frt O b t l) : O.tc a b = false ∧ Frt O a s ((b, -t) :: l) := by
  have zp := pile_nz (O := O) zl
  have ep := pile_act (O := O) zl (q := []) n00
  have hr := pile_gl (O := O) zl
  obtain ⟨u, e1, r1⟩ := (frt_iff zp hr hs).mp ((frt_congr hs zl zp ep.symm).mp h1)
  obtain ⟨v, e2, r2⟩ := (frt_iff zp hr ht).mp ((frt_congr ht zl zp ep.symm).mp h2)
  have hapart : O.tc a b = false := by
    obtain ⟨m, w, em, hm⟩ := nearS_split e1
    rw [em] at e2
    rcases Classical.em (∃ y ∈ m, O.tc y.1 b = true) with h | h
    · rw [nearS_hit h] at e2
      obtain ⟨m1, m2, e3, _⟩ := nearS_split e2
      have := hm (b, v) (by rw [e3]; simp)
      exact apart_symm this
    · rw [nearS_apart fun y hy => Bool.eq_false_iff.mpr fun q => h ⟨y, hy, q⟩] at e2
      unfold nearS at e2
      rw [if_neg hab] at e2
      by_cases q : O.tc a b = true
      · rw [if_pos q] at e2
        cases e2
      · exact Bool.eq_false_iff.mpr q
  refine ⟨hapart, ?_⟩
  obtain ⟨m, w, em, hm⟩ := nearS_split e2
  have hv : v ≠ 0 := zp (b, v) (by rw [em]; simp)
  have zm : NZ m := by
    rw [em] at zp
    exact zp.left
  have zw : NZ w := by
    rw [em] at zp
    exact nzt zp.right
  have m1 := act_meet (O := O) (u := []) (m := m) (v := w) (a := b) (s := -t) (t := v) (r := []) hm ht.neg.ne hv nz0 zm n00
  have m1 : act O ((b, -t) :: (m ++ (b, v) :: w)) [] = act O ((if -t + v = 0 then [] else [(b, -t + v)]) ++ (m ++ w)) [] := m1
  -- the very row, the piece left where it was
  have m2 : act O (m ++ ((if -t + v = 0 then [] else [(b, -t + v)]) ++ w)) [] = act O ((if -t + v = 0 then [] else [(b, -t + v)]) ++ (m ++ w)) [] := by
    by_cases q : -t + v = 0
    · rw [if_pos q]
      rfl
    · rw [if_neg q]
      exact act_move (O := O) (u := []) (p := m) (v := w) (x := (b, -t + v)) hm nz0 zm n00
  have zB : NZ (m ++ ((if -t + v = 0 then [] else [(b, -t + v)]) ++ w)) := zm.app (NZ.app (by
    by_cases q : -t + v = 0
    · rw [if_pos q]
      exact nz0
    · rw [if_neg q]
      exact nz1 q) zw)
  have zc : NZ ((b, -t) :: pile O l) := nzc ht.neg.ne zp
  have e5 : act O (m ++ ((if -t + v = 0 then [] else [(b, -t + v)]) ++ w)) [] = act O ((b, -t) :: l) [] := by
    rw [m2, ← m1, ← em]
    exact cons_congr (x := (b, -t)) ht.neg.ne zp zl ep
  have e6 : ln (m ++ ((if -t + v = 0 then [] else [(b, -t + v)]) ++ w)) + 1 = gl O l := by
    have k1 : ln (pile O l) = ln m + (v.natAbs + ln w) := by rw [em]; exact ln_app _ _
    rw [pile_ln] at k1
    rw [ln_app, ln_app]
    by_cases q : -t + v = 0
    · rw [if_pos q]
      have : ln ([] : Row α) = 0 := rfl
      have := ht.abs
      have e8 : v = t := by omega
      rw [e8] at k1
      omega
    · rw [if_neg q]
      have k2 : ln [(b, -t + v)] = (-t + v).natAbs + 0 := rfl
      have : (-t + v).natAbs + 1 = v.natAbs := by
        rw [← r2] at q ⊢
        unfold sg at q ⊢
        split at q <;> omega
      omega
  have e7 : gl O (m ++ ((if -t + v = 0 then [] else [(b, -t + v)]) ++ w)) = ln (m ++ ((if -t + v = 0 then [] else [(b, -t + v)]) ++ w)) := by
    have := gl_congr e5
    unfold Frt at h2
    omega
  refine (frt_congr hs zB (nzc ht.neg.ne zl) e5).mp ((frt_iff zB e7 hs).mpr ⟨u, ?_, r1⟩)
  rw [nearS_out (t := v) (apart_symm hapart) (by
    intro y hy
    by_cases q : -t + v = 0
    · rw [if_pos q] at hy
      cases hy
    · rw [if_neg q] at hy
      rw [List.mem_singleton.mp hy]), ← em]
  exact e1
/-- a unit that can stand first still can, behind one that is apart -/
theorem frt_cons {a b : α} {s t : Int} {l : Row α} (hs : Un s) (ht : Un t) (zl : NZ l) (hab : O.tc a b = false) (h : Frt O a s l) (hg : gl O ((b, t) :: l) = gl O l + 1) : Frt O a s ((b, t) :: l) := by
  have e : act O ((a, -s) :: (b, t) :: l) [] = act O ((b, t) :: (a, -s) :: l) [] := act_swap (O := O) (u := []) (x := (a, -s)) (y := (b, t)) (v := l) (r := []) hab nz0 n00
  have h1 := unit_high (O := O) (a := b) ht (nzc (x := (a, -s)) hs.neg.ne zl)
  have h2 := unit_low (O := O) (a := a) hs (nzc (x := (b, t)) ht.ne zl)
  have h3 := gl_congr e
  unfold Frt at h ⊢
  omega
end
end XM
set_option linter.all false
/-! the greatest lower part that two rows have in common is the only one; middles -/
namespace XM
section
variable {α : Type} [DecidableEq α] {O : Ord α}
theorem back_cons {x : α × Int} {l : Row α} : back (x :: l) = back l ++ [(x.1, -x.2)] := by
  unfold back
  rw [List.map_cons, List.reverse_cons]
def Low (O : Ord α) (c p : Row α) : Prop := gl O c + gl O (back c ++ p) = gl O p
def Cm (O : Ord α) (c p q : Row α) : Prop := Low O c p ∧ Low O c q ∧ ∀ a s, Un s → Frt O a s (back c ++ p) → Frt O a s (back c ++ q) → False
theorem act_part {c p q : Row α} (zc : NZ c) (hq : NF O q) : act O (c ++ (back c ++ p)) q = act O p q := by
  rw [act_app, act_app, act_back zc hq]
theorem act_part2 {c p q : Row α} (zc : NZ c) (hq : NF O q) : act O (back c ++ (c ++ p)) q = act O p q := by
  rw [act_app, act_app, act_bk zc hq]
theorem act_step {a : α} {s : Int} {c p : Row α} (hs : s ≠ 0) (zc : NZ c) : act O (back ((a, -s) :: c) ++ (a, -s) :: p) [] = act O (back c ++ p) [] := by
  have e : back ((a, -s) :: c) ++ (a, -s) :: p = back c ++ ((a, s) :: (a, -s) :: p) := by
    rw [back_cons, List.append_assoc]
    show back c ++ ((a, -(-s)) :: (a, -s) :: p) = _
    rw [Int.neg_neg]
  rw [e, act_app, act_cancel hs (nf_act (back_nz zc) n00), act_app]
theorem low_part {c p : Row α} (zc : NZ c) (zp : NZ p) : gl O p ≤ gl O c + gl O (back c ++ p) := by
  have h := gl_app (O := O) zc ((back_nz zc).app zp)
  rw [gl_congr (act_part zc n00)] at h
  exact h
theorem low_frt {a : α} {s : Int} {c p : Row α} (hs : Un s) (zc : NZ c) (zp : NZ p) (h : Low O c p) (hf : Frt O a s c) : Frt O a s p := by
  have z1 : NZ ((a, -s) :: c) := nzc hs.neg.ne zc
  have h1 := gl_app (O := O) z1 ((back_nz zc).app zp)
  have e : act O ((a, -s) :: c ++ (back c ++ p)) [] = act O ((a, -s) :: p) [] := by
    show act O (c ++ (back c ++ p)) (ins O (a, -s) []) = act O p (ins O (a, -s) [])
    exact act_part zc (nf_ins (x := (a, -s)) hs.neg.ne n00)
  rw [gl_congr e] at h1
  have h2 := unit_low (O := O) (a := a) hs zp
  unfold Frt Low at *
  omega
theorem low_step {a : α} {s : Int} {c p : Row α} (hs : Un s) (zc : NZ c) (zp : NZ p) (h : Low O c p) (hf : Frt O a s c) : Low O ((a, -s) :: c) ((a, -s) :: p) := by
  have hp := low_frt hs zc zp h hf
  unfold Low
  rw [gl_congr (act_step hs.ne zc)]
  unfold Frt Low at *
  omega
theorem cm_step {a : α} {s : Int} {c p q : Row α} (hs : Un s) (zc : NZ c) (zp : NZ p) (zq : NZ q) (h : Cm O c p q) (hf : Frt O a s c) : Cm O ((a, -s) :: c) ((a, -s) :: p) ((a, -s) :: q) := by
  have z1 : NZ (back ((a, -s) :: c)) := back_nz (nzc hs.neg.ne zc)
  refine ⟨low_step hs zc zp h.1 hf, low_step hs zc zq h.2.1 hf, fun b t ht h1 h2 => h.2.2 b t ht ?_ ?_⟩
  · exact (frt_congr ht (z1.app (nzc hs.neg.ne zp)) ((back_nz zc).app zp) (act_step hs.ne zc)).mp h1
  · exact (frt_congr ht (z1.app (nzc hs.neg.ne zq)) ((back_nz zc).app zq) (act_step hs.ne zc)).mp h2
theorem back_zero {c p : Row α} (zc : NZ c) (zp : NZ p) (h : gl O c = 0) : act O (back c ++ p) [] = act O p [] := by
  have e : act O (back c) [] = [] := gl_zero (back_nz zc) (by rw [gl_back zc]; exact h)
  rw [act_app, e]
/-- a unit that stands first in the whole, and not in a lower part, stands first in what is left -/
theorem frt_left : ∀ (n : Nat) {a : α} {s : Int} {c p : Row α}, gl O c = n → Un s → NZ c → NZ p → Low O c p → Frt O a s p → ¬ Frt O a s c → Frt O a s (back c ++ p)
  | 0, a, s, c, p, hn, hs, zc, zp, h, hp, hc => (frt_congr hs ((back_nz zc).app zp) zp (back_zero zc zp hn)).mpr hp
  | n + 1, a, s, c, p, hn, hs, zc, zp, h, hp, hc => by
    obtain ⟨b, t, ht, hb⟩ := frt_ex (O := O) zc (by omega)
    have hbp := low_frt ht zc zp h hb
    have hab : a ≠ b := fun e => by
      subst e
      have := frt_sign hs ht zp hp hbp
      subst this
      exact hc hb
    obtain ⟨hap, hp1⟩ := frt_two hs ht zp hab hp hbp
    have z1 : NZ ((b, -t) :: c) := nzc ht.neg.ne zc
    have zp1 : NZ ((b, -t) :: p) := nzc ht.neg.ne zp
    have h1 := low_step ht zc zp h hb
    have hn1 : gl O ((b, -t) :: c) = n := by
      unfold Frt at hb
      omega
    have hc1 : ¬ Frt O a s ((b, -t) :: c) := fun hf => by
      have e : act O ((b, t) :: (b, -t) :: c) [] = act O c [] := act_cancel ht.ne n00
      have := frt_cons (O := O) (t := t) hs ht z1 hap hf (by rw [gl_congr e, hn1, hn])
      exact hc ((frt_congr hs (nzc ht.ne z1) zc e).mp this)
    have := frt_left n hn1 hs z1 zp1 h1 hp1 hc1
    exact (frt_congr hs ((back_nz z1).app zp1) ((back_nz zc).app zp) (act_step ht.ne zc)).mp this
theorem cm_uniq : ∀ (n : Nat) {c d p q : Row α}, gl O c = n → NZ c → NZ d → NZ p → NZ q → Cm O c p q → Cm O d p q → act O c [] = act O d []
  | 0, c, d, p, q, hn, zc, zd, zp, zq, h1, h2 => by
    have e := gl_zero zc hn
    rw [e]
    refine Classical.byContradiction fun hd => ?_
    have hd : gl O d ≠ 0 := fun h => hd (gl_zero zd h).symm
    obtain ⟨b, t, ht, hb⟩ := frt_ex (O := O) zd hd
    exact h1.2.2 b t ht ((frt_congr ht ((back_nz zc).app zp) zp (back_zero zc zp hn)).mpr (low_frt ht zd zp h2.1 hb)) ((frt_congr ht ((back_nz zc).app zq) zq (back_zero zc zq hn)).mpr (low_frt ht zd zq h2.2.1 hb))
  | n + 1, c, d, p, q, hn, zc, zd, zp, zq, h1, h2 => by
    obtain ⟨a, s, hs, ha⟩ := frt_ex (O := O) zc (by omega)
    have hp := low_frt hs zc zp h1.1 ha
    have hq := low_frt hs zc zq h1.2.1 ha
    rcases Classical.em (Frt O a s d) with hd | hd
    · have z1 : NZ ((a, -s) :: c) := nzc hs.neg.ne zc
      have z2 : NZ ((a, -s) :: d) := nzc hs.neg.ne zd
      have := cm_uniq n (by unfold Frt at ha; omega) z1 z2 (nzc (x := (a, -s)) hs.neg.ne zp) (nzc (x := (a, -s)) hs.neg.ne zq) (cm_step hs zc zp zq h1 ha) (cm_step hs zd zp zq h2 hd)
      have e := cons_congr (x := (a, s)) hs.ne z1 z2 this
      rwa [act_cancel hs.ne n00, act_cancel hs.ne n00] at e
    · exact absurd (frt_left _ rfl hs zd zq h2.2.1 hq hd) fun hq' => h2.2.2 a s hs (frt_left _ rfl hs zd zp h2.1 hp hd) hq'
/-- what leads from one to another, if no unit stands first in both -/
theorem cm_back : ∀ (n : Nat) {p q : Row α}, gl O p = n → NZ p → NZ q → (∀ a s, Un s → Frt O a s p → Frt O a s q → False) → gl O (back p ++ q) = gl O p + gl O q
  | 0, p, q, hn, zp, zq, h => by
    rw [gl_congr (back_zero zp zq hn), hn, Nat.zero_add]
  | n + 1, p, q, hn, zp, zq, h => by
    obtain ⟨a, s, hs, ha⟩ := frt_ex (O := O) zp (by omega)
    have hq : ¬ Frt O a s q := fun hq => h a s hs ha hq
    have hq1 := (unit_or hs zq).resolve_left hq
    have z1 : NZ ((a, -s) :: p) := nzc hs.neg.ne zp
    have z2 : NZ ((a, -s) :: q) := nzc hs.neg.ne zq
    have g1 : gl O ((a, -s) :: p) = n := by
      unfold Frt at ha
      omega
    have ep : act O ((a, s) :: (a, -s) :: p) [] = act O p [] := act_cancel hs.ne n00
    have eq : act O ((a, s) :: (a, -s) :: q) [] = act O q [] := act_cancel hs.ne n00
    have fq : Frt O a (-s) ((a, -s) :: q) := by
      unfold Frt
      rw [Int.neg_neg, gl_congr eq]
      omega
    have := cm_back n g1 z1 z2 fun b t ht h1 h2 => by
      by_cases hab : b = a
      · subst hab
        have e := frt_sign ht hs.neg z2 h2 fq
        subst e
        unfold Frt at h1
        rw [Int.neg_neg, gl_congr ep] at h1
        omega
      · obtain ⟨hap, k⟩ := frt_two ht hs.neg z2 hab h2 fq
        rw [Int.neg_neg] at k
        have kq := (frt_congr ht (nzc hs.ne z2) zq eq).mp k
        have kp := frt_cons (O := O) (t := s) ht hs z1 hap h1 (by rw [gl_congr ep]; omega)
        exact h b t ht ((frt_congr ht (nzc hs.ne z1) zp ep).mp kp) kq
    rw [gl_congr (act_step hs.ne zp)] at this
    omega
theorem act_over {c p q : Row α} (zc : NZ c) (zp : NZ p) (zq : NZ q) : act O (back (back c ++ p) ++ (back c ++ q)) [] = act O (back p ++ q) [] := by
  rw [back_app, back_back, List.append_assoc, act_app, act_part zc (nf_act (back_nz zp) n00), act_app]
theorem cm_far {c p q : Row α} (zc : NZ c) (zp : NZ p) (zq : NZ q) (h : Cm O c p q) : gl O (back p ++ q) = gl O (back c ++ p) + gl O (back c ++ q) := by
  rw [← gl_congr (act_over zc zp zq)]
  exact cm_back _ rfl ((back_nz zc).app zp) ((back_nz zc).app zq) h.2.2
theorem cm_of {c p q : Row α} (zc : NZ c) (zp : NZ p) (zq : NZ q) (h1 : Low O c p) (h2 : Low O c q) (h3 : gl O (back p ++ q) = gl O (back c ++ p) + gl O (back c ++ q)) : Cm O c p q := by
  refine ⟨h1, h2, fun a s hs fp fq => ?_⟩
  have z1 := (back_nz zc).app zp
  have z2 := (back_nz zc).app zq
  have e := act_step (O := O) (a := a) (s := s) (p := back c ++ q) hs.ne z1
  have k := gl_app (O := O) (back_nz (nzc (x := (a, -s)) hs.neg.ne z1)) (nzc (x := (a, -s)) hs.neg.ne z2)
  rw [gl_congr e, gl_congr (act_over zc zp zq), gl_back (nzc (x := (a, -s)) hs.neg.ne z1)] at k
  unfold Frt at fp fq
  omega
/-! ### middles -/
structure Med (O : Ord α) (x y z m : Row α) : Prop where
  xy : far O x m + far O m y = far O x y
  xz : far O x m + far O m z = far O x z
  yz : far O y m + far O m z = far O y z
theorem far_gl {l m : Row α} : far O l m = gl O (back l ++ m) := rfl
theorem act_via {x m y : Row α} (zx : NZ x) (zm : NZ m) : act O (back (back x ++ m) ++ (back x ++ y)) [] = act O (back m ++ y) [] := by
  rw [back_app, back_back, List.append_assoc, act_app, act_part zx (nf_act (back_nz zm) n00), act_app]
theorem med_cm {x y z m : Row α} (zx : NZ x) (zy : NZ y) (zz : NZ z) (zm : NZ m) : Med O x y z m ↔ Cm O (back x ++ m) (back x ++ y) (back x ++ z) := by
  have zc := (back_nz zx).app zm
  have zp := (back_nz zx).app zy
  have zq := (back_nz zx).app zz
  have ey := gl_congr (act_via (O := O) (y := y) zx zm)
  have ez := gl_congr (act_via (O := O) (y := z) zx zm)
  have eyz := gl_congr (act_via (O := O) (y := z) zx zy)
  have es := far_symm (O := O) zy zm
  simp only [far_gl] at es
  constructor
  · intro h
    obtain ⟨h1, h2, h3⟩ := h
    simp only [far_gl] at h1 h2 h3
    refine cm_of zc zp zq ?_ ?_ ?_
    · unfold Low
      rw [ey]
      exact h1
    · unfold Low
      rw [ez]
      exact h2
    · rw [ey, ez, eyz, ← es]
      exact h3.symm
  · intro h
    have h3 := cm_far zc zp zq h
    obtain ⟨h1, h2, _⟩ := h
    unfold Low at h1 h2
    rw [ey] at h1 h3
    rw [ez] at h2 h3
    rw [eyz] at h3
    exact ⟨h1, h2, by simp only [far_gl]; omega⟩
/-- there is one middle alone -/
theorem med_uniq {x y z m n : Row α} (zx : NZ x) (zy : NZ y) (zz : NZ z) (zm : NZ m) (zn : NZ n) (h1 : Med O x y z m) (h2 : Med O x y z n) : act O m [] = act O n [] := by
  have e := cm_uniq _ rfl ((back_nz zx).app zm) ((back_nz zx).app zn) ((back_nz zx).app zy) ((back_nz zx).app zz) ((med_cm zx zy zz zm).mp h1) ((med_cm zx zy zz zn).mp h2)
  have k := eq_app (O := O) (u := x) (u' := x) zx ((back_nz zx).app zm) ((back_nz zx).app zn) rfl e
  rwa [act_part zx n00, act_part zx n00] at k
theorem med_of {x y z c : Row α} (zx : NZ x) (zy : NZ y) (zz : NZ z) (zc : NZ c) (h : Cm O c (back x ++ y) (back x ++ z)) : Med O x y z (x ++ c) := by
  refine (med_cm zx zy zz (zx.app zc)).mpr ?_
  have e : act O (back x ++ (x ++ c)) [] = act O c [] := act_part2 zx n00
  have zp := (back_nz zx).app zy
  have zq := (back_nz zx).app zz
  have zb := (back_nz zx).app (zx.app zc)
  have eb : ∀ {w : Row α}, act O (back (back x ++ (x ++ c)) ++ w) [] = act O (back c ++ w) [] := fun {w} => by
    rw [act_app, act_back_eq zb zc e n00, act_app]
  refine ⟨?_, ?_, fun a s hs f1 f2 => h.2.2 a s hs ?_ ?_⟩
  · unfold Low
    rw [gl_congr e, gl_congr eb]
    exact h.1
  · unfold Low
    rw [gl_congr e, gl_congr eb]
    exact h.2.1
  · exact (frt_congr hs ((back_nz zb).app zp) ((back_nz zc).app zp) eb).mp f1
  · exact (frt_congr hs ((back_nz zb).app zq) ((back_nz zc).app zq) eb).mp f2
theorem med_swap {x y z m : Row α} (zx : NZ x) (zy : NZ y) (zz : NZ z) (zm : NZ m) (h : Med O x y z m) : Med O y x z m := by
  obtain ⟨h1, h2, h3⟩ := h
  have a := far_symm (O := O) zx zm
  have b := far_symm (O := O) zm zy
  have c := far_symm (O := O) zx zy
  exact ⟨by omega, h3, h2⟩
theorem med_last {x y z m : Row α} (zx : NZ x) (zy : NZ y) (zz : NZ z) (zm : NZ m) (h : Med O x y z m) : Med O x z y m := by
  obtain ⟨h1, h2, h3⟩ := h
  have a := far_symm (O := O) zy zm
  have b := far_symm (O := O) zm zz
  have c := far_symm (O := O) zy zz
  exact ⟨h2, h1, by omega⟩
theorem med_same {x z : Row α} (zx : NZ x) (zz : NZ z) : Med O x x z x := by
  have h := far_self (O := O) zx
  exact ⟨by omega, by omega, by omega⟩
end
end XM
set_option linter.all false
/-! the greatest lower part that two piles have in common, found in one pass -/
namespace XM
section
variable {α : Type} [DecidableEq α] {O : Ord α}
/-- the lesser of two by size, if they have one sign -/
def shr (s t : Int) : Int := max 0 (min s t) + min 0 (max s t)
theorem shr_sg {s t : Int} (h : Sg s t) : shr s t ≠ 0 ∧ sg (shr s t) = sg s ∧ ((shr s t = s) ∨ (shr s t = t ∧ (s - shr s t).natAbs + (shr s t).natAbs = s.natAbs ∧ sg (s - shr s t) = sg s ∧ s - shr s t ≠ 0)) ∧ (t - shr s t).natAbs + (shr s t).natAbs = t.natAbs := by
  unfold Sg at h
  unfold shr sg
  rcases h with ⟨h1, h2⟩ | ⟨h1, h2⟩
  · have e1 : min 0 (max s t) = 0 := by omega
    have e2 : max 0 (min s t) = min s t := by omega
    rw [e1, e2]
    refine ⟨by omega, ?_, ?_, by omega⟩
    · rw [if_pos (by omega), if_pos h1]
    · by_cases q : s ≤ t
      · exact .inl (by omega)
      · refine .inr ⟨by omega, by omega, ?_, by omega⟩
        rw [if_pos (by omega), if_pos h1]
  · have e1 : max 0 (min s t) = 0 := by omega
    have e2 : min 0 (max s t) = max s t := by omega
    rw [e1, e2]
    refine ⟨by omega, ?_, ?_, by omega⟩
    · rw [if_neg (by omega), if_neg (by omega)]
    · by_cases q : t ≤ s
      · exact .inl (by omega)
      · refine .inr ⟨by omega, by omega, ?_, by omega⟩
        rw [if_neg (by omega), if_neg (by omega)]
theorem shr_zero {s t : Int} (h : ¬ Sg s t) : shr s t = 0 := by
  unfold Sg at h
  unfold shr
  omega
theorem sg_same {s t : Int} (hs : s ≠ 0) (ht : t ≠ 0) : Sg s t ↔ sg s = sg t := by
  unfold Sg sg
  constructor
  · intro h
    rcases h with h | h
    · rw [if_pos h.1, if_pos h.2]
    · rw [if_neg (by omega), if_neg (by omega)]
  · intro h
    split at h <;> split at h <;> omega
abbrev Cst (α : Type) := Row α × Row α × Row α
/-- how much of a piece is in common -/
def cpart (O : Ord α) (r rest : Row α) (x : α × Int) : Int := if r.any (fun w => O.tc w.1 x.1) then 0 else shr x.2 ((nearS O x.1 rest).getD 0)
def cstep (O : Ord α) (st : Cst α) (x : α × Int) : Cst α :=
  (if cpart O st.2.1 st.2.2 x ≠ 0 then st.1 ++ [(x.1, cpart O st.2.1 st.2.2 x)] else st.1,
   if cpart O st.2.1 st.2.2 x ≠ x.2 then st.2.1 ++ [(x.1, x.2 - cpart O st.2.1 st.2.2 x)] else st.2.1,
   if cpart O st.2.1 st.2.2 x ≠ 0 then (act O ((x.1, -cpart O st.2.1 st.2.2 x) :: st.2.2) []).reverse else st.2.2)
def cgo (O : Ord α) (other : Row α) (one : Row α) : Cst α := one.foldl (cstep O) ([], [], other)
def cmn (O : Ord α) (one other : Row α) : Row α := (cgo O other one).1
structure CI (O : Ord α) (one other todo : Row α) (st : Cst α) : Prop where
  zc : NZ st.1
  zr : NZ st.2.1
  zt : NZ st.2.2
  e1 : act O (st.1 ++ (st.2.1 ++ todo)) [] = act O one []
  l1 : ln st.1 + (ln st.2.1 + ln todo) = gl O one
  e2 : act O (back st.1 ++ other) [] = act O st.2.2 []
  l2 : ln st.1 + ln st.2.2 = gl O other
  p2 : pl O st.2.2 = true
  no : ∀ a s t, nearS O a st.2.1 = some s → nearS O a st.2.2 = some t → ¬ Sg s t
theorem nearS_mem {a : α} {s : Int} {r : Row α} (h : nearS O a r = some s) : (a, s) ∈ r := by
  obtain ⟨m, v, e, _⟩ := nearS_split h
  rw [e]
  simp
theorem nearS_snoc {b : α} {x : α × Int} {s : Int} {r : Row α} (h : nearS O b (r ++ [x]) = some s) : nearS O b r = some s ∨ (b = x.1 ∧ s = x.2 ∧ ∀ w ∈ r, O.tc w.1 x.1 = false) := by
  rcases Classical.em (∃ y ∈ r, O.tc y.1 b = true) with q | q
  · rw [nearS_hit q] at h
    exact .inl h
  · have hr : ∀ y ∈ r, O.tc y.1 b = false := fun y hy => Bool.eq_false_iff.mpr fun z => q ⟨y, hy, z⟩
    rw [nearS_apart hr] at h
    unfold nearS at h
    by_cases e : x.1 = b
    · rw [if_pos e] at h
      exact .inr ⟨e.symm, (Option.some.inj h).symm, fun w hw => by rw [e]; exact hr w hw⟩
    · rw [if_neg e] at h
      split at h <;> cases h
theorem pl_red {l : Row α} (zl : NZ l) (h : pl O l = true) : gl O l = ln l := ln_pile zl h
theorem pl_split {m v : Row α} {a : α} {u : Int} (h : pl O (m ++ (a, u) :: v) = true) : nearS O a v = none := by
  have h1 := pl_right h
  have : (near O a v).isNone = true := by
    unfold pl at h1
    rw [Bool.and_eq_true] at h1
    first | exact h1.1 | (have := h1.1; simpa using this)
  exact nearS_none.mpr (Option.isNone_iff_eq_none.mp this)
theorem ci_step {one other todo : Row α} {st : Cst α} {x : α × Int} (hx : x.2 ≠ 0) (zo : NZ other) (h : CI O one other (x :: todo) st) : CI O one other todo (cstep O st x) := by
  obtain ⟨c, r, rest⟩ := st
  obtain ⟨a, t⟩ := x
  obtain ⟨zc, zr, zt, e1, l1, e2, l2, p2, no⟩ := h
  have zc : NZ c := zc
  have zr : NZ r := zr
  have zt : NZ rest := zt
  have e1 : act O (c ++ (r ++ (a, t) :: todo)) [] = act O one [] := e1
  have l1 : ln c + (ln r + ln ((a, t) :: todo)) = gl O one := l1
  have e2 : act O (back c ++ other) [] = act O rest [] := e2
  have l2 : ln c + ln rest = gl O other := l2
  have p2 : pl O rest = true := p2
  have no : ∀ b s t, nearS O b r = some s → nearS O b rest = some t → ¬ Sg s t := no
  have hx : t ≠ 0 := hx
  have hln : ln ((a, t) :: todo) = t.natAbs + ln todo := rfl
  unfold cstep
  show CI O one other todo (if cpart O r rest (a, t) ≠ 0 then c ++ [(a, cpart O r rest (a, t))] else c, if cpart O r rest (a, t) ≠ t then r ++ [(a, t - cpart O r rest (a, t))] else r, if cpart O r rest (a, t) ≠ 0 then (act O ((a, -cpart O r rest (a, t)) :: rest) []).reverse else rest)
  -- nothing is shared
  have none_ : cpart O r rest (a, t) = 0 → (∀ u, nearS O a rest = some u → (∀ w ∈ r, O.tc w.1 a = false) → ¬ Sg t u) → CI O one other todo (if cpart O r rest (a, t) ≠ 0 then c ++ [(a, cpart O r rest (a, t))] else c, if cpart O r rest (a, t) ≠ t then r ++ [(a, t - cpart O r rest (a, t))] else r, if cpart O r rest (a, t) ≠ 0 then (act O ((a, -cpart O r rest (a, t)) :: rest) []).reverse else rest) := fun h0 hn => by
    rw [h0, if_neg (by simp), if_pos (by omega), if_neg (by simp), Int.sub_zero]
    refine ⟨zc, zr.app (nz1 hx), zt, ?_, ?_, e2, l2, p2, fun b s u h1 h2 => ?_⟩
    · show act O (c ++ ((r ++ [(a, t)]) ++ todo)) [] = _
      rw [List.append_assoc]
      exact e1
    · show ln c + (ln (r ++ [(a, t)]) + ln todo) = _
      rw [ln_app]
      have : ln [(a, t)] = t.natAbs + 0 := rfl
      omega
    · rcases nearS_snoc h1 with k | ⟨rfl, rfl, k⟩
      · exact no b s u k h2
      · exact hn u h2 k
  by_cases hb : (r.any fun w => O.tc w.1 a) = true
  · have h0 : cpart O r rest (a, t) = 0 := by
      unfold cpart
      rw [if_pos hb]
    refine none_ h0 fun u _ hr => ?_
    obtain ⟨w, hw, k⟩ := List.any_eq_true.mp hb
    rw [hr w hw] at k
    cases k
  have hra : ∀ w ∈ r, O.tc w.1 a = false := fun w hw => Bool.eq_false_iff.mpr fun k => hb (List.any_eq_true.mpr ⟨w, hw, k⟩)
  have hp : cpart O r rest (a, t) = shr t ((nearS O a rest).getD 0) := by
    unfold cpart
    rw [if_neg hb]
  cases hu : nearS O a rest with
  | none =>
    refine none_ (by rw [hp, hu]; exact shr_zero fun k => by unfold Sg at k; simp at k) fun u q _ => by rw [hu] at q; cases q
  | some u =>
  by_cases hsg : Sg t u
  case neg =>
    refine none_ (by rw [hp, hu]; exact shr_zero hsg) fun u' q _ => by
      rw [hu] at q
      cases q
      exact hsg
  obtain ⟨q1, q2, q3, q4⟩ := shr_sg hsg
  have hp : cpart O r rest (a, t) = shr t u := by
    rw [hp, hu]
    rfl
  clear none_
  rw [hp]
  generalize shr t u = part at hp q1 q2 q3 q4 ⊢
  rw [if_pos q1, if_pos q1]
  have zB : NZ (if part ≠ t then [(a, t - part)] else []) := by
    by_cases k : part ≠ t
    · rw [if_pos k]
      exact nz1 (by show t - part ≠ 0; omega)
    · rw [if_neg k]
      exact nz0
  have er : (if part ≠ t then r ++ [(a, t - part)] else r) = r ++ (if part ≠ t then [(a, t - part)] else []) := by
    by_cases k : part ≠ t
    · rw [if_pos k, if_pos k]
    · rw [if_neg k, if_neg k, List.append_nil]
  rw [er]
  -- the rest, with the shared part gone
  obtain ⟨m, v, em, hm⟩ := nearS_split hu
  have hu0 : u ≠ 0 := zt (a, u) (by rw [em]; simp)
  have zm : NZ m := by
    rw [em] at zt
    exact zt.left
  have zv : NZ v := by
    rw [em] at zt
    exact nzt zt.right
  have np : -part ≠ 0 := by omega
  have zR : NZ (if -part + u = 0 then [] else [(a, -part + u)]) := by
    by_cases k : -part + u = 0
    · rw [if_pos k]
      exact nz0
    · rw [if_neg k]
      exact nz1 k
  have z1 : NZ ((a, -part) :: rest) := nzc np zt
  have m1 : act O ((a, -part) :: (m ++ (a, u) :: v)) [] = act O ((if -part + u = 0 then [] else [(a, -part + u)]) ++ (m ++ v)) [] := act_meet (O := O) (u := []) (m := m) (v := v) (a := a) (s := -part) (t := u) (r := []) hm np hu0 nz0 zm n00
  have m2 : act O (m ++ ((if -part + u = 0 then [] else [(a, -part + u)]) ++ v)) [] = act O ((if -part + u = 0 then [] else [(a, -part + u)]) ++ (m ++ v)) [] := by
    by_cases k : -part + u = 0
    · rw [if_pos k]
      rfl
    · rw [if_neg k]
      exact act_move (O := O) (u := []) (p := m) (v := v) (x := (a, -part + u)) hm nz0 zm n00
  have zR' : NZ (m ++ ((if -part + u = 0 then [] else [(a, -part + u)]) ++ v)) := zm.app (zR.app zv)
  have eR : act O (m ++ ((if -part + u = 0 then [] else [(a, -part + u)]) ++ v)) [] = act O ((a, -part) :: rest) [] := by
    rw [m2, ← m1, ← em]
  have lR : ln (m ++ ((if -part + u = 0 then [] else [(a, -part + u)]) ++ v)) + part.natAbs = ln rest := by
    rw [em, ln_app, ln_app, ln_app]
    have : ln ((a, u) :: v) = u.natAbs + ln v := rfl
    by_cases k : -part + u = 0
    · rw [if_pos k]
      have : ln ([] : Row α) = 0 := rfl
      omega
    · rw [if_neg k]
      have : ln [(a, -part + u)] = (-part + u).natAbs + 0 := rfl
      omega
  have gR : gl O (m ++ ((if -part + u = 0 then [] else [(a, -part + u)]) ++ v)) = ln (m ++ ((if -part + u = 0 then [] else [(a, -part + u)]) ++ v)) := by
    have k1 := gl_le (O := O) (l := m ++ ((if -part + u = 0 then [] else [(a, -part + u)]) ++ v))
    have k2 := gl_cons (O := O) (x := (a, part)) (l := (a, -part) :: rest) q1 z1
    rw [gl_congr (act_cancel q1 n00), pl_red zt p2, ← gl_congr eR] at k2
    have k2 : ln rest ≤ part.natAbs + gl O (m ++ ((if -part + u = 0 then [] else [(a, -part + u)]) ++ v)) := k2
    omega
  have zN : NZ (pile O ((a, -part) :: rest)) := pile_nz z1
  have pN : pl O (pile O ((a, -part) :: rest)) = true := pile_pl z1
  have eN : act O (pile O ((a, -part) :: rest)) [] = act O ((a, -part) :: rest) [] := pile_act z1 n00
  have lN : ln (pile O ((a, -part) :: rest)) + part.natAbs = ln rest := by
    rw [pile_ln, ← gl_congr eR, gR]
    exact lR
  show CI O one other todo (c ++ [(a, part)], r ++ (if part ≠ t then [(a, t - part)] else []), pile O ((a, -part) :: rest))
  have lq : part.natAbs + ln (if part ≠ t then [(a, t - part)] else []) = t.natAbs := by
    by_cases k : part ≠ t
    · rw [if_pos k]
      have : ln [(a, t - part)] = (t - part).natAbs + 0 := rfl
      rcases q3 with q3 | q3
      · exact absurd q3 k
      · omega
    · rw [if_neg k]
      have : ln ([] : Row α) = 0 := rfl
      have : part = t := Classical.not_not.mp k
      omega
  -- the sign of what is met in the rest
  have sgn : ∀ b w, nearS O b (pile O ((a, -part) :: rest)) = some w → ∃ w', nearS O b (m ++ ((if -part + u = 0 then [] else [(a, -part + u)]) ++ v)) = some w' ∧ sg w' = sg w := fun b w hw =>
    (frt_iff zR' gR (sg_un w)).mp ((frt_congr (sg_un w) zN zR' (eN.trans eR.symm)).mp (frt_of zN (pl_red zN pN) hw))
  refine ⟨zc.app (nz1 q1), zr.app zB, zN, ?_, ?_, ?_, ?_, pN, fun b s w h1 h2 => ?_⟩
  · show act O ((c ++ [(a, part)]) ++ ((r ++ (if part ≠ t then [(a, t - part)] else [])) ++ todo)) [] = _
    rw [← e1, List.append_assoc, List.append_assoc, act_app, act_app (l := c)]
    have hN : NF O (act O c []) := nf_act zc n00
    have k1 := act_move (O := O) (u := []) (p := r) (v := todo) (x := (a, t)) (r := act O c []) hra nz0 zr hN
    rw [List.nil_append, List.nil_append] at k1
    rw [k1]
    show act O ((a, part) :: (r ++ ((if part ≠ t then [(a, t - part)] else []) ++ todo))) (act O c []) = act O ((a, t) :: (r ++ todo)) (act O c [])
    by_cases k : part ≠ t
    · rw [if_pos k]
      have k2 := act_move (O := O) (u := [(a, part)]) (p := r) (v := todo) (x := (a, t - part)) (r := act O c []) hra (nz1 q1) zr hN
      have k2 : act O ((a, part) :: (r ++ (a, t - part) :: todo)) (act O c []) = act O ((a, part) :: (a, t - part) :: (r ++ todo)) (act O c []) := k2
      show act O ((a, part) :: (r ++ (a, t - part) :: todo)) (act O c []) = _
      rw [k2, act_join1 (O := O) (v := r ++ todo) q1 (by omega) hN, if_neg (by omega), show part + (t - part) = t by omega]
      rfl
    · rw [if_neg k, Classical.not_not.mp k]
      rfl
  · show ln (c ++ [(a, part)]) + (ln (r ++ (if part ≠ t then [(a, t - part)] else [])) + ln todo) = _
    rw [ln_app, ln_app]
    have : ln [(a, part)] = part.natAbs + 0 := rfl
    omega
  · show act O (back (c ++ [(a, part)]) ++ other) [] = act O (pile O ((a, -part) :: rest)) []
    rw [eN, back_app, List.append_assoc]
    show act O ((a, -part) :: (back c ++ other)) [] = act O ((a, -part) :: rest) []
    exact cons_congr (x := (a, -part)) np ((back_nz zc).app zo) zt e2
  · show ln (c ++ [(a, part)]) + ln (pile O ((a, -part) :: rest)) = _
    rw [ln_app]
    have : ln [(a, part)] = part.natAbs + 0 := rfl
    omega
  · have h1 : nearS O b (r ++ (if part ≠ t then [(a, t - part)] else [])) = some s := h1
    have h2 : nearS O b (pile O ((a, -part) :: rest)) = some w := h2
    have hw0 : w ≠ 0 := zN (b, w) (nearS_mem h2)
    obtain ⟨w', k1, k2⟩ := sgn b w h2
    have hw1 : w' ≠ 0 := zR' (b, w') (nearS_mem k1)
    have old : nearS O b r = some s → ¬ Sg s w := fun hs => by
      have hs0 : s ≠ 0 := zr (b, s) (nearS_mem hs)
      have hab : O.tc a b = false := apart_symm (hra (b, s) (nearS_mem hs))
      rw [nearS_out (t := u) hab (by
        intro y hy
        by_cases q : -part + u = 0
        · rw [if_pos q] at hy
          cases hy
        · rw [if_neg q] at hy
          rw [List.mem_singleton.mp hy]), ← em] at k1
      have := no b s w' hs k1
      rw [sg_same hs0 hw1] at this
      rw [sg_same hs0 hw0, ← k2]
      exact this
    by_cases k : part ≠ t
    · rw [if_pos k] at h1
      rcases nearS_snoc h1 with h1 | ⟨eb, _, _⟩
      · exact old h1
      · have eb : b = a := eb
        subst eb
        have epu : part = u := (q3.resolve_left k).1
        rw [if_pos (by omega), List.nil_append, nearS_apart hm, pl_split (by rw [← em]; exact p2)] at k1
        cases k1
    · rw [if_neg k, List.append_nil] at h1
      exact old h1
theorem ci_fold {one other : Row α} (zo : NZ other) : ∀ (todo : Row α) {more : Row α} {st : Cst α}, NZ todo → CI O one other (todo ++ more) st → CI O one other more (todo.foldl (cstep O) st)
  | [], _, _, _, h => h
  | x :: todo, more, st, z, h => ci_fold zo todo (nzt z) (ci_step (z x List.mem_cons_self) zo h)
theorem ci_start {one other : Row α} (zo : NZ other) (h1 : gl O one = ln one) (h2 : pl O other = true) : CI O one other one ([], [], other) :=
  ⟨nz0, nz0, zo, rfl, by show 0 + (0 + ln one) = _; omega, rfl, by show 0 + ln other = _; rw [Nat.zero_add, pl_red zo h2], h2, fun _ _ _ h => nomatch h⟩
/-- at each place of the pass -/
theorem ci_at {one other : Row α} (z1 : NZ one) (zo : NZ other) (h1 : gl O one = ln one) (h2 : pl O other = true) (i : Nat) : CI O one other (one.drop i) ((one.take i).foldl (cstep O) ([], [], other)) :=
  ci_fold zo _ (fun x hx => z1 x (List.mem_of_mem_take hx)) (by rw [List.take_append_drop]; exact ci_start zo h1 h2)
theorem cgo_ci {one other : Row α} (z1 : NZ one) (zo : NZ other) (h1 : gl O one = ln one) (h2 : pl O other = true) : CI O one other [] (cgo O other one) := by
  have := ci_at z1 zo h1 h2 one.length
  rwa [List.drop_length, List.take_length] at this
theorem cmn_cm {one other : Row α} (z1 : NZ one) (zo : NZ other) (h1 : gl O one = ln one) (h2 : pl O other = true) : Cm O (cmn O one other) one other := by
  have h := cgo_ci (O := O) z1 zo h1 h2
  show Cm O (cgo O other one).1 one other
  generalize cgo O other one = st at h
  obtain ⟨zc, zr, zt, e1, l1, e2, l2, p2, no⟩ := h
  rw [List.append_nil] at e1
  have l1 : ln st.1 + (ln st.2.1 + 0) = gl O one := l1
  have er : act O (back st.1 ++ one) [] = act O st.2.1 [] := by
    have k : act O (back st.1 ++ (st.1 ++ st.2.1)) [] = act O st.2.1 [] := act_part2 zc n00
    rw [← k]
    exact eq_app (O := O) (u := back st.1) (u' := back st.1) (back_nz zc) z1 (zc.app zr) rfl e1.symm
  have g1 := gl_app (O := O) zc zr
  rw [gl_congr e1] at g1
  have g2 := gl_le (O := O) (l := st.1)
  have g3 := gl_le (O := O) (l := st.2.1)
  have hc : gl O st.1 = ln st.1 := by omega
  have hr : gl O st.2.1 = ln st.2.1 := by omega
  have ht := pl_red zt p2
  refine ⟨?_, ?_, fun a s hs f1 f2 => ?_⟩
  · unfold Low
    rw [gl_congr er]
    omega
  · unfold Low
    rw [gl_congr e2]
    omega
  · obtain ⟨t, k1, k2⟩ := (frt_iff zr hr hs).mp ((frt_congr hs ((back_nz zc).app z1) zr er).mp f1)
    obtain ⟨u, k3, k4⟩ := (frt_iff zt ht hs).mp ((frt_congr hs ((back_nz zc).app zo) zt e2).mp f2)
    exact no a t u k1 k3 ((sg_same (zr (a, t) (nearS_mem k1)) (zt (a, u) (nearS_mem k3))).mpr (k2.trans k4.symm))
theorem cm_congr {c p q p' q' : Row α} (zc : NZ c) (zp : NZ p) (zq : NZ q) (zp' : NZ p') (zq' : NZ q') (ep : act O p [] = act O p' []) (eq : act O q [] = act O q' []) (h : Cm O c p q) : Cm O c p' q' := by
  have zb := back_nz zc
  have kp := eq_app (O := O) (u := back c) (u' := back c) zb zp zp' rfl ep
  have kq := eq_app (O := O) (u := back c) (u' := back c) zb zq zq' rfl eq
  obtain ⟨h1, h2, h3⟩ := h
  refine ⟨?_, ?_, fun a s hs f1 f2 => h3 a s hs ((frt_congr hs (zb.app zp) (zb.app zp') kp).mpr f1) ((frt_congr hs (zb.app zq) (zb.app zq') kq).mpr f2)⟩
  · unfold Low at h1 ⊢
    rwa [← gl_congr kp, ← gl_congr ep]
  · unfold Low at h2 ⊢
    rwa [← gl_congr kq, ← gl_congr eq]
theorem far_congr {l l' m m' : Row α} (zl : NZ l) (zl' : NZ l') (zm : NZ m) (zm' : NZ m') (h1 : act O l [] = act O l' []) (h2 : act O m [] = act O m' []) : far O l m = far O l' m' := by
  show gl O (back l ++ m) = gl O (back l' ++ m')
  refine gl_congr (eq_app (back_nz zl') zm zm' ?_ h2)
  exact act_back_eq zl zl' h1 n00
theorem med_congr {x y z m x' y' z' m' : Row α} (zx : NZ x) (zy : NZ y) (zz : NZ z) (zm : NZ m) (zx' : NZ x') (zy' : NZ y') (zz' : NZ z') (zm' : NZ m') (ex : act O x [] = act O x' []) (ey : act O y [] = act O y' []) (ez : act O z [] = act O z' []) (em : act O m [] = act O m' []) (h : Med O x y z m) : Med O x' y' z' m' := by
  obtain ⟨h1, h2, h3⟩ := h
  rw [far_congr zx zx' zm zm' ex em, far_congr zm zm' zy zy' em ey, far_congr zx zx' zy zy' ex ey] at h1
  rw [far_congr zx zx' zm zm' ex em, far_congr zm zm' zz zz' em ez, far_congr zx zx' zz zz' ex ez] at h2
  rw [far_congr zy zy' zm zm' ey em, far_congr zm zm' zz zz' em ez, far_congr zy zy' zz zz' ey ez] at h3
  exact ⟨h1, h2, h3⟩
/-- the middle as it is reckoned: of three piles -/
def mid (O : Ord α) (x y z : Row α) : Row α := pile O (x ++ cmn O (pile O (back x ++ y)) (pile O (back x ++ z)))
theorem cmn_nz {x y : Row α} (zx : NZ x) (zy : NZ y) (h1 : gl O x = ln x) (h2 : pl O y = true) : NZ (cmn O x y) := (cgo_ci (O := O) zx zy h1 h2).zc
theorem mid_med {x y z : Row α} (zx : NZ x) (zy : NZ y) (zz : NZ z) : NZ (mid O x y z) ∧ Med O x y z (mid O x y z) := by
  have zp := (back_nz zx).app zy
  have zq := (back_nz zx).app zz
  have zP := pile_nz (O := O) zp
  have zQ := pile_nz (O := O) zq
  have zc := cmn_nz (O := O) zP zQ (pile_gl zp) (pile_pl zq)
  have h := cm_congr zc zP zQ zp zq (pile_act zp n00) (pile_act zq n00) (cmn_cm (O := O) zP zQ (pile_gl zp) (pile_pl zq))
  have zm := zx.app zc
  refine ⟨pile_nz zm, ?_⟩
  exact med_congr zx zy zz zm zx zy zz (pile_nz zm) rfl rfl rfl (pile_act zm n00).symm (med_of zx zy zz zc h)
/-- in whatever order the three are told -/
theorem mid_eq {x y z m : Row α} (zx : NZ x) (zy : NZ y) (zz : NZ z) (zm : NZ m) (h : Med O x y z m) : mid O x y z = pile O m := by
  obtain ⟨z1, h1⟩ := mid_med (O := O) zx zy zz
  have zp := (back_nz zx).app zy
  have zq := (back_nz zx).app zz
  have zc := cmn_nz (O := O) (pile_nz (O := O) zp) (pile_nz (O := O) zq) (pile_gl zp) (pile_pl zq)
  have e := med_uniq zx zy zz z1 zm h1 h
  unfold mid at e ⊢
  rw [pile_act (zx.app zc) n00] at e
  unfold pile at e ⊢
  rw [e]
end
end XM
set_option Elab.async false
set_option linter.all false
set_option maxRecDepth 100000
set_option maxHeartbeats 4000000
namespace XB
open PySem PySem.Spec PyProof.Rows L2
theorem dstep_of {K : PySem.W.Frag} {H H' : Hp} {p : Addr} (s : Str × Int) (e : H p = some (.tup [.str s.1, .int s.2])) (k : Same H H') : Dp K H' (.ref p) (dStep s) := Dp.of_step ((Tk.of k).sqT (SqT.of e))
theorem nearS_at {F : Fld} (ok : F.Ok) {a : Str} {l : List (Str × Int)} {i : Nat} {s : Str × Int} (k : l[i]? = some s) (hs : s.1 ∈ F.names) (hn : (touchL F a).contains s.1 = false) : XM.nearS (OF F) a (l.drop i) = XM.nearS (OF F) a (l.drop (i + 1)) := by
  have hlt := (List.getElem?_eq_some_iff.mp k).1
  have e : l.drop i = s :: l.drop (i + 1) := by
    rw [List.drop_eq_getElem_cons hlt, (List.getElem?_eq_some_iff.mp k).2]
  rw [mem_touch ok hs] at hn
  rw [e, XM.nearS, if_neg (XM.ne_of_apart hn), if_neg (by rw [hn]; exact Bool.false_ne_true)]
theorem nearS_here {F : Fld} (ok : F.Ok) {a : Str} {l : List (Str × Int)} {i : Nat} {s : Str × Int} (k : l[i]? = some s) (hs : s.1 ∈ F.names) (hn : (touchL F a).contains s.1 = true) : (XM.nearS (OF F) a (l.drop i)).getD 0 = if s.1 = a then s.2 else 0 := by
  have hlt := (List.getElem?_eq_some_iff.mp k).1
  have e : l.drop i = s :: l.drop (i + 1) := by
    rw [List.drop_eq_getElem_cons hlt, (List.getElem?_eq_some_iff.mp k).2]
  rw [mem_touch ok hs] at hn
  rw [e, XM.nearS]
  by_cases q : s.1 = a
  · rw [if_pos q, if_pos q]
    rfl
  · rw [if_neg q, if_neg q, if_pos hn]
    rfl
section
variable {P : Program} {w : World} {K : PySem.W.Frag} {mg : Str → Option Value} {base : Heap}
def spFrontTimes (K : PySem.W.Frag) (F : Fld) : Sp := fun vs H Q _ => ∃ (t d : Addr) (a : Str) (l : List (Str × Int)), vs = [.ref t, .ref d, .str a] ∧ TouchAt K H t F ∧ F.Ok ∧ Dp K H (.ref d) (dSteps l) ∧ Names F l ∧ a ∈ F.names ∧ Q (.int ((XM.nearS (OF F) a l).getD 0)) H
theorem c_front_times (T : Tx K mg) (F : Fld) : Cl P w K mg base CX0 1 "front_times" (spFrontTimes K F) := by
  refine cl0 T.d_front_times (ps := ["touch", "pieces", "name"]) (fun _ _ _ _ _ _ us hl => match us, hl with | [_, _, _], _ => rfl) sc_front_times (fun vs H Q E h => ?_) (fun f cdv A outer st H vs Q E hr h => ?_)
  · obtain ⟨t, d, a, l, rfl, _⟩ := h
    rfl
  · obtain ⟨t, d, a, l, rfl, hT, ok, hL, hN, ha, q⟩ := h
    have nd := sc_front_times.nd
    have hu : (A.deeper (envOfC "front_times" (defScope s_front_times) st.heap.objs.size f cdv)).units + 1 < cLine := by
      have := hr.un
      omega
    refine ⟨_, (pss_cons (ps_for PassesOwn.never rfl (pi_tup (pv 1)) (pg_tup rfl (pgs_cons (pg_name (i := 3) nd rfl (.inl rfl)) (pgs_cons (pg_name (i := 4) nd rfl (.inl rfl)) pgs_nil)))
    (pss_one (ps_if (pt_cmpR (opk_in_seq (K := K) rfl) (pv 3) (pe_dget hu (pv 0) (pv 2) (fun _ _ => rfl)) (by rfl)) (pss_one (ps_ret (pe_ifExp (pt_cmpR op_eq (pv 3) (pv 2) (nomark _)) (pv 4) pe_int))) pss_nil)))
    (pss_one (ps_ret pe_int))), ?_⟩
    obtain ⟨_, xs, e, hS, hD⟩ := hL.steps
    cases e
    have lx := hD.len
    rw [List.length_map] at lx
    obtain ⟨kvs, e1, g⟩ := id hT
    obtain ⟨r, e2, e3⟩ := g a ha
    have dg : DGet H t (.str a) (some (.ref r)) := by
      have := DGet.k (k := .inr a) e1
      rwa [e2] at this
    refine ⟨_, rfl, d, rfl, ⟨_, hS⟩, ?_⟩
    refine for_it (walk_tup (xs := xs)) (fun i σ H2 => ∃ (y3 y4 : Option V), σ = [some (.ref t), some (.ref d), some (.str a), y3, y4] ∧ H2 = H ∧ XM.nearS (OF F) a (l.drop i) = XM.nearS (OF F) a l)
      ⟨none, none, rfl, rfl, rfl⟩ (fun i σ H2 _ ⟨_, _, _, e', _⟩ => by rw [e']; exact hS) (fun i x σ H2 H3 hi ⟨y3, y4, eσ, s2, en⟩ hy => ?_) (fun σ H2 ⟨y3, y4, eσ, s2, en⟩ => ?_)
    · obtain ⟨rfl, hx⟩ := hy
      subst eσ
      subst s2
      obtain ⟨dd, g1, p1⟩ := hD.get hx
      rw [List.getElem?_map] at g1
      obtain ⟨s, k1, rfl⟩ := Option.map_eq_some_iff.mp g1
      obtain ⟨b, rfl, cb⟩ := p1.step
      have ms := hN s (List.mem_of_getElem? k1)
      refine ⟨b, _, rfl, cb, rfl, _, _, rfl, _, _, rfl, rfl, ?_⟩
      refine ⟨_, rfl, _, rfl, _, rfl, t, .ref r, rfl, dg, r, _, rfl, .inr e3, rfl, flat_strs _, ?_⟩
      rw [inV_strs]
      refine ⟨_, rfl, ite2 (fun h => ?_) (fun h => ?_)⟩
      · have h : (touchL F a).contains s.1 = true := h
        have k := nearS_here ok k1 ms h
        rw [en] at k
        rw [k] at q
        refine ⟨_, rfl, _, rfl, rfl, _, rfl, ite2 (fun e => ?_) (fun e => ?_)⟩
        · have e : s.1 = a := by
            have := of_decide_eq_true e
            injection this
          rw [if_pos e] at q
          exact ⟨_, rfl, q⟩
        · have e : ¬ s.1 = a := fun z => e (by rw [z]; exact decide_eq_true rfl)
          rw [if_neg e] at q
          exact q
      · have h : (touchL F a).contains s.1 = false := Bool.eq_false_iff.mpr h
        exact ⟨_, _, rfl, rfl, by rw [← nearS_at ok k1 ms h]; exact en⟩
    · subst eσ
      subst s2
      rw [lx, List.drop_length] at en
      rw [← en] at q
      exact q
def spSharedTimes : Sp := fun vs H Q _ => ∃ (s t : Int), vs = [.int s, .int t] ∧ Q (.int (XM.shr s t)) H
theorem c_shared_times (T : Tx K mg) : Cl P w K mg base CX0 1 "shared_times" spSharedTimes := by
  refine cl0 T.d_shared_times (ps := ["one", "other"]) (fun _ _ _ _ _ _ us hl => match us, hl with | [_, _], _ => rfl) sc_shared_times (fun vs H Q E h => ?_) (fun f cdv A outer st H vs Q E hr h => ?_)
  · obtain ⟨s, t, rfl, _⟩ := h
    rfl
  · obtain ⟨s, t, rfl, q⟩ := h
    have nd := sc_shared_times.nd
    refine ⟨_, (pss_one (ps_ret (pe_op op_add (pe_callB (call_max2 rfl) (by rfl) T.b_max (by decide +kernel) (pa_cons pe_int (pa_cons (pe_callB (call_min2 rfl) (by rfl) T.b_min (by decide +kernel) (pa_cons (pv 0) (pa_cons (pv 1) pa_nil))) pa_nil))) (pe_callB (call_min2 rfl) (by rfl) T.b_min (by decide +kernel) (pa_cons pe_int (pa_cons (pe_callB (call_max2 rfl) (by rfl) T.b_max (by decide +kernel) (pa_cons (pv 0) (pa_cons (pv 1) pa_nil))) pa_nil)))))), ?_⟩
    refine ⟨_, rfl, _, rfl, _, _, rfl, _, _, rfl, _, rfl, _, rfl, _, _, rfl, _, _, rfl, _, _, rfl, rfl, ?_⟩
    have e : ∀ z, z = XM.shr s t → Q (.int z) H := fun z h => by rw [h]; exact q
    refine e _ ?_
    unfold XM.shr
    repeat' split
    all_goals omega
/-- what stands at each place of the pass -/
structure CB (F : Fld) (l m : List (Str × Int)) (i : Nat) (st : XM.Cst Str) : Prop where
  e : st = (l.take i).foldl (XM.cstep (OF F)) ([], [], m)
  nc : Names F st.1
  nr : Names F st.2.1
  nt : Names F st.2.2
  lc : st.1.length ≤ i
  lt : st.2.2.length ≤ m.length + i
theorem CB.step {F : Fld} {l m : List (Str × Int)} {i : Nat} {st : XM.Cst Str} {x : Str × Int} (h : CB F l m i st) (k : l[i]? = some x) (hx : x.1 ∈ F.names) : CB F l m (i + 1) (XM.cstep (OF F) st x) := by
  obtain ⟨e, nc, nr, nt, lc, lt⟩ := h
  have snoc : ∀ {r : List (Str × Int)} {z : Int}, Names F r → Names F (r ++ [(x.1, z)]) := fun hr s hs => (List.mem_append.mp hs).elim (hr s) fun q => by rw [List.mem_singleton.mp q]; exact hx
  refine ⟨by rw [take_snoc k, List.foldl_append, ← e]; rfl, ?_, ?_, ?_, ?_, ?_⟩
  · unfold XM.cstep
    show Names F (if _ then _ else _)
    split
    · exact snoc nc
    · exact nc
  · unfold XM.cstep
    show Names F (if _ then _ else _)
    split
    · exact snoc nr
    · exact nr
  · unfold XM.cstep
    show Names F (if _ then _ else _)
    split
    · exact names_rev (names_act (r := []) (fun s hs => (List.mem_cons.mp hs).elim (fun q => by rw [q]; exact hx) (nt s)) fun _ h => nomatch h)
    · exact nt
  · unfold XM.cstep
    show List.length (if _ then _ else _) ≤ _
    split
    · rw [List.length_append, List.length_singleton]
      omega
    · omega
  · unfold XM.cstep
    show List.length (if _ then _ else _) ≤ _
    split
    · refine Nat.le_trans act_len1 ?_
      rw [List.length_cons]
      omega
    · omega
theorem Bars.put {H : Hp} {B D : Addr} {f : Str → Bool} {n : Nat} {o : HO} (h : Bars H B f n) (hne : B ≠ D) : Bars (upd H D o) B f n := by
  obtain ⟨kv, f1, f2, f3⟩ := h
  exact ⟨kv, by rw [upd_ne hne]; exact f1, f2, f3⟩
theorem Bars.same {H H' : Hp} {B : Addr} {f : Str → Bool} {n : Nat} (h : Bars H B f n) (s : Same H H') : Bars H' B f n := by
  obtain ⟨kv, f1, f2, f3⟩ := h
  exact ⟨kv, s _ _ f1, f2, f3⟩
theorem bars_r {F : Fld} (ok : F.Ok) {n : Str} (hn : n ∈ F.names) (r : List (Str × Int)) : (r.any fun w => (touchL F w.1).contains n) = r.any fun w => (OF F).tc w.1 n := by
  have := barred_all ok hn r
  rw [List.all_eq_not_any_not] at this
  simpa using this
def spCommon (K : PySem.W.Frag) (F : Fld) : Sp := fun vs H Q _ => ∃ (t d e : Addr) (l m : List (Str × Int)), vs = [.ref t, .ref d, .ref e] ∧ TouchAt K H t F ∧ F.Ok ∧ Dp K H (.ref d) (dSteps l) ∧ Dp K H (.ref e) (dSteps m) ∧ l.length ≤ 150 ∧ m.length ≤ 150 ∧ Names F l ∧ Names F m ∧
  ∀ H' r, Same H H' → Dp K H' (.ref r) (dSteps (XM.cmn (OF F) l m)) → Q (.ref r) H'
theorem c_common_of (T : Tx K mg) (F : Fld) : Cl P w K mg base CX0 3 "common_of" (spCommon K F) := by
  refine cl0 T.d_common_of (ps := ["touch", "one", "other"]) (fun _ _ _ _ _ _ us hl => match us, hl with | [_, _, _], _ => rfl) sc_common_of (fun vs H Q E h => ?_) (fun f cdv A outer st H vs Q E hr h => ?_)
  · obtain ⟨t, d, e, l, m, rfl, _⟩ := h
    rfl
  · obtain ⟨t, d, e, l, m, rfl, hT, ok, hL, hM, ll, lm, nl, nm, q⟩ := h
    have nd := sc_common_of.nd
    have hu : (A.deeper (envOfC "common_of" (defScope s_common_of) st.heap.objs.size f cdv)).units + 1 < cLine := by
      have := hr.un
      omega
    refine ⟨_, (pss_cons (ps_set (i := 3) nd rfl (.inl rfl) (pe_lst pa_nil))
    (pss_cons (ps_set (i := 4) nd rfl (.inl rfl) pe_dnewK)
    (pss_cons (ps_set (i := 5) nd rfl (.inl rfl) (pv 2))
    (pss_cons (ps_for PassesOwn.never rfl (pi_tup (pv 1)) (pg_tup rfl (pgs_cons (pg_name (i := 6) nd rfl (.inl rfl)) (pgs_cons (pg_name (i := 7) nd rfl (.inl rfl)) pgs_nil)))
    (pss_cons (ps_set (i := 8) nd rfl (.inl rfl) (pe_ifExp (pt_cmp (pc_din hu (pv 6) (pv 4))) pe_int (pe_k (c_shared_times T) hr (by decide) (by rfl) (pa_cons (pv 7) (pa_cons (pe_k (c_front_times T F) hr (by decide) (by rfl) (pa_cons (pv 0) (pa_cons (pv 5) (pa_cons (pv 6) pa_nil)))) pa_nil)))))
    (C8.pss_cut (ps_if (pt_cmpR op_ne (pv 8) pe_int (nomark _)) (pss_cons (ps_expr (pe_bm PySem.F.plainAttrs_list PySem.F.slot_list_append PySem.F.type_list_append mt_append (pv 3) (pa_cons (pe_tup (pa_cons (pv 6) (pa_cons (pv 8) pa_nil))) pa_nil)))
    (pss_one (ps_set (i := 5) nd rfl (.inl rfl) (pe_k (c_piled T F) hr (by decide) (by rfl) (pa_cons (pv 0) (pa_cons (pe_op (op_catAk (K := K) rfl) (pe_tup (pa_cons (pe_tup (pa_cons (pv 6) (pa_cons (pe_un un_neg (pv 8)) pa_nil))) pa_nil)) (pv 5)) pa_nil)))))) pss_nil)
    (pss_one (ps_if (pt_cmpR op_ne (pv 8) (pv 7) (nomark _)) (pss_one (ps_for PassesOwn.never rfl (pi_tup (pe_dget hu (pv 0) (pv 6) (fun _ _ => rfl))) (pg_name (i := 9) nd rfl (.inl rfl))
    (pss_one (ps_dput hu (pv 4) (pv 9) pe_bl rfl)))) pss_nil)))))
    (pss_one (ps_ret (pe_tupleOf (by rfl) T.b_tuple (pv 3)))))))), ?_⟩
    obtain ⟨_, xs, ed, hS, hD⟩ := hL.steps
    cases ed
    have lx := hD.len
    rw [List.length_map] at lx
    refine ⟨Nat.zero_le _, fun D hD0 => fun B hB0 => ⟨_, rfl, ?_⟩⟩
    have s0 : Same H (upd (upd H D (.lst [])) B (.dK [])) := (same_upd hD0).trans (same_upd hB0)
    have hHB : H B = none := by
      cases eb : H B with
      | none => rfl
      | some o =>
        rw [same_upd hD0 B o eb] at hB0
        cases hB0
    have nDB : D ≠ B := fun z => by
      rw [← z, upd_same] at hB0
      cases hB0
    have eD0 : Row1 K (upd (upd H D (.lst [])) B (.dK [])) D [] := ⟨[], by rw [upd_ne nDB]; exact upd_same, .nil⟩
    have eB0 : Bars (upd (upd H D (.lst [])) B (.dK [])) B (fun _ => false) 0 := ⟨[], upd_same, Nat.le_refl _, fun _ => rfl⟩
    generalize upd (upd H D (.lst [])) B (.dK []) = H0 at s0 eD0 eB0 ⊢
    refine ⟨_, rfl, d, rfl, ⟨_, (Tk.of s0).sqT hS⟩, ?_⟩
    refine for_it (walk_tup (xs := xs)) (fun i σ H2 => ∃ (p : Addr) (y6 y7 y8 y9 : Option V) (st : XM.Cst Str), σ = [some (.ref t), some (.ref d), some (.ref e), some (.ref D), some (.ref B), some (.ref p), y6, y7, y8, y9] ∧ Same H H2 ∧ Row1 K H2 D st.1 ∧ Bars H2 B (fun n => st.2.1.any fun w => (touchL F w.1).contains n) (6 * i) ∧ Dp K H2 (.ref p) (dSteps st.2.2) ∧ CB F l m i st)
      ⟨e, none, none, none, none, ([], [], m), rfl, s0, eD0, eB0, tS hM s0, rfl, (fun _ h => nomatch h), (fun _ h => nomatch h), nm, Nat.le_refl _, Nat.le_refl _⟩ (fun i σ H2 _ ⟨_, _, _, _, _, _, _, s', _⟩ => (Tk.of s').sqT hS) (fun i x σ H2 H3 hi ⟨p, y6, y7, y8, y9, st, eσ, s2, eD, eB, hp, cb⟩ hy => ?_) (fun σ H2 ⟨p, y6, y7, y8, y9, st, eσ, s2, eD, eB, hp, cb⟩ => ?_)
    · obtain ⟨rfl, hx⟩ := hy
      subst eσ
      obtain ⟨dd, g1, p1⟩ := hD.get hx
      rw [List.getElem?_map] at g1
      obtain ⟨s, k1, rfl⟩ := Option.map_eq_some_iff.mp g1
      obtain ⟨b, rfl, cs⟩ := p1.step
      have cs := (Tk.of s2).sqT cs
      have ms := nl s (List.mem_of_getElem? k1)
      have cb' := cb.step k1 ms
      refine ⟨b, _, rfl, cs, rfl, _, _, rfl, _, _, rfl, rfl, ?_⟩
      show tIf _ _ _ _ _ _
      refine by_q (fun v H' => v = .int (XM.cpart (OF F) st.2.1 st.2.2 s) ∧ H' = H3) (fun Qx hQ => ?_) (fun v H' ⟨ev, eH⟩ => ?_)
      · obtain ⟨kvs, e1, e2, e3⟩ := eB
        refine ⟨_, rfl, _, rfl, B, _, rfl, DGet.k (k := .inr s.1) e1, _, rfl, ?_⟩
        rw [show (valV kvs (.inr s.1)).isSome = st.2.1.any (fun w => (OF F).tc w.1 s.1) from (e3 s.1).trans (bars_r ok ms _)]
        unfold XM.cpart at hQ
        cases hc : (st.2.1.any fun w => (OF F).tc w.1 s.1)
        · rw [if_neg (by rw [hc]; exact Bool.false_ne_true)] at hQ
          exact iteF ⟨_, rfl, _, rfl, _, rfl, _, rfl, t, p, s.1, st.2.2, rfl, hT.same s2, ok, hp, cb.nt, ms, _, _, rfl, hQ _ _ ⟨rfl, rfl⟩⟩
        · rw [if_pos hc] at hQ
          exact iteT (hQ _ _ ⟨rfl, rfl⟩)
      · subst ev
        subst eH
        obtain ⟨ys, eY, hY⟩ := eD
        have lY := hY.len
        rw [List.length_map] at lY
        have lc := cb.lc
        have lt := cb.lt
        refine ⟨fun σ H5 => ∃ (p' : Addr), σ = [some (.ref t), some (.ref d), some (.ref e), some (.ref D), some (.ref B), some (.ref p'), some (.str s.1), some (.int s.2), some (.int (XM.cpart (OF F) st.2.1 st.2.2 s)), y9] ∧ Same H H5 ∧ Row1 K H5 D (XM.cstep (OF F) st s).1 ∧ Bars H5 B (fun n => st.2.1.any fun w => (touchL F w.1).contains n) (6 * i) ∧ Dp K H5 (.ref p') (dSteps (XM.cstep (OF F) st s).2.2), ?_, ?_⟩
        · have c1 : (XM.cstep (OF F) st s).1 = if XM.cpart (OF F) st.2.1 st.2.2 s ≠ 0 then st.1 ++ [(s.1, XM.cpart (OF F) st.2.1 st.2.2 s)] else st.1 := rfl
          have c3 : (XM.cstep (OF F) st s).2.2 = if XM.cpart (OF F) st.2.1 st.2.2 s ≠ 0 then (XM.act (OF F) ((s.1, -XM.cpart (OF F) st.2.1 st.2.2 s) :: st.2.2) []).reverse else st.2.2 := rfl
          rw [c1, c3]
          generalize XM.cpart (OF F) st.2.1 st.2.2 s = part
          refine ⟨_, rfl, rfl, _, rfl, ite2 (fun h => ?_) (fun h => ?_)⟩
          · have h : part ≠ 0 := fun z => by
              rw [z] at h
              revert h
              decide
            rw [if_pos h, if_pos h]
            refine ⟨_, rfl, Or.inl ⟨rfl, _, SqL.of eY⟩, _, rfl, _, rfl, two_sz, fun z1 m1 => upd_gen m1 fun J1 j1 f1 => ⟨D, _, _, rfl, rfl, j1 _ _ eY, small1000 (by omega), ?_⟩⟩
            have eY1 := j1 _ _ eY
            have tP : Tk J1 (upd J1 D (.lst (ys ++ [.ref z1]))) := Tk.refl.lst eY1
            have sP : Same H (upd J1 D (.lst (ys ++ [.ref z1]))) := same_put (s2.trans j1) hD0
            have bP := (eB.same j1).put (o := .lst (ys ++ [.ref z1])) nDB.symm
            have rP : Row1 K (upd J1 D (.lst (ys ++ [.ref z1]))) D (st.1 ++ [(s.1, part)]) := ⟨ys ++ [.ref z1], upd_same, by
              rw [List.map_append]
              exact (DpAll.tk ((Tk.of j1).trans tP) _ (flat_all_steps _) hY).app (.cons (Dp.of_step (s := (s.1, part)) (tP.sqT (SqT.of f1))) .nil)⟩
            have hpP := Dp.tk ((Tk.of j1).trans tP) _ (flat_steps _) hp
            have eP : upd J1 D (.lst (ys ++ [.ref z1])) D = some (.lst (ys ++ [.ref z1])) := upd_same
            generalize upd J1 D (.lst (ys ++ [.ref z1])) = J2 at sP bP rP hpP eP ⊢
            refine ⟨_, rfl, _, rfl, _, rfl, _, rfl, two_sz, fun z2 m2 => upd_gen m2 fun J3 j3 f3 => ⟨one_sz, fun z3 m3 => upd_gen m3 fun J4 j4 f4 => ⟨_, rfl, ?_⟩⟩⟩
            have h1 : Dp K J4 (.ref z3) (dSteps [(s.1, -part)]) := .tup (SqT.of f4) (.cons (dstep_of (s.1, -part) f3 j4) .nil)
            refine catD h1 (Dp.sm (j3.trans j4) _ hpP) (by rw [List.length_singleton]; omega) fun J5 p5 j5 h5 => ?_
            obtain ⟨_, zs, ez, hzS, hzD⟩ := h5.steps
            cases ez
            have j35 := (j3.trans j4).trans j5
            refine ⟨t, p5, zs, (s.1, -part) :: st.2.2, rfl, hT.same (sP.trans j35), ok, hzS, hzD, by rw [List.length_cons]; omega, fun z hz => (List.mem_cons.mp hz).elim (fun q => by rw [q]; exact ms) (cb.nt z), fun J6 p6 j6 h6 => ?_⟩
            have j36 := j35.trans j6
            obtain ⟨ws, eW, hW⟩ := rP
            exact ⟨p6, rfl, sP.trans j36, ⟨ws, j36 _ _ eW, DpAll.sm j36 _ hW⟩, bP.same j36, h6⟩
          · have h : part = 0 := Classical.byContradiction fun z => h (by
              rw [decide_eq_false fun q => z (by injection q)]
              rfl)
            rw [if_neg (fun q => q h), if_neg (fun q => q h)]
            exact ⟨p, rfl, s2, ⟨ys, eY, hY⟩, eB, hp⟩
        · rintro σ H5 ⟨p', rfl, s5, r5, b5, h5⟩
          have c2 : (XM.cstep (OF F) st s).2.1 = if XM.cpart (OF F) st.2.1 st.2.2 s ≠ s.2 then st.2.1 ++ [(s.1, s.2 - XM.cpart (OF F) st.2.1 st.2.2 s)] else st.2.1 := rfl
          generalize XM.cpart (OF F) st.2.1 st.2.2 s = part at c2 ⊢
          refine ⟨_, rfl, _, rfl, rfl, _, rfl, ite2 (fun h => ?_) (fun h => ?_)⟩
          · have h : part ≠ s.2 := fun z => by
              rw [z, decide_eq_true rfl] at h
              cases h
            rw [if_pos h] at c2
            obtain ⟨kvs, e1, g⟩ := hT.same s5
            obtain ⟨r, e2, e3⟩ := g s.1 ms
            have dg : DGet H5 t (.str s.1) (some (.ref r)) := by
              have := DGet.k (k := .inr s.1) e1
              rwa [e2] at this
            have htl : (touchL F s.1).length ≤ 6 := Nat.le_trans (List.length_filter_le _ _) ok.n6
            refine ⟨_, rfl, _, rfl, t, .ref r, rfl, dg, r, rfl, ⟨_, e3⟩, ?_⟩
            refine for_it (walk_tup (xs := (touchL F s.1).map V.str)) (fun j σ H6 => ∃ (y9 : Option V), σ = [some (.ref t), some (.ref d), some (.ref e), some (.ref D), some (.ref B), some (.ref p'), some (.str s.1), some (.int s.2), some (.int part), y9] ∧ Tk H5 H6 ∧ Same H H6 ∧ Row1 K H6 D (XM.cstep (OF F) st s).1 ∧ Dp K H6 (.ref p') (dSteps (XM.cstep (OF F) st s).2.2) ∧ Bars H6 B (fun n => (st.2.1.any fun w => (touchL F w.1).contains n) || ((touchL F s.1).take j).contains n) (6 * i + j))
              ⟨y9, rfl, Tk.refl, s5, r5, h5, ?_⟩ (fun j σ H6 _ ⟨_, _, k6, _⟩ => k6.sqT e3) (fun j x σ H6 H7 hj ⟨y9, eσ, k6, s6, r6, h6, b6⟩ hy => ?_) (fun σ H6 ⟨y9, eσ, k6, s6, r6, h6, b6⟩ => ?_)
            · obtain ⟨kv, f1, f2, f3⟩ := b5
              exact ⟨kv, f1, f2, fun n => by rw [f3]; simp⟩
            · obtain ⟨rfl, hx⟩ := hy
              subst eσ
              obtain ⟨o, ho, rfl⟩ := str_at hx
              obtain ⟨kv, f1, f2, f3⟩ := b6
              rw [List.length_map] at hj
              refine ⟨_, rfl, _, rfl, B, _, rfl, DPut.k (k := .inr o) f1 (small1000 (by omega)), ?_⟩
              have kk := Tk.refl.mut (o := .dK (putK kv (.inr o) (.bl true))) f1 (fun _ q => nomatch q) (fun _ _ q => nomatch q)
              obtain ⟨ws, eW, hW⟩ := r6
              refine ⟨_, rfl, k6.trans kk, same_put s6 hHB, ⟨ws, by rw [upd_ne nDB]; exact eW, DpAll.tk kk _ (flat_all_steps _) hW⟩, Dp.tk kk _ (flat_steps _) h6, putK kv (.inr o) (.bl true), upd_same, ?_, fun n => ?_⟩
              · have := length_putK kv (.inr o) (.bl true)
                omega
              · rw [valV_put, take_snoc ho]
                by_cases q : n = o
                · subst q
                  rw [if_pos rfl]
                  simp
                · rw [if_neg (fun z => q (Sum.inr.inj z)), f3]
                  simp [q]
            · subst eσ
              obtain ⟨kv, f1, f2, f3⟩ := b6
              refine ⟨p', _, _, _, _, _, rfl, s6, r6, ⟨kv, f1, ?_, fun n => ?_⟩, h6, cb'⟩
              · rw [List.length_map] at f2
                omega
              · rw [f3, List.length_map, List.take_length, c2]
                show (_ || _) = List.any (_ ++ _) _
                rw [List.any_append]
                simp
          · have h : part = s.2 := Classical.byContradiction fun z => h (by
              rw [decide_eq_false fun q => z (by injection q)]
              rfl)
            rw [if_neg (fun q => q h)] at c2
            refine ⟨p', _, _, _, _, _, rfl, s5, r5, ?_, h5, cb'⟩
            rw [c2]
            obtain ⟨kv, f1, f2, f3⟩ := b5
            exact ⟨kv, f1, by omega, f3⟩
    · subst eσ
      obtain ⟨ys, e1, hY⟩ := eD
      have lY := hY.len
      rw [List.length_map] at lY
      refine ⟨_, rfl, .inl ⟨D, ys, rfl, SqL.of e1, fun r nr => upd_gen nr fun H4 s4 e4 => q H4 r (s2.trans s4) ?_⟩⟩
      have ec := cb.e
      rw [lx, List.take_length] at ec
      have : XM.cmn (OF F) l m = st.1 := by rw [ec]; rfl
      rw [this]
      exact .tup (SqT.of e4) (DpAll.tk (Tk.of s4) _ (flat_all_steps _) hY)
end
end XB
set_option Elab.async false
set_option linter.all false
set_option maxRecDepth 100000
set_option maxHeartbeats 4000000
namespace XB
open PySem PySem.Spec PyProof.Rows L2
theorem cb_at {F : Fld} {l m : List (Str × Int)} (nl : Names F l) (nm : Names F m) : ∀ i, i ≤ l.length → CB F l m i ((l.take i).foldl (XM.cstep (OF F)) ([], [], m))
  | 0, _ => ⟨rfl, (fun _ h => nomatch h), (fun _ h => nomatch h), nm, Nat.le_refl _, Nat.le_refl _⟩
  | i + 1, h => by
    have k : l[i]? = some l[i] := List.getElem?_eq_getElem h
    have c := (cb_at nl nm i (by omega)).step k (nl _ (List.getElem_mem h))
    have e := c.e
    rw [← e]
    exact c
theorem cmn_cb {F : Fld} {l m : List (Str × Int)} (nl : Names F l) (nm : Names F m) : Names F (XM.cmn (OF F) l m) ∧ (XM.cmn (OF F) l m).length ≤ l.length := by
  have c := cb_at nl nm l.length (Nat.le_refl _)
  rw [List.take_length] at c
  exact ⟨c.nc, c.lc⟩
theorem names_pile {F : Fld} {l : List (Str × Int)} (h : Names F l) : Names F (XM.pile (OF F) l) := names_rev (names_act (r := []) h fun _ h => nomatch h)
theorem len_pile {F : Fld} {l : List (Str × Int)} : (XM.pile (OF F) l).length ≤ l.length := act_len1
theorem Names.app {F : Fld} {l m : List (Str × Int)} (h : Names F l) (g : Names F m) : Names F (l ++ m) := fun s hs => (List.mem_append.mp hs).elim (h s) (g s)
/-- the middle: its names, its length -/
theorem mid_bounds {F : Fld} {x y z : List (Str × Int)} (nx : Names F x) (ny : Names F y) (nz : Names F z) : Names F (XM.mid (OF F) x y z) ∧ (XM.mid (OF F) x y z).length ≤ 2 * x.length + y.length := by
  have n1 : Names F (XM.pile (OF F) (XM.back x ++ y)) := names_pile (Names.app (names_back nx) ny)
  have n2 : Names F (XM.pile (OF F) (XM.back x ++ z)) := names_pile (Names.app (names_back nx) nz)
  obtain ⟨c1, c2⟩ := cmn_cb n1 n2
  refine ⟨names_pile (Names.app nx c1), ?_⟩
  have h1 : (XM.mid (OF F) x y z).length ≤ _ := len_pile
  have h2 := len_pile (F := F) (l := XM.back x ++ y)
  rw [List.length_append, len_back] at h2
  rw [List.length_append] at h1
  omega
section
variable {P : Program} {w : World} {K : PySem.W.Frag} {mg : Str → Option Value} {base : Heap}
def FS3 (K : PySem.W.Frag) (F : Fld) (l m n : List (Str × Int)) (vs : List V) (H : Hp) : Prop := ∃ (a d e f : Addr), vs = [.ref a, .ref d, .ref e, .ref f] ∧ Dp K H (.ref a) (dField F) ∧ F.Ok ∧ Dp K H (.ref d) (dSteps l) ∧ GoodScript F l ∧ Dp K H (.ref e) (dSteps m) ∧ GoodScript F m ∧ Dp K H (.ref f) (dSteps n) ∧ GoodScript F n
def spMiddlePile (K : PySem.W.Frag) (F : Fld) : Sp := fun vs H Q _ => ∃ (t d e f : Addr) (l m n : List (Str × Int)), vs = [.ref t, .ref d, .ref e, .ref f] ∧ TouchAt K H t F ∧ F.Ok ∧ Dp K H (.ref d) (dSteps l) ∧ Dp K H (.ref e) (dSteps m) ∧ Dp K H (.ref f) (dSteps n) ∧ l.length ≤ 60 ∧ m.length ≤ 60 ∧ n.length ≤ 60 ∧ Names F l ∧ Names F m ∧ Names F n ∧
  ∀ H' r, Same H H' → Dp K H' (.ref r) (dSteps (XM.mid (OF F) l m n)) → Q (.ref r) H'
theorem c_middle_pile (T : Tx K mg) (F : Fld) : Cl P w K mg base CX0 4 "middle_pile" (spMiddlePile K F) := by
  refine cl0 T.d_middle_pile (ps := ["touch", "one", "two", "three"]) (fun _ _ _ _ _ _ us hl => match us, hl with | [_, _, _, _], _ => rfl) sc_middle_pile (fun vs H Q E h => ?_) (fun fa cdv A outer st H vs Q E hr h => ?_)
  · obtain ⟨t, d, e, f, l, m, n, rfl, _⟩ := h
    rfl
  · obtain ⟨t, d, e, f, l, m, n, rfl, hT, ok, hL, hM, hN, l1, l2, l3, n1, n2, n3, q⟩ := h
    have nd := sc_middle_pile.nd
    refine ⟨_, (pss_one (ps_ret (pe_k (c_piled T F) hr (by decide) (by rfl) (pa_cons (pv 0) (pa_cons (pe_op (op_catAk (K := K) rfl) (pv 1) (pe_k (c_common_of T F) hr (by decide) (by rfl) (pa_cons (pv 0) (pa_cons (pe_k (c_leading T F) hr (by decide) (by rfl) (pa_cons (pv 0) (pa_cons (pv 1) (pa_cons (pv 2) pa_nil)))) (pa_cons (pe_k (c_leading T F) hr (by decide) (by rfl) (pa_cons (pv 0) (pa_cons (pv 1) (pa_cons (pv 3) pa_nil)))) pa_nil))))) pa_nil))))), ?_⟩
    refine ⟨_, rfl, _, rfl, _, rfl, _, rfl, _, rfl, _, rfl, t, d, e, l, m, rfl, hT, ok, hL, hM, by omega, n1, n2, fun H1 r1 s1 h1 => ?_⟩
    refine ⟨_, rfl, _, rfl, _, rfl, t, d, f, l, n, rfl, hT.same s1, ok, tS hL s1, tS hN s1, by omega, n1, n3, fun H2 r2 s2 h2 => ?_⟩
    have s12 := s1.trans s2
    have b1 := len_pile (F := F) (l := XM.back l ++ m)
    have b2 := len_pile (F := F) (l := XM.back l ++ n)
    rw [List.length_append, len_back] at b1 b2
    have m1 : Names F (XM.pile (OF F) (XM.back l ++ m)) := names_pile (Names.app (names_back n1) n2)
    have m2 : Names F (XM.pile (OF F) (XM.back l ++ n)) := names_pile (Names.app (names_back n1) n3)
    refine ⟨t, r1, r2, _, _, rfl, hT.same s12, ok, tS h1 s2, h2, (by omega : (XM.pile (OF F) (XM.back l ++ m)).length ≤ 150), (by omega : (XM.pile (OF F) (XM.back l ++ n)).length ≤ 150), m1, m2, fun H3 r3 s3 h3 => ?_⟩
    obtain ⟨c1, c2⟩ := cmn_cb m1 m2
    have s13 := s12.trans s3
    refine catD (tS hL s13) h3 (by have : (XM.cmn (OF F) (XM.pile (OF F) (XM.back l ++ m)) (XM.pile (OF F) (XM.back l ++ n))).length ≤ 120 := by omega
                                   exact Nat.le_trans (Nat.add_le_add l1 this) (by decide)) fun H4 r4 s4 h4 => ?_
    obtain ⟨_, xs, ex, hxS, hxD⟩ := h4.steps
    cases ex
    exact ⟨t, r4, xs, _, rfl, hT.same (s13.trans s4), ok, hxS, hxD, by
      rw [List.length_append]
      have : (XM.cmn (OF F) (XM.pile (OF F) (XM.back l ++ m)) (XM.pile (OF F) (XM.back l ++ n))).length ≤ 120 := by omega
      exact Nat.le_trans (Nat.add_le_add l1 this) (by decide), Names.app n1 c1, fun H5 r5 s5 h5 => q H5 r5 ((s13.trans s4).trans s5) h5⟩
def spMiddle (K : PySem.W.Frag) (F : Fld) : Sp := fun vs H Q _ => ∃ l m n, FS3 K F l m n vs H ∧ ∀ H' r, Same H H' → Dp K H' (.ref r) (dSteps (XM.mid (OF F) (XM.pile (OF F) l) (XM.pile (OF F) m) (XM.pile (OF F) n))) → Q (.ref r) H'
theorem c_middle_of (T : Tx K mg) (F : Fld) : Cl P w K mg base CX0 7 "middle_of" (spMiddle K F) := by
  refine cl0 T.d_middle_of (ps := ["field", "one", "two", "three"]) (fun _ _ _ _ _ _ us hl => match us, hl with | [_, _, _, _], _ => rfl) sc_middle_of (fun vs H Q E h => ?_) (fun fa cdv A outer st H vs Q E hr h => ?_)
  · obtain ⟨l, m, n, ⟨a, d, e, f, rfl, _⟩, _⟩ := h
    rfl
  · obtain ⟨l, m, n, ⟨a, d, e, f, rfl, hF, ok, hL, hG, hM, hG', hN, hG2⟩, q⟩ := h
    have nd := sc_middle_of.nd
    refine ⟨_, (pss_cons (ps_par3 (i := 4) (j := 5) (l := 6) rfl nd rfl rfl rfl (by decide) (by decide) (by decide) rfl rfl rfl (pa_cons (pe_k (c_least_pile T F) hr (by decide) (by rfl) (pa_cons (pv 0) (pa_cons (pv 1) pa_nil))) (pa_cons (pe_k (c_least_pile T F) hr (by decide) (by rfl) (pa_cons (pv 0) (pa_cons (pv 2) pa_nil))) (pa_cons (pe_k (c_least_pile T F) hr (by decide) (by rfl) (pa_cons (pv 0) (pa_cons (pv 3) pa_nil))) pa_nil))) rfl)
    (pss_one (ps_ret (pe_k (c_middle_pile T F) hr (by decide) (by rfl) (pa_cons (pe_k (c_touch_table T) hr (by decide) (by rfl) (pa_cons (pv 0) pa_nil)) (pa_cons (pv 4) (pa_cons (pv 5) (pa_cons (pv 6) pa_nil)))))))), ?_⟩
    refine ⟨_, rfl, _, rfl, l, ⟨a, d, rfl, hF, ok, hL, hG⟩, fun H1 r1 s1 h1 => ?_⟩
    refine ⟨_, rfl, _, rfl, m, ⟨a, e, rfl, tF hF s1, ok, tS hM s1, hG'⟩, fun H2 r2 s2 h2 => ?_⟩
    have s12 := s1.trans s2
    refine ⟨_, rfl, _, rfl, n, ⟨a, f, rfl, tF hF s12, ok, tS hN s12, hG2⟩, fun H3 r3 s3 h3 => ?_⟩
    have s13 := s12.trans s3
    refine ⟨_, _, _, rfl, _, rfl, a, F, rfl, tF hF s13, ok, fun H4 t s4 n4 hT => ?_⟩
    have s34 := s3.trans s4
    have s24 := s2.trans s34
    have l1 := len_pile (F := F) (l := l)
    have l2 := len_pile (F := F) (l := m)
    have l3 := len_pile (F := F) (l := n)
    have g1 := hG.1
    have g2 := hG'.1
    have g3 := hG2.1
    exact ⟨_, rfl, _, rfl, _, rfl, t, r1, r2, r3, _, _, _, rfl, hT, ok, tS h1 s24, tS h2 s34, tS h3 s4, (by omega : (XM.pile (OF F) l).length ≤ 60), (by omega : (XM.pile (OF F) m).length ≤ 60), (by omega : (XM.pile (OF F) n).length ≤ 60), names_pile hG.names, names_pile hG'.names, names_pile hG2.names, fun H5 r5 s5 h5 => q H5 r5 ((s13.trans s4).trans s5) h5⟩
end
end XB
set_option Elab.async false
set_option linter.all false
set_option maxRecDepth 100000
set_option maxHeartbeats 4000000
namespace XB
open PySem PySem.Spec PyProof.Rows L2
def ML : List Str := ["a", "b", "c", "d", "e", "f"]
def nmM (i : Nat) : Str := (ML[i]?).getD ""
def fM (n i : Nat) : List (Str × Str) := ((ML.take n).drop (i + 1)).map fun o => (nmM i, o)
def PM (n k : Nat) : List (Str × Str) := (List.range k).flatMap (fM n)
def okM (n : Nat) : Bool := (PM n n).all (fun p => sLt p.1 p.2 && (ML.take n).contains p.1 && (ML.take n).contains p.2) && pwB ltP (PM n n) && pwB sLt (ML.take n) && (ML.take n).all goodB && decide ((PM n n).length ≤ 100) && decide ((ML.take n).length = n)
theorem okM_all : okM 1 = true ∧ okM 2 = true ∧ okM 3 = true ∧ okM 4 = true ∧ okM 5 = true ∧ okM 6 = true := by decide +kernel
theorem okM_of {n : Nat} (h0 : 1 ≤ n) (h6 : n ≤ 6) : okM n = true := by
  obtain ⟨a, b, c, d, e, f⟩ := okM_all
  rcases n with _ | _ | _ | _ | _ | _ | _ | n
  · omega
  · exact a
  · exact b
  · exact c
  · exact d
  · exact e
  · exact f
  · omega
theorem fld_okM {n : Nat} {ps : List (Str × Str)} (h0 : 1 ≤ n) (h6 : n ≤ 6) (hs : ps.Sublist (PM n n)) : (Fld.mk (ML.take n) ps).Ok := by
  have h := okM_of h0 h6
  unfold okM at h
  simp only [Bool.and_eq_true, decide_eq_true_eq, List.all_eq_true] at h
  obtain ⟨⟨⟨⟨⟨a, b⟩, c⟩, d⟩, e⟩, f⟩ := h
  refine ⟨by show 0 < (ML.take n).length; omega, by show (ML.take n).length ≤ 6; omega, fun p hp => (a p (hs.subset hp)).1.1, fun p hp => ⟨?_, ?_⟩, fun x hx => good_of (d x hx), pw_of c, (pw_of b).sublist hs, Nat.le_trans hs.length_le e⟩
  · have := (a p (hs.subset hp)).1.2
    simpa using this
  · have := (a p (hs.subset hp)).2
    simpa using this
theorem PM_succ (n k : Nat) : PM n (k + 1) = PM n k ++ fM n k := by
  unfold PM
  rw [List.range_succ, List.flatMap_append]
  simp
theorem ml_at {n k : Nat} (h6 : n ≤ 6) (h : k < n) : ((ML.take n).map V.str)[k]? = some (.str (nmM k)) := by
  have hl : k < ML.length := by show k < 6; omega
  rw [List.getElem?_map, List.getElem?_take, if_pos h, List.getElem?_eq_getElem hl]
  unfold nmM
  rw [List.getElem?_eq_getElem hl]
  rfl
theorem ml_len {n : Nat} (h6 : n ≤ 6) : (ML.take n).length = n := by
  rw [List.length_take]
  show min n 6 = n
  omega
theorem fM_len {n k : Nat} : (fM n k).length ≤ 6 := by
  unfold fM
  rw [List.length_map, List.length_drop, List.length_take]
  have : ML.length = 6 := rfl
  omega
theorem PM_len' {n : Nat} : ∀ k, (PM n k).length ≤ 6 * k
  | 0 => Nat.le_refl _
  | k + 1 => by
    rw [PM_succ, List.length_append]
    have := PM_len' (n := n) k
    have := fM_len (n := n) (k := k)
    omega
theorem PM_len {n k : Nat} (h6 : n ≤ 6) (hk : k ≤ n) : (PM n k).length ≤ 36 := by
  have := PM_len' (n := n) k
  omega
theorem rowCatP {K : PySem.W.Frag} {H : Hp} {a b : Addr} {l m : List (Str × Str)} {Q : VK} (h1 : RowP K H a l) (h2 : RowP K H b m) (hl : l.length + m.length ≤ 900) (q : ∀ H' p, Same H H' → H p = none → RowP K H' p (l ++ m) → Q (.ref p) H') : rCat (.ref a) (.ref b) H Q := by
  obtain ⟨xs, e1, v1⟩ := h1
  obtain ⟨ys, e2, v2⟩ := h2
  have l1 := v1.len
  have l2 := v2.len
  rw [List.length_map] at l1 l2
  refine catL e1 e2 (Nat.le_of_lt (small1000 (by omega))) fun H' p s hp e => q H' p s hp ⟨_, e, ?_⟩
  rw [List.map_append]
  exact (DpAll.tk (Tk.of s) _ (flat_pairs l) v1).app (DpAll.tk (Tk.of s) _ (flat_pairs m) v2)
theorem RowP.same {K : PySem.W.Frag} {H H' : Hp} {a : Addr} {l : List (Str × Str)} (h : RowP K H a l) (s : Same H H') : RowP K H' a l := by
  obtain ⟨xs, e, v⟩ := h
  exact ⟨xs, s _ _ e, DpAll.tk (Tk.of s) _ (flat_pairs l) v⟩
section
variable {P : Program} {w : World} {K : PySem.W.Frag} {mg : Str → Option Value} {base : Heap}
def spLawField3 (K : PySem.W.Frag) : Sp := fun vs H Q _ => ∃ (m c g : Addr) (s most : Int), vs = [.ref m, .int most] ∧ Dr H m c g s ∧ 1 ≤ most ∧ most ≤ 6 ∧ s < 900000000 ∧
  ∀ H' f F s', Dr H' m c g s' → s' ≤ s + 40 → Kp m g H H' → Dp K H' (.ref f) (dField F) → F.Ok → Q (.ref f) H'
theorem c__law_field3 (T : Tx K mg) : Cl P w K mg base CX0 3 "_law_field" (spLawField3 K) := by
  refine cl0 T.d__law_field (ps := ["m", "most"]) (fun _ _ _ _ _ _ us hl => match us, hl with | [_, _], _ => rfl) sc__law_field (fun vs H Q E h => ?_) (fun f cdv A outer st H vs Q E hr h => ?_)
  · obtain ⟨m, c, g, s, most, rfl, _⟩ := h
    rfl
  · obtain ⟨m, c, g, s, most, rfl, R, m1, m6, hs9, q⟩ := h
    have nd := sc__law_field.nd
    refine ⟨_, (pss_cons (ps_asg (pe_tup (pa_cons (pe_slice sl_tupA (pe_tup (pa_cons pe_str (pa_cons pe_str (pa_cons pe_str (pa_cons pe_str (pa_cons pe_str (pa_cons pe_str pa_nil))))))) po_none (po_some (pe_op op_add pe_int (pe_k (c_draw T) hr (by decide) (by rfl) (pa_cons (pv 0) (pa_cons (pv 1) pa_nil)))))) (pa_cons (pe_lst pa_nil) pa_nil))) (pg_tup rfl (pgs_cons (pg_name (i := 2) nd rfl (.inr rfl)) (pgs_cons (pg_name (i := 3) nd rfl (.inl rfl)) pgs_nil))))
    (pss_cons (ps_for PassesOwn.never rfl (pi_range1 (by rfl) T.b_range (pa_cons (pe_lenS (by rfl) T.b_len (pv 2)) pa_nil)) (pg_name (i := 4) nd rfl (.inr rfl))
    (pss_one (ps_set (i := 3) nd rfl (.inl rfl) (pe_op op_cat (pv 3) (pe_lc (own := [("other", 5)]) (g := (gName 5)) (tt := tYes) (by rfl) nd (pi_tup (pe_slice sl_tupA (pv 2) (po_some (pe_op op_add (pv 4) pe_int)) po_none)) (blkOk_by (own := [("other", 5)]) (N := ["m", "most", "names", "some", "k", "other", "pair"]) (sc := defScope s__law_field) (by decide +kernel)) (fun _ _ _ _ _ => (pg_name (i := 5) nd rfl (by first | exact Or.inl rfl | exact Or.inr rfl))) (fun _ _ _ _ _ => pts_nil) (fun _ _ _ _ _ => (pe_tup (pa_cons (pe_ix (ixk_tup (K := K) rfl) (pv 2) (pv 4) (fun _ _ => rfl)) (pa_cons (pv 5) pa_nil)))))))))
    (pss_one (ps_ret (pe_tup (pa_cons (pv 2) (pa_cons (pe_tupleOf (by rfl) T.b_tuple (pe_lc (own := [("pair", 6)]) (g := (gName 6)) (tt := _) (by rfl) nd (pi_list (pv 3)) (blkOk_by (own := [("pair", 6)]) (N := ["m", "most", "names", "some", "k", "other", "pair"]) (sc := defScope s__law_field) (by decide +kernel)) (fun _ _ _ _ _ => (pg_name (i := 6) nd rfl (by first | exact Or.inl rfl | exact Or.inr rfl))) (fun _ _ _ _ _ => pts_one (pt_cmpR op_eq (pe_k (c_draw T) hr (by decide) (by rfl) (pa_cons (pv 0) (pa_cons pe_int pa_nil))) pe_int (nomark _))) (fun _ _ _ _ _ => (pv 6)))) pa_nil))))))), ?_⟩
    refine ⟨(show 6 ≤ sizeLine by decide), fun t0 ht0 => upd_gen ht0 fun H1 s1 e1 => ?_⟩
    have e1 : SqT K H1 t0 (ML.map V.str) := SqT.of e1
    refine noPart ?_
    refine ⟨_, rfl, _, rfl, m, c, g, s, most, rfl, R.same s1, by omega, by omega, by omega, fun r H2 r0 r1 R2 k2 => ?_⟩
    obtain ⟨n, hn⟩ : ∃ n : Nat, 1 + r = (n : Int) := ⟨(1 + r).toNat, by omega⟩
    have n1 : 1 ≤ n := by omega
    have n6 : n ≤ 6 := by omega
    refine ⟨_, _, rfl, rfl, (n : Int), congrArg V.int hn, ?_⟩
    refine sl_pre (((R.same s1).tk k2).sqT e1) fun H3 tn s3 hN => ⟨Nat.zero_le _, fun D hD => upd_gen hD fun H4a s4a e4a => ⟨two_sz, fun T0 nT0 => upd_gen nT0 fun H4 s4b e4b => ⟨T0, _, rfl, SqT.of e4b, rfl, _, _, rfl, _, _, rfl, rfl, ?_⟩⟩⟩
    have s4 := s4a.trans s4b
    have e4 := s4b _ _ e4a
    rw [← List.map_take] at hN
    have k4 : Kp m g H H4 := ((Kp.of s1).trans k2).trans ((Kp.of s3).trans (Kp.of s4))
    have R4 := (R2.same s3).same s4
    have nD := (R2.same s3).nm hD
    have hN4 := (Tk.of s4).sqT hN
    have hl : ((ML.take n).map V.str).length = n := by rw [List.length_map, ml_len n6]
    refine ⟨_, rfl, tn, _, rfl, .inr hN4, n, by rw [hl], by omega, by omega, ?_⟩
    refine for_range (lo := 0) (n := n) (fun k σ H2 => ∃ (D : Addr) (y4 y5 y6 : Option V), σ = [some (.ref m), some (.int most), some (.ref tn), some (.ref D), y4, y5, y6] ∧ Same H4 H2 ∧ (D ≠ m ∧ D ≠ c ∧ D ≠ g) ∧ RowP K H2 D (PM n k))
      ⟨D, none, none, none, rfl, Same.refl _, nD, [], e4, .nil⟩ (fun k σ H5 hk ⟨D, y4, y5, y6, eσ, s5, nD, hD5⟩ => ?_) (fun σ H5 ⟨D, y4, y5, y6, eσ, s5, nD, hD5⟩ => ?_)
    · subst eσ
      have hN5 := (Tk.of s5).sqT hN4
      rw [Int.zero_add]
      refine ⟨_, rfl, _, rfl, _, rfl, _, _, rfl, rfl, ((k + 1 : Nat) : Int), rfl, ?_⟩
      refine noPart ?_
      refine sl_suf hN5 fun H7 u s7 hU => ⟨u, rfl, ⟨_, hU⟩, fun E hE => ?_⟩
      rw [← List.map_drop] at hU
      have hlu : (((ML.take n).drop (k + 1)).map V.str).length = n - (k + 1) := by rw [List.length_map, List.length_drop, ml_len n6]
      refine lc_it (walk_tup (xs := ((ML.take n).drop (k + 1)).map V.str)) (fun j H' => ∃ ys, H' E = some (.lst ys) ∧ DpAll K H' ys (((fM n k).take j).map dPair) ∧ Same H7 H') ⟨[], upd_same, .nil, same_upd hE⟩ (fun _ _ _ ⟨_, _, _, s'⟩ => (Tk.of s').sqT hU) (fun j x H8o H8 hj ⟨ys, eE, hY, s8⟩ hy => ?_) (fun H8 ⟨ys, eE, hY, s8⟩ => ?_)
      · obtain ⟨rfl, hx⟩ := hy
        obtain ⟨o, ho, rfl⟩ := str_at hx
        rw [hlu] at hj
        have hly := hY.len
        rw [List.length_map, List.length_take] at hly
        have ex : (fM n k).take (j + 1) = (fM n k).take j ++ [(nmM k, o)] := take_snoc (by unfold fM; rw [List.getElem?_map, ho]; rfl)
        refine ⟨rfl, yes_ ⟨_, rfl, _, rfl, _, _, _, .str (nmM k), rfl, rfl, (Tk.of (s7.trans s8)).sqT hN5, at_of (j := k) rfl (ml_at n6 hk), _, rfl, two_sz, fun b nb => upd_gen nb fun H9 s9 e9 => ⟨_, s9 _ _ eE, small1000 (by omega), _, upd_same, ?_, same_put (s8.trans s9) hE⟩⟩⟩
        rw [ex, List.map_append]
        have tt : Tk H8 (upd H9 E (.lst (ys ++ [.ref b]))) := (Tk.of s9).lst (s9 _ _ eE)
        exact (DpAll.tk tt _ (flat_pairs _) hY).app (.cons (.tup ((Tk.refl.lst (s9 _ _ eE)).sqT (SqT.of e9)) (.cons (.str _) (.cons (.str _) .nil))) .nil)
      · have ek : (fM n k).take (((ML.take n).drop (k + 1)).map V.str).length = fM n k := List.take_of_length_le (by unfold fM; rw [List.length_map, List.length_map]; exact Nat.le_refl _)
        rw [ek] at hY
        have lp : (PM n k).length ≤ 36 := PM_len n6 (by omega)
        refine rowCatP (hD5.same (s7.trans s8)) ⟨ys, eE, hY⟩ (by have := fM_len (n := n) (k := k); omega) fun H10 p s10 np h10 => ?_
        refine ⟨p, _, _, _, rfl, ((s5.trans s7).trans s8).trans s10, (R4.same ((s5.trans s7).trans s8)).nm np, ?_⟩
        rw [PM_succ]
        exact h10
    · subst eσ
      obtain ⟨xs, eD5, hX5⟩ := hD5
      have R5 := R4.same s5
      refine ⟨_, rfl, _, rfl, D, rfl, ⟨_, SqL.of eD5⟩, fun E hE => ?_⟩
      have nE := R5.nm hE
      have nDE : D ≠ E := ne_of_none eD5 hE
      refine lc_it (walk_list (xs := xs)) (fun j H' => ∃ ys ps s', H' E = some (.lst ys) ∧ DpAll K H' ys (ps.map dPair) ∧ ps.Sublist ((PM n n).take j) ∧ H' D = some (.lst xs) ∧ Kp m g H5 H' ∧ Dr H' m c g s' ∧ s' ≤ s + 1 + j) ⟨[], [], s + 1, upd_same, .nil, List.nil_sublist _, same_upd hE _ _ eD5, Kp.of (same_upd hE), R5.same (same_upd hE), by omega⟩ (fun _ _ _ ⟨_, _, _, _, _, _, e, _⟩ => SqL.of e) (fun j x H6o H6 hj ⟨ys, ps, s2, eE, hY, sub, eD6, k6, R6, hs2⟩ hy => ?_) (fun H6 ⟨ys, ps, s2, eE, hY, sub, eD6, k6, R6, hs2⟩ => ?_)
      · obtain ⟨rfl, hx⟩ := hy
        obtain ⟨dd, g1, p1⟩ := hX5.get hx
        rw [List.getElem?_map] at g1
        obtain ⟨pr, k1, rfl⟩ := Option.map_eq_some_iff.mp g1
        have hpr := Dp.tk (R5.tk k6) _ rfl p1
        have hpt : (PM n n).take (j + 1) = (PM n n).take j ++ [pr] := take_snoc k1
        have lps := sub.length_le
        rw [List.length_take] at lps
        have lpn := PM_len (k := n) n6 (Nat.le_refl _)
        have lxs := hX5.len
        rw [List.length_map] at lxs
        have lys := hY.len
        rw [List.length_map] at lys
        refine ⟨rfl, _, rfl, m, c, g, s2, 2, rfl, R6, by omega, by omega, by omega, fun rr H8 q0 q1 R8 k8 => ⟨rfl, _, rfl, ite2 (fun _ => ?_) (fun _ => ?_)⟩⟩
        · have eE8 := k8 _ _ nE.1 nE.2.2 eE
          have t8 := R6.tk k8
          refine ⟨_, rfl, ys, eE8, small1000 (by omega), ?_⟩
          refine ⟨_, ps ++ [pr], s2 + 1, upd_same, ?_, ?_, ?_, ((k6.trans k8).put hE), R8.put nE, by omega⟩
          · rw [List.map_append]
            exact (DpAll.tk (t8.lst eE8) _ (flat_pairs ps) hY).app (.cons (Dp.tk (t8.lst eE8) _ rfl hpr) .nil)
          · rw [hpt]
            exact sub.append (List.Sublist.refl _)
          · rw [upd_ne nDE]
            exact k8 _ _ nD.1 nD.2.2 eD6
        · refine ⟨ys, ps, s2 + 1, k8 _ _ nE.1 nE.2.2 eE, DpAll.tk (R6.tk k8) _ (flat_pairs ps) hY, ?_, k8 _ _ nD.1 nD.2.2 eD6, k6.trans k8, R8, by omega⟩
          rw [hpt]
          exact sub.trans (List.sublist_append_left _ _)
      · have lps := sub.length_le
        rw [List.length_take] at lps
        have lpn := PM_len (k := n) n6 (Nat.le_refl _)
        have lxs := hX5.len
        rw [List.length_map] at lxs
        refine .inl ⟨E, ys, rfl, SqL.of eE, fun pt npt => upd_gen npt fun H7 s7 e7 => ⟨two_sz, fun pf npf => upd_gen npf fun H8 s8 e8 => ?_⟩⟩
        have s78 := s7.trans s8
        refine q H8 pf ⟨ML.take n, ps⟩ s2 (R6.same s78) (by omega) ((k4.trans (Kp.of s5)).trans (k6.trans (Kp.of s78))) ?_ (fld_okM n1 n6 (sub.trans (List.take_sublist _ _)))
        exact .tup (SqT.of e8) (.cons (.tup ((((Tk.of s5).trans (R5.tk k6)).trans (Tk.of s78)).sqT hN4) (DpAll.strs _)) (.cons (.tup ((Tk.of s8).sqT (SqT.of e7)) (DpAll.tk (Tk.of s78) _ (flat_pairs ps) hY)) .nil))
end
end XB
set_option Elab.async false
set_option linter.all false
set_option maxRecDepth 100000
set_option maxHeartbeats 4000000
namespace XB
open PySem PySem.Spec PyProof.Rows L2
section
variable {P : Program} {w : World} {K : PySem.W.Frag} {mg : Str → Option Value} {base : Heap}
def TL : List Int := [1, -1, 1, -1, 2, -2, 3, -1]
def GL : List Int := [7, -12, 10 ^ 29, -10 ^ 29, 1 - 10 ^ 30, 10 ^ 30]
theorem tl_good : ∀ z ∈ TL, z ≠ 0 ∧ -(10 ^ 30) ≤ z ∧ z ≤ 10 ^ 30 := by decide +kernel
theorem gl_good : ∀ z ∈ GL, z ≠ 0 ∧ -(10 ^ 30) ≤ z ∧ z ≤ 10 ^ 30 := by decide +kernel
def Row2 (K : PySem.W.Frag) (H : Hp) (D : Addr) (l : List (Str × Int)) : Prop := ∃ xs, H D = some (.lst xs) ∧ DpAll K H xs (l.map dStep)
def spSteps (K : PySem.W.Frag) : Sp := fun vs H Q _ => ∃ (m c g f : Addr) (s most : Int) (b : Bool) (F : Fld), vs = [.ref m, .ref f, .int most, .bl b] ∧ Dr H m c g s ∧ Dp K H (.ref f) (dField F) ∧ F.Ok ∧ 0 ≤ most ∧ most ≤ 60 ∧ s < 900000000 ∧
  ∀ H' r l s', Dr H' m c g s' → s' ≤ s + 1 + 4 * most → Kp m g H H' → Dp K H' (.ref r) (dSteps l) → GoodAll F l → (l.length : Int) ≤ most → Q (.ref r) H'
def StepsInv (K : PySem.W.Frag) (F : Fld) (H : Hp) (m c g f D : Addr) (most : Int) (gb : Bool) (s : Int) (b : Nat) : L2.St → Hp → Prop := fun σ H2 => ∃ (y5 y6 : Option V) (s2 : Int) (l : List (Str × Int)), σ = [some (.ref m), some (.ref f), some (.int most), some (.bl gb), some (.ref D), y5, y6] ∧
  Kp m g H H2 ∧ Dr H2 m c g s2 ∧ s2 ≤ s + 1 + 4 * (b : Int) ∧ Row2 K H2 D l ∧ GoodAll F l ∧ l.length = b
theorem c__law_steps (T : Tx K mg) : Cl P w K mg base CX0 3 "_law_steps" (spSteps K) := by
  refine cl0 T.d__law_steps (ps := ["m", "field", "most", "great"]) (fun _ _ _ _ _ _ us hl => match us, hl with | [_, _, _, _], _ => rfl) sc__law_steps (fun vs H Q E h => ?_) (fun fa cdv A outer st H vs Q E hr h => ?_)
  · obtain ⟨m, c, g, f, s, most, b, F, rfl, _⟩ := h
    rfl
  · obtain ⟨m, c, g, f, s, most, gb, F, rfl, R, hF, ok, m0, m60, hs, q⟩ := h
    have nd := sc__law_steps.nd
    have hu := hu_of hr
    refine ⟨_, (pss_cons (ps_set (i := 4) nd rfl (.inl rfl) (pe_lst pa_nil))
    (pss_cons (ps_for PassesOwn.never rfl (pi_range1 (by rfl) T.b_range (pa_cons (pe_k (c_draw T) hr (by decide) (by rfl) (pa_cons (pv 0) (pa_cons (pe_op op_add (pv 2) pe_int) pa_nil))) pa_nil)) (pg_name (i := 5) nd rfl (.inl rfl))
    (pss_cons (ps_set (i := 6) nd rfl (.inl rfl) (pe_ix (ixk_list (K := K) rfl) (pe_lst (pa_cons pe_int (pa_cons (pe_un un_neg pe_int) (pa_cons pe_int (pa_cons (pe_un un_neg pe_int) (pa_cons pe_int (pa_cons (pe_un un_neg pe_int) (pa_cons pe_int (pa_cons (pe_un un_neg pe_int) pa_nil))))))))) (pe_k (c_draw T) hr (by decide) (by rfl) (pa_cons (pv 0) (pa_cons pe_int pa_nil))) (fun _ _ => rfl)))
    (C8.pss_cut (ps_if (PW.pt (pw_and (pt_val (pv 3)) (pw_and1 (pt_cmpR op_eq (pe_k (c_draw T) hr (by decide) (by rfl) (pa_cons (pv 0) (pa_cons pe_int pa_nil))) pe_int (nomark _))))) (pss_one (ps_set (i := 6) nd rfl (.inl rfl) (pe_ix (ixk_list (K := K) rfl) (pe_lst (pa_cons pe_int (pa_cons (pe_un un_neg pe_int) (pa_cons (pe_op op_pow pe_int pe_int) (pa_cons (pe_un un_neg (pe_op op_pow pe_int pe_int)) (pa_cons (pe_op op_sub pe_int (pe_op op_pow pe_int pe_int)) (pa_cons (pe_op op_pow pe_int pe_int) pa_nil))))))) (pe_k (c_draw T) hr (by decide) (by rfl) (pa_cons (pv 0) (pa_cons pe_int pa_nil))) (fun _ _ => rfl)))) pss_nil)
    (pss_one (ps_expr (pe_bm PySem.F.plainAttrs_list PySem.F.slot_list_append PySem.F.type_list_append mt_append (pv 4) (pa_cons (pe_tup (pa_cons (pe_ix (ixk_tup (K := K) rfl) (pe_ix (ixk_tup (K := K) rfl) (pv 1) pe_int (fun _ _ => rfl)) (pe_k (c_draw T) hr (by decide) (by rfl) (pa_cons (pv 0) (pa_cons (pe_lenS (by rfl) T.b_len (pe_ix (ixk_tup (K := K) rfl) (pv 1) pe_int (fun _ _ => rfl))) pa_nil))) (fun _ _ => rfl)) (pa_cons (pv 6) pa_nil))) pa_nil)))))))
    (pss_one (ps_ret (pe_tupleOf (by rfl) T.b_tuple (pv 4)))))), ?_⟩
    have C30 : CPow 10 30 := ⟨by decide, by decide, by decide⟩
    have C29 : CPow 10 29 := ⟨by decide, by decide, by decide⟩
    refine ⟨Nat.zero_le _, fun D hD => upd_gen hD fun H1 s1 e1 => ?_⟩
    have nD := R.nm hD
    have R1 := R.same s1
    refine ⟨_, rfl, _, rfl, _, _, rfl, rfl, m, c, g, s, most + 1, rfl, R1, by omega, by omega, by omega, fun cnt H5 c0 c1 R5 k5 => ?_⟩
    obtain ⟨nc, hnc⟩ : ∃ n : Nat, cnt = (n : Int) := ⟨cnt.toNat, by omega⟩
    subst hnc
    have t5 := (Tk.of s1).trans (R1.tk k5)
    have eD5 := k5 _ _ nD.1 nD.2.2 e1
    have k5 : Kp m g H H5 := (Kp.of s1).trans k5
    obtain ⟨_, n', p', ps, e, hA, hN, hP, hDp⟩ := (Dp.tk t5 _ (flat_field F) hF).field
    cases e
    have hlN : (F.names.map V.str).length = F.names.length := List.length_map ..
    have f0 := ok.n0
    have f6 := ok.n6
    refine ⟨_, rfl, by omega, by omega, ?_⟩
    refine for_range (lo := 0) (n := nc) (fun i σ H2 => StepsInv K F H m c g f D most gb s i σ H2 ∧ Tk H5 H2)
      ⟨⟨none, none, s + 1, [], rfl, k5, R5, by omega, ⟨[], eD5, .nil⟩, (fun _ h => nomatch h), rfl⟩, Tk.refl⟩ (fun i σ H6 hi ⟨⟨y5, y6, s2, l, eσ, k6, R6, hs6, ⟨ys, eD6, hY⟩, hg, hlen⟩, t6⟩ => ?_) (fun σ H6 ⟨⟨y5, y6, s2, l, eσ, k6, R6, hs6, ⟨ys, eD6, hY⟩, hg, hlen⟩, t6⟩ => ?_)
    · subst eσ
      have hly := hY.len
      rw [List.length_map] at hly
      refine ⟨_, rfl, _, rfl, _, rfl, _, rfl, (show 8 ≤ sizeLine by decide), fun S hS => upd_gen hS fun H7 s7 e7 => ?_⟩
      have e7 : H7 S = some (.lst (TL.map V.int)) := e7
      have nS := R6.nm hS
      refine ⟨_, rfl, m, c, g, s2, 8, rfl, R6.same s7, by omega, by omega, by omega, fun r H8 r0 r1 R8 k8 => ?_⟩
      obtain ⟨a, rfl⟩ : ∃ i : Nat, r = (i : Int) := ⟨r.toNat, by omega⟩
      have ha : a < TL.length := by show a < 8; omega
      have hz : TL[a]? = some TL[a] := List.getElem?_eq_getElem ha
      have gz := tl_good _ (List.getElem_mem ha)
      generalize TL[a] = z at hz gz
      refine ⟨S, _, a, .int z, rfl, rfl, SqL.of (k8 _ _ nS.1 nS.2.2 e7), at_of (j := a) rfl (by rw [List.getElem?_map, hz]; rfl), ?_⟩
      have k68 : Kp m g H6 H8 := (Kp.of s7).trans k8
      refine ⟨fun σ H' => ∃ (z : Int) (s3 : Int), σ = [some (.ref m), some (.ref f), some (.int most), some (.bl gb), some (.ref D), some (.int (0 + (i : Int))), some (.int z)] ∧ GoodTimes z ∧ Kp m g H6 H' ∧ Dr H' m c g s3 ∧ s3 ≤ s2 + 3, ?_, ?_⟩
      · refine ⟨_, rfl, gb, rfl, ?_⟩
        cases gb
        · exact iteF (iteF ⟨z, s2 + 1, rfl, gz, k68, R8, by omega⟩)
        · refine iteT ⟨_, rfl, m, c, g, s2 + 1, 4, rfl, R8, by omega, by omega, by omega, fun r H9 r0 r1 R9 k9 => ⟨rfl, _, rfl, ?_⟩⟩
          have k69 := k68.trans k9
          refine ite2 (fun _ => ?_) (fun _ => ⟨z, s2 + 1 + 1, rfl, gz, k69, R9, by omega⟩)
          refine ⟨_, rfl, _, _, rfl, rfl, C29, _, _, rfl, rfl, C29, _, rfl, _, _, rfl, rfl, C30, _, _, rfl, rfl, _, _, rfl, rfl, C30, (show 6 ≤ sizeLine by decide), fun S2 hS2 => upd_gen hS2 fun H10 s10 e10 => ?_⟩
          have e10 : H10 S2 = some (.lst (GL.map V.int)) := e10
          have nS2 := R9.nm hS2
          refine ⟨_, rfl, m, c, g, s2 + 1 + 1, 6, rfl, R9.same s10, by omega, by omega, by omega, fun r H11 r0 r1 R11 k11 => ?_⟩
          obtain ⟨b, rfl⟩ : ∃ i : Nat, r = (i : Int) := ⟨r.toNat, by omega⟩
          have hb : b < GL.length := by show b < 6; omega
          have hz : GL[b]? = some GL[b] := List.getElem?_eq_getElem hb
          have gz := gl_good _ (List.getElem_mem hb)
          exact ⟨S2, _, b, .int GL[b], rfl, rfl, SqL.of (k11 _ _ nS2.1 nS2.2.2 e10), at_of (j := b) rfl (by rw [List.getElem?_map, hz]; rfl), ⟨GL[b], s2 + 1 + 1 + 1, rfl, gz, (k69.trans (Kp.of s10)).trans k11, R11, by omega⟩⟩
      · rintro σ' H12 ⟨z, s3, rfl, gz, k12, R12, hs3⟩
        have t12 := R6.tk k12
        have t512 := t6.trans t12
        have eD12 := k12 _ _ nD.1 nD.2.2 eD6
        refine ⟨_, rfl, Or.inl ⟨rfl, _, SqL.of eD12⟩, ?_⟩
        refine ⟨_, rfl, ix0 (t512.sqT hA) ⟨_, rfl, _, rfl, ix0 (t512.sqT hA) ⟨n', _, rfl, .inr (t512.sqT hN), m, c, g, s3, _, rfl, R12, by rw [hlN]; omega, by rw [hlN]; omega, by omega, fun r13 H13 r0 r1 R13 k13 => ?_⟩⟩⟩
        rw [hlN] at r1
        obtain ⟨ja, hja⟩ : ∃ a : Nat, r13 = (a : Int) := ⟨r13.toNat, by omega⟩
        have hx : F.names[ja]? = some F.names[ja] := List.getElem?_eq_getElem (by omega)
        have hxm := List.mem_of_getElem? hx
        generalize F.names[ja] = x at hx hxm
        have t13 := t12.trans (R12.tk k13)
        have eD13 := k13 _ _ nD.1 nD.2.2 eD12
        refine ⟨_, _, _, .str x, rfl, rfl, (t6.trans t13).sqT hN, at_of hja (by rw [List.getElem?_map, hx]; rfl), _, rfl, ⟨two_sz, fun p nb => upd_gen nb fun H14 s14 e14 => ?_⟩⟩
        have eD14 := s14 _ _ eD13
        have tT : Tk H13 (upd H14 D (.lst (ys ++ [.ref p]))) := (Tk.of s14).lst eD14
        refine ⟨D, ys, .ref p, rfl, rfl, eD14, small1000 (by omega), ?_⟩
        refine ⟨⟨_, _, s3 + 1, l ++ [(x, z)], rfl, (((k6.trans k12).trans k13).trans (Kp.of s14)).put hD, (R13.same s14).put nD, by omega, ⟨ys ++ [.ref p], upd_same, ?_⟩, fun y hy => ?_, by rw [List.length_append, hlen]; rfl⟩, (t6.trans t13).trans tT⟩
        · rw [List.map_append]
          exact (DpAll.tk (t13.trans tT) _ (flat_all_steps l) hY).app (.cons (Dp.of_step (s := (x, z)) ((Tk.refl.lst eD14).sqT (SqT.of e14))) .nil)
        · rcases List.mem_append.mp hy with h | h
          · exact hg y h
          · rw [List.mem_singleton.mp h]
            exact ⟨hxm, gz⟩
    · subst eσ
      have hly := hY.len
      rw [List.length_map] at hly
      refine ⟨_, rfl, .inl ⟨D, ys, rfl, SqL.of eD6, fun r hr' => upd_gen hr' fun H7 s7 e7 => ?_⟩⟩
      exact q _ r l s2 (R6.same s7) (by omega) (k6.trans (Kp.of s7)) (.tup (SqT.of e7) (DpAll.tk (Tk.of s7) _ (flat_all_steps l) hY)) hg (by omega)
end
end XB
set_option Elab.async false
set_option linter.all false
set_option maxRecDepth 100000
set_option maxHeartbeats 4000000
namespace XB
open PySem PySem.Spec PyProof.Rows L2
section
variable {P : Program} {w : World} {K : PySem.W.Frag} {mg : Str → Option Value} {base : Heap}
def spApart2 (K : PySem.W.Frag) (F : Fld) : Sp := fun vs H Q _ => ∃ (a : Addr) (x y : Str), vs = [.ref a, .str x, .str y] ∧ Dp K H (.ref a) (dField F) ∧ F.Ok ∧ x ∈ F.names ∧ y ∈ F.names ∧ ∀ H', Same H H' → Q (.bl (apart F x y)) H'
theorem c__law_apart2 (T : Tx K mg) (F : Fld) : Cl P w K mg base CX0 1 "_law_apart" (spApart2 K F) := by
  refine cl0 T.d__law_apart (ps := ["field", "one", "other"]) (fun _ _ _ _ _ _ us hl => match us, hl with | [_, _, _], _ => rfl) sc__law_apart (fun vs H Q E h => ?_) (fun f cdv A outer st H vs Q E hr h => ?_)
  · obtain ⟨a, x, y, rfl, _⟩ := h
    rfl
  · obtain ⟨a, x, y, rfl, hF, ok, ma, mb, q⟩ := h
    have nd := sc__law_apart.nd
    have hu := u65 hr
    obtain ⟨_, n, p, ps, e, hA, hN, hP, hD⟩ := hF.field
    cases e
    refine ⟨_, (pss_one (ps_ret (pe_cmpR (op_inDTk (K := K) rfl hu) (pe_tup (pa_cons (pe_callB (call_min2S rfl) (by rfl) T.b_min (by decide +kernel) (pa_cons (pv 1) (pa_cons (pv 2) pa_nil))) (pa_cons (pe_callB (call_max2S rfl) (by rfl) T.b_max (by decide +kernel) (pa_cons (pv 1) (pa_cons (pv 2) pa_nil))) pa_nil))) (pe_ix (ixk_tup (K := K) rfl) (pv 0) pe_int (fun _ _ => rfl)) (by rfl)))), ?_⟩
    refine ⟨_, rfl, _, rfl, _, _, rfl, _, rfl, _, rfl, _, _, rfl, (show 2 ≤ sizeLine by decide), fun t ht => ?_⟩
    have s1 := same_upd (o := .tup [.str (if sLt y x then y else x), .str (if sLt x y then y else x)]) ht
    refine ⟨_, rfl, _, _, _, _, rfl, rfl, (Tk.of s1).sqT hA, rfl, ?_⟩
    refine ⟨dPair ((if sLt y x then y else x), (if sLt x y then y else x)), F.pairs.map dPair, .tup (SqT.of upd_same) (.cons (.str _) (.cons (.str _) .nil)), .tup ((Tk.of s1).sqT hP) (DpAll.tk (Tk.of s1) _ (flat_pairs _) hD), sh_pair ?_ ?_, sh_pairs ok.good, ?_⟩
    · show GoodName (if sLt y x then y else x)
      split <;> first | exact ok.sgn _ ma | exact ok.sgn _ mb
    · show GoodName (if sLt x y then y else x)
      split <;> first | exact ok.sgn _ ma | exact ok.sgn _ mb
    · rw [any_pairs, apart_min ok]
      exact q _ s1
def spMeet (K : PySem.W.Frag) (F : Fld) : Sp := fun vs H Q _ => ∃ (a p : Addr) (xs : List V) (l : List (Str × Int)), vs = [.ref a, .ref p] ∧ Dp K H (.ref a) (dField F) ∧ F.Ok ∧ SqX K H p xs ∧ DpAll K H xs (l.map dStep) ∧ Names F l ∧ l.length ≤ 200 ∧
  metV K H Q (XM.met (OF F) l)
theorem c__law_meet (T : Tx K mg) (F : Fld) : Cl P w K mg base CX0 2 "_law_meet" (spMeet K F) := by
  refine cl0 T.d__law_meet (ps := ["field", "steps"]) (fun _ _ _ _ _ _ us hl => match us, hl with | [_, _], _ => rfl) sc__law_meet (fun vs H Q E h => ?_) (fun f cdv A outer st H vs Q E hr h => ?_)
  · obtain ⟨a, p, xs, l, rfl, _⟩ := h
    rfl
  · obtain ⟨a, p, xs, l, rfl, hF, ok, hS, hD, hN, hl60, q⟩ := h
    have nd := sc__law_meet.nd
    have hlx := hD.len
    rw [List.length_map] at hlx
    refine ⟨_, (pss_cons (ps_for PassesOwn.never rfl (pi_range1 (by rfl) T.b_range (pa_cons (pe_lenS (by rfl) T.b_len (pv 1)) pa_nil)) (pg_name (i := 2) nd rfl (.inl rfl))
    (pss_one (ps_for PassesOwn.never rfl (pi_range2 (by rfl) T.b_range (pa_cons (pe_op op_add (pv 2) pe_int) (pa_cons (pe_lenS (by rfl) T.b_len (pv 1)) pa_nil))) (pg_name (i := 3) nd rfl (.inl rfl))
    (pss_cons (ps_if (pt_cmpR op_eq (pe_ix (ixk_tup (K := K) rfl) (pe_ix (ixk_row (K := K) rfl) (pv 1) (pv 3) (fun _ _ => rfl)) pe_int (fun _ _ => rfl)) (pe_ix (ixk_tup (K := K) rfl) (pe_ix (ixk_row (K := K) rfl) (pv 1) (pv 2) (fun _ _ => rfl)) pe_int (fun _ _ => rfl)) (nomark _)) (pss_one (ps_ret (pe_tup (pa_cons (pv 2) (pa_cons (pv 3) pa_nil))))) pss_nil)
    (pss_one (ps_if (pt_not (pt_val (pe_k (c__law_apart2 T F) hr (by decide) (by rfl) (pa_cons (pv 0) (pa_cons (pe_ix (ixk_tup (K := K) rfl) (pe_ix (ixk_row (K := K) rfl) (pv 1) (pv 2) (fun _ _ => rfl)) pe_int (fun _ _ => rfl)) (pa_cons (pe_ix (ixk_tup (K := K) rfl) (pe_ix (ixk_row (K := K) rfl) (pv 1) (pv 3) (fun _ _ => rfl)) pe_int (fun _ _ => rfl)) pa_nil)))))) (pss_one ps_break) pss_nil))))))
    (pss_one (ps_ret pe_non))), ?_⟩
    refine ⟨_, rfl, p, xs, rfl, hS, xs.length, rfl, by omega, by omega, ?_⟩
    refine for_range (lo := 0) (n := xs.length) (fun k σ H2 => ∃ (y2 y3 : Option V), σ = [some (.ref a), some (.ref p), y2, y3] ∧ Same H H2 ∧ XM.met (OF F) l = up k (XM.met (OF F) (l.drop k)))
      ⟨none, none, rfl, Same.refl _, by rw [List.drop_zero]; unfold up; simp⟩ (fun k σ H2 hk ⟨y2, y3, eσ, s2, em⟩ => ?_) (fun σ H2 ⟨y2, y3, eσ, s2, em⟩ => ?_)
    · subst eσ
      have hs : l[k]? = some l[k] := List.getElem?_eq_getElem (by omega)
      have ms := hN _ (List.mem_of_getElem? hs)
      generalize l[k] = s at hs ms
      rw [Int.zero_add]
      refine ⟨_, rfl, (k : Int), 1, rfl, rfl, _, rfl, p, xs, rfl, hS.same s2, _, _, rfl, by omega, ?_⟩
      have hn : ((xs.length : Int) - ((k : Int) + 1)).toNat = l.length - (k + 1) := by omega
      refine for_range (lo := (k : Int) + 1) (n := ((xs.length : Int) - ((k : Int) + 1)).toNat) (fun j σ H3 => ∃ (y3 : Option V), σ = [some (.ref a), some (.ref p), some (.int (k : Int)), y3] ∧ Same H H3 ∧ XM.near (OF F) s.1 (l.drop (k + 1)) = (XM.near (OF F) s.1 (l.drop (k + 1 + j))).map (· + j))
        ⟨y3, rfl, s2, by simp⟩ (fun j σ H3 hj ⟨y3, eσ, s3, en⟩ => ?_) (fun σ H3 ⟨y3, eσ, s3, en⟩ => ?_)
      · subst eσ
        have hy : l[k + 1 + j]? = some l[k + 1 + j] := List.getElem?_eq_getElem (by omega)
        have my := hN _ (List.mem_of_getElem? hy)
        generalize l[k + 1 + j] = y at hy my
        obtain ⟨c, hc, cc⟩ := (DpAll.tk (Tk.of s3) _ (flat_all_steps l) hD).step hy
        obtain ⟨b, hb, cb⟩ := (DpAll.tk (Tk.of s3) _ (flat_all_steps l) hD).step hs
        have ej : (k : Int) + 1 + (j : Int) = ((k + 1 + j : Nat) : Int) := by omega
        rw [ej]
        refine ⟨_, rfl, _, rfl, _, _, _, _, rfl, rfl, hS.same s3, at_of (j := k + 1 + j) rfl hc, _, _, _, _, rfl, rfl, cc, rfl, _, rfl, _, rfl, _, _, _, _, rfl, rfl, hS.same s3, at_of (j := k) rfl hb, _, _, _, _, rfl, rfl, cb, rfl, rfl, _, rfl, ?_⟩
        rw [drop_at hy] at en
        have en : _ = ((if y.1 = s.1 then some 0 else if (OF F).tc y.1 s.1 then none else (XM.near (OF F) s.1 (l.drop (k + 1 + j + 1))).map (· + 1)) : Option Nat).map (· + j) := en
        rw [show decide (V.str y.1 = V.str s.1) = decide (y.1 = s.1) from decide_eq_decide.mpr ⟨fun h => V.str.inj h, fun h => congrArg _ h⟩]
        by_cases e : y.1 = s.1
        · rw [decide_eq_true e]
          rw [if_pos e] at en
          have en : XM.near (OF F) s.1 (l.drop (k + 1)) = some (0 + j) := en
          rw [Nat.zero_add] at en
          rw [met_here hs en] at em
          rw [em] at q
          refine iteT ⟨_, rfl, _, rfl, (show 2 ≤ sizeLine by decide), fun T hT => q _ T (same_new s3 hT) (SqT.of upd_same)⟩
        · rw [decide_eq_false e]
          rw [if_neg e] at en
          refine iteF ?_
          refine ⟨_, rfl, _, rfl, _, rfl, _, _, _, _, rfl, rfl, hS.same s3, at_of (j := k) rfl hb, _, _, _, _, rfl, rfl, cb, rfl, _, rfl, _, rfl, _, _, _, _, rfl, rfl, hS.same s3, at_of (j := k + 1 + j) rfl hc, _, _, _, _, rfl, rfl, cc, rfl, ?_⟩
          refine ⟨a, s.1, y.1, rfl, Dp.tk (Tk.of s3) _ (flat_field F) hF, ok, ms, my, fun H4 s4 => ⟨_, rfl, ?_⟩⟩
          rw [(OF F).symm, tc_eq ok] at en
          cases ha : apart F s.1 y.1
          · rw [ha] at en
            have en : XM.near (OF F) s.1 (l.drop (k + 1)) = none := en
            rw [met_none hs en] at em
            exact iteT ⟨_, _, rfl, s3.trans s4, em⟩
          · rw [ha] at en
            refine iteF ⟨_, rfl, s3.trans s4, ?_⟩
            rw [en]
            show ((XM.near (OF F) s.1 (l.drop (k + 1 + j + 1))).map (· + 1)).map (· + j) = _
            rw [Option.map_map, ← Nat.add_assoc]
            congr 1
            funext n
            show n + 1 + j = n + (j + 1)
            omega
      · subst eσ
        rw [hn, show l.drop (k + 1 + (l.length - (k + 1))) = [] from List.drop_eq_nil_iff.mpr (by omega)] at en
        rw [met_none hs en] at em
        exact ⟨_, _, rfl, s3, em⟩
    · subst eσ
      rw [hlx, List.drop_length] at em
      rw [em] at q
      exact q _ s2
theorem c__law_back3 (T : Tx K mg) : Cl P w K mg base CX0 1 "_law_back" (spBack K) := by
  refine cl0 T.d__law_back (ps := ["steps"]) (fun _ _ _ _ _ _ us hl => match us, hl with | [_], _ => rfl) sc__law_back (fun vs H Q E h => ?_) (fun f cdv A outer st H vs Q E hr h => ?_)
  · obtain ⟨a, l, rfl, _⟩ := h
    rfl
  · obtain ⟨a, l, rfl, hL, hl, q⟩ := h
    have nd := sc__law_back.nd
    obtain ⟨_, xs, e, hS, hD⟩ := hL.steps
    cases e
    have hlx := hD.len
    rw [List.length_map] at hlx
    refine ⟨_, pss_one (ps_ret (pe_tupleOf (by rfl) T.b_tuple (pe_lc (own := [("name", 1), ("times", 2)]) (g := gTup K 2 (gCons (gName 1) (gCons (gName 2) gNil))) (tt := tYes) (by rfl) nd (pi_tup (pe_revT (pv 0)))
      (blkOk_by (own := [("name", 1), ("times", 2)]) (N := ["steps", "name", "times"]) (sc := defScope s__law_back) (by decide +kernel))
      (fun _ _ _ _ _ => pg_tup rfl (pgs_cons (pg_name (i := 1) nd rfl (Or.inl rfl)) (pgs_cons (pg_name (i := 2) nd rfl (Or.inl rfl)) pgs_nil))) (fun _ _ _ _ _ => pts_nil)
      (fun _ _ _ _ _ => pe_tup (pa_cons (pv 1) (pa_cons (pe_un un_neg (pv 2)) pa_nil)))))), ?_⟩
    refine ⟨_, rfl, a, xs, rfl, hS, fun p hp => ⟨p, rfl, ⟨_, SqT.of upd_same⟩, fun D hD' => ?_⟩⟩
    have s0 : Same H (upd H p (.tup xs.reverse)) := same_upd hp
    have hB : SqT K (upd H p (.tup xs.reverse)) p xs.reverse := SqT.of upd_same
    have hR : DpAll K (upd H p (.tup xs.reverse)) xs.reverse (l.reverse.map dStep) := by
      rw [List.map_reverse]
      exact (DpAll.tk (Tk.of s0) _ (flat_all_steps l) hD).rev
    generalize upd H p (.tup xs.reverse) = H1 at s0 hB hR hD' ⊢
    refine lc_it (walk_tup (xs := xs.reverse)) (fun i H' => Row1 K H' D ((l.reverse.take i).map fun x => (x.1, -x.2)) ∧ Same H1 H') ⟨⟨[], upd_same, .nil⟩, same_upd hD'⟩ (fun _ _ _ ⟨_, s'⟩ => (Tk.of s').sqT hB) (fun i x H2 H3 hi ⟨⟨ys, eD, hY⟩, s'⟩ hy => ?_) (fun H2 ⟨⟨ys, eD, hY⟩, s'⟩ => ?_)
    · obtain ⟨rfl, hx⟩ := hy
      obtain ⟨dd, g1, p1⟩ := hR.get hx
      rw [List.getElem?_map] at g1
      obtain ⟨s, k1, rfl⟩ := Option.map_eq_some_iff.mp g1
      obtain ⟨b, rfl, cb⟩ := p1.step
      have hly := hY.len
      rw [List.length_map, List.length_map, List.length_take, List.length_reverse] at hly
      refine ⟨b, _, rfl, (Tk.of s').sqT cb, rfl, _, _, rfl, _, _, rfl, rfl, rfl, yes_ ?_⟩
      refine ⟨_, rfl, _, rfl, s.2, rfl, (show 2 ≤ sizeLine by decide), fun T hT => ⟨ys, ?_, small1000 (by omega), ?_, same_put (same_new s' hT) hD'⟩⟩
      · rw [upd_ne (ne_of_none eD hT)]
        exact eD
      · refine Row1.put (xs := ys) (by rw [upd_ne (ne_of_none eD hT)]; exact eD) ?_
        rw [take_snoc k1, List.map_append, List.map_append]
        exact (DpAll.tk (Tk.of (same_upd hT)) _ (flat_all_steps _) hY).app (.cons (Dp.of_step (s := (s.1, -s.2)) (SqT.of upd_same)) .nil)
    · rw [List.length_reverse, hlx, show l.length = l.reverse.length from (List.length_reverse).symm, List.take_length] at hY
      refine .inl ⟨D, ys, rfl, SqL.of eD, fun r hr' => q _ r (same_new (s0.trans s') hr') ?_⟩
      unfold XM.back
      rw [← List.map_reverse]
      exact .tup (SqT.of upd_same) (DpAll.tk (Tk.of (same_upd hr')) _ (flat_all_steps _) hY)
end
end XB
set_option Elab.async false
set_option linter.all false
set_option maxRecDepth 100000
set_option maxHeartbeats 4000000
namespace XB
open PySem PySem.Spec PyProof.Rows L2
theorem Row2.same {K : PySem.W.Frag} {H H' : Hp} {D : Addr} {l : List (Str × Int)} (h : Row2 K H D l) (s : Same H H') : Row2 K H' D l := by
  obtain ⟨xs, e, v⟩ := h
  exact ⟨xs, s _ _ e, DpAll.tk (Tk.of s) _ (flat_all_steps l) v⟩
theorem Row2.get {K : PySem.W.Frag} {H : Hp} {D : Addr} {l : List (Str × Int)} {k : Nat} {s : Str × Int} (h : Row2 K H D l) (e : l[k]? = some s) : ∃ xs b, SqL K H D xs ∧ atI xs (k : Int) = some (.ref b) ∧ SqT K H b [.str s.1, .int s.2] := by
  obtain ⟨xs, e1, v⟩ := h
  obtain ⟨b, hb, cb⟩ := v.step e
  exact ⟨xs, b, SqL.of e1, at_of (j := k) rfl hb, cb⟩
/-- two that come together, by two cuts -/
theorem melt_eq {α : Type} {l x : List α} {i j : Nat} (h1 : i < j) (h2 : j < l.length) : ((l.take j ++ l.drop (j + 1)).take i ++ x) ++ (l.take j ++ l.drop (j + 1)).drop (i + 1) = melt l x i j := by
  have l1 : (l.take j).length = j := by rw [List.length_take]; omega
  unfold melt
  rw [List.take_append_of_le_length (by omega), List.take_take, Nat.min_eq_left (by omega), List.drop_append_of_le_length (by omega), List.drop_take]
theorem dp_rep {K : PySem.W.Frag} {H : Hp} {xs : List V} {ds : List PyData} (h : DpAll K H xs ds) : ∀ n : Nat, DpAll K H (List.replicate n xs).flatten (List.replicate n ds).flatten
  | 0 => .nil
  | n + 1 => by
    rw [List.replicate_succ, List.replicate_succ, List.flatten_cons, List.flatten_cons]
    exact h.app (dp_rep h n)
def PileInv3 (K : PySem.W.Frag) (F : Fld) (H : Hp) (a p : Addr) (l : List (Str × Int)) : Nat → L2.St → Hp → Prop := fun m σ H2 => ∃ (D : Addr) (l' : List (Str × Int)) (z : V) (y4 y5 : Option V), m = l'.length ∧ σ = [some (.ref a), some (.ref p), some (.ref D), some z, y4, y5] ∧ Same H H2 ∧ Row2 K H2 D l' ∧ H D = none ∧
        Names F l' ∧ XM.NZ l' ∧ XM.act (OF F) l' [] = XM.act (OF F) l [] ∧ l'.length ≤ l.length ∧ SpotV K H2 z (XM.met (OF F) l')
section
variable {P : Program} {w : World} {K : PySem.W.Frag} {mg : Str → Option Value} {base : Heap}
theorem rowCat {H : Hp} {a b : Addr} {l m : List (Str × Int)} {Q : VK} (h1 : Row2 K H a l) (h2 : Row2 K H b m) (hl : l.length + m.length ≤ 900) (q : ∀ H' p, Same H H' → H p = none → Row2 K H' p (l ++ m) → Q (.ref p) H') : rCat (.ref a) (.ref b) H Q := by
  obtain ⟨xs, e1, v1⟩ := h1
  obtain ⟨ys, e2, v2⟩ := h2
  have l1 := v1.len
  have l2 := v2.len
  rw [List.length_map] at l1 l2
  refine catL e1 e2 (Nat.le_of_lt (small1000 (by omega))) fun H' p s hp e => q H' p s hp ⟨_, e, ?_⟩
  rw [List.map_append]
  exact (DpAll.tk (Tk.of s) _ (flat_all_steps l) v1).app (DpAll.tk (Tk.of s) _ (flat_all_steps m) v2)
theorem rowTake {H : Hp} {a : Addr} {l : List (Str × Int)} {k : Nat} {Q : VK} (h : Row2 K H a l) (q : ∀ H' p, Same H H' → H p = none → Row2 K H' p (l.take k) → Q (.ref p) H') : rSlL K (.ref a) none (some (k : Int)) H Q := by
  obtain ⟨xs, e, v⟩ := h
  refine slL e fun H' p s hp e' => q H' p s hp ⟨xs.take k, ?_, ?_⟩
  · rw [cut_init] at e'
    exact e'
  · rw [List.map_take]
    exact (DpAll.tk (Tk.of s) _ (flat_all_steps l) v).take k
theorem rowDrop {H : Hp} {a : Addr} {l : List (Str × Int)} {k : Nat} {Q : VK} (h : Row2 K H a l) (q : ∀ H' p, Same H H' → H p = none → Row2 K H' p (l.drop k) → Q (.ref p) H') : rSlL K (.ref a) (some (k : Int)) none H Q := by
  obtain ⟨xs, e, v⟩ := h
  refine slL e fun H' p s hp e' => q H' p s hp ⟨xs.drop k, ?_, ?_⟩
  · rw [cut_from] at e'
    exact e'
  · rw [List.map_drop]
    exact (DpAll.tk (Tk.of s) _ (flat_all_steps l) v).drop k
def spPile3 (K : PySem.W.Frag) (F : Fld) : Sp := fun vs H Q _ => ∃ (a p : Addr) (xs : List V) (l : List (Str × Int)), vs = [.ref a, .ref p] ∧ Dp K H (.ref a) (dField F) ∧ F.Ok ∧ SqX K H p xs ∧ DpAll K H xs (l.map dStep) ∧ Names F l ∧ XM.NZ l ∧ l.length ≤ 200 ∧
  ∀ H' r l', Same H H' → Row2 K H' r l' → H r = none → Names F l' → XM.NZ l' → XM.pl (OF F) l' = true → XM.act (OF F) l' [] = XM.act (OF F) l [] → l'.length ≤ l.length → Q (.ref r) H'
theorem c__law_pile3 (T : Tx K mg) (F : Fld) : Cl P w K mg base CX0 3 "_law_pile" (spPile3 K F) := by
  refine cl0 T.d__law_pile (ps := ["field", "steps"]) (fun _ _ _ _ _ _ us hl => match us, hl with | [_, _], _ => rfl) sc__law_pile (fun vs H Q E h => ?_) (fun f cdv A outer st H vs Q E hr h => ?_)
  · obtain ⟨a, p, xs, l, rfl, _⟩ := h
    rfl
  · obtain ⟨a, p, xs, l, rfl, hF, ok, hS, hV, hN, hZ, hl, q⟩ := h
    have nd := sc__law_pile.nd
    refine ⟨_, (pss_cons (ps_set (i := 2) nd rfl (.inl rfl) (pe_callTy call_list_of (by rfl) T.b_list (by decide +kernel) (pa_cons (pv 1) pa_nil)))
    (pss_cons (ps_set (i := 3) nd rfl (.inl rfl) (pe_k (c__law_meet T F) hr (by decide) (by rfl) (pa_cons (pv 0) (pa_cons (pv 2) pa_nil))))
    (pss_cons (ps_while PassesOwn.never (pt_cmpR op_notN (pv 3) pe_non (nomark _))
    (pss_cons (ps_par (i := 4) (j := 5) rfl nd rfl rfl (by decide) rfl rfl (pa_cons (pe_ix (ixk_tup (K := K) rfl) (pe_ix (ixk_list (K := K) rfl) (pv 2) (pe_ix (ixk_tup (K := K) rfl) (pv 3) pe_int (fun _ _ => rfl)) (fun _ _ => rfl)) pe_int (fun _ _ => rfl)) (pa_cons (pe_op op_add (pe_ix (ixk_tup (K := K) rfl) (pe_ix (ixk_list (K := K) rfl) (pv 2) (pe_ix (ixk_tup (K := K) rfl) (pv 3) pe_int (fun _ _ => rfl)) (fun _ _ => rfl)) pe_int (fun _ _ => rfl)) (pe_ix (ixk_tup (K := K) rfl) (pe_ix (ixk_list (K := K) rfl) (pv 2) (pe_ix (ixk_tup (K := K) rfl) (pv 3) pe_int (fun _ _ => rfl)) (fun _ _ => rfl)) pe_int (fun _ _ => rfl))) pa_nil)) rfl)
    (pss_cons (ps_set (i := 2) nd rfl (.inl rfl) (pe_op op_cat (pe_slice sl_list (pv 2) po_none (po_some (pe_ix (ixk_tup (K := K) rfl) (pv 3) pe_int (fun _ _ => rfl)))) (pe_slice sl_list (pv 2) (po_some (pe_op op_add (pe_ix (ixk_tup (K := K) rfl) (pv 3) pe_int (fun _ _ => rfl)) pe_int)) po_none)))
    (pss_cons (ps_set (i := 2) nd rfl (.inl rfl) (pe_op op_cat (pe_op op_cat (pe_slice sl_list (pv 2) po_none (po_some (pe_ix (ixk_tup (K := K) rfl) (pv 3) pe_int (fun _ _ => rfl)))) (pe_op op_rep (pe_lst (pa_cons (pe_tup (pa_cons (pv 4) (pa_cons (pv 5) pa_nil))) pa_nil)) (pe_callTy call_int1 (by rfl) T.b_int (by decide +kernel) (pa_cons (pe_cmpR op_ne (pv 5) pe_int (nomark _)) pa_nil)))) (pe_slice sl_list (pv 2) (po_some (pe_op op_add (pe_ix (ixk_tup (K := K) rfl) (pv 3) pe_int (fun _ _ => rfl)) pe_int)) po_none)))
    (pss_one (ps_set (i := 3) nd rfl (.inl rfl) (pe_k (c__law_meet T F) hr (by decide) (by rfl) (pa_cons (pv 0) (pa_cons (pv 2) pa_nil)))))))))
    (pss_one (ps_ret (pv 2)))))), ?_⟩
    have K1 : ∀ {H2 : Hp}, Same H H2 → Dp K H2 (.ref a) (dField F) := fun s => Dp.tk (Tk.of s) _ (flat_field F) hF
    refine ⟨_, rfl, p, xs, rfl, hS, fun D hD0 => upd_gen hD0 fun H1 s1 e1 => ?_⟩
    have hD1 : Row2 K H1 D l := ⟨xs, e1, DpAll.tk (Tk.of s1) _ (flat_all_steps l) hV⟩
    obtain ⟨xs1, eD1, hV1⟩ := id hD1
    refine ⟨_, rfl, _, rfl, a, D, xs1, l, rfl, K1 s1, ok, .inl (SqL.of eD1), hV1, hN, hl, metV_of fun H2 z s2 hz => ?_⟩
    refine ⟨PileInv3 K F H a p l, ⟨_, D, l, z, none, none, rfl, rfl, s1.trans s2, hD1.same s2, hD0, hN, hZ, rfl, Nat.le_refl _, hz⟩, ?_⟩
    rintro m σ H3 ⟨D, l', z, y4, y5, rfl, rfl, s3, hD, hD0, hN', hZ', ea, hle, hz⟩
    refine ⟨_, rfl, rfl, _, rfl, ?_⟩
    cases hm : XM.met (OF F) l' with
    | none =>
      rw [hm] at hz
      have hz : z = .non := hz
      subst hz
      refine iteF ⟨_, rfl, q _ D l' s3 hD hD0 hN' hZ' (XM.met_pl.mp hm) ea hle⟩
    | some ij =>
      obtain ⟨i, j⟩ := ij
      rw [hm] at hz
      obtain ⟨t, rfl, ht⟩ := hz
      obtain ⟨nm, s, u, hi, hj, hij, hjl, hx⟩ := melt_step hm hZ' hN'
      obtain ⟨xs3, b1, q1, q2, q3⟩ := hD.get hi
      obtain ⟨xs4, b2, q4, q5, q6⟩ := hD.get hj
      refine iteT ⟨fun σ' H' => ∃ m', m' < l'.length ∧ PileInv3 K F H a p l m' σ' H', fun _ _ h => h, ?_⟩
      refine ⟨_, rfl, _, rfl, _, _, _, _, rfl, rfl, ht, rfl, _, _, _, _, rfl, rfl, q1, q2, _, _, _, _, rfl, rfl, q3, rfl, ?_⟩
      refine ⟨_, rfl, _, rfl, _, _, _, _, rfl, rfl, ht, rfl, _, _, _, _, rfl, rfl, q1, q2, _, _, _, _, rfl, rfl, q3, rfl, ?_⟩
      refine ⟨_, rfl, _, rfl, _, _, _, _, rfl, rfl, ht, rfl, _, _, _, _, rfl, rfl, q4, q5, _, _, _, _, rfl, rfl, q6, rfl, s, u, rfl, rfl, _, _, rfl, ?_⟩
      refine ⟨_, rfl, ?_⟩
      refine noPart ⟨_, rfl, _, _, _, _, rfl, rfl, ht, rfl, (j : Int), rfl, rowTake hD fun H4 p4 s4 n4 r4 => ?_⟩
      refine ⟨_, rfl, _, rfl, _, _, _, _, rfl, rfl, (Tk.of s4).sqT ht, rfl, _, _, rfl, rfl, ((j + 1 : Nat) : Int), rfl, ?_⟩
      refine noPart (rowDrop (hD.same s4) fun H5 p5 s5 n5 r5 => ?_)
      refine rowCat (r4.same s5) r5 (by rw [List.length_take, List.length_drop]; omega) fun H6 p6 s6 n6 r6 => ?_
      have s36 := (s4.trans s5).trans s6
      refine ⟨_, rfl, ?_⟩
      refine noPart ⟨_, rfl, _, _, _, _, rfl, rfl, (Tk.of s36).sqT ht, rfl, (i : Int), rfl, rowTake r6 fun H7 p7 s7 n7 r7 => ?_⟩
      refine ⟨_, rfl, _, rfl, two_sz, fun T hT => upd_gen hT fun H8 s8 e8 => ⟨one_sz, fun L hL => upd_gen hL fun H9 s9 e9 => ?_⟩⟩
      have rL : Row2 K H9 L [(nm, s + u)] := ⟨_, e9, .cons (Dp.of_step (s := (nm, s + u)) ((Tk.of s9).sqT (SqT.of e8))) .nil⟩
      have s79 := s8.trans s9
      refine ⟨_, rfl, rfl, .inr ⟨_, rfl, ?_⟩⟩
      obtain ⟨xsL, eL, vL⟩ := id rL
      obtain ⟨k, hk, k1, hkX⟩ : ∃ k : Nat, (if (!decide (V.int (s + u) = V.int 0)) = true then (1 : Int) else 0) = (k : Int) ∧ k ≤ 1 ∧ (if s + u = 0 then [] else [(nm, s + u)]) = (List.replicate k [(nm, s + u)]).flatten := by
        rw [dec_int]
        by_cases h0 : s + u = 0
        · exact ⟨0, by simp [h0], by omega, by rw [if_pos h0]; rfl⟩
        · exact ⟨1, by simp [h0], by omega, by rw [if_neg h0]; rfl⟩
      have lL := vL.len
      rw [List.length_map, List.length_singleton] at lL
      have lX : (if s + u = 0 then [] else [(nm, s + u)]).length ≤ 1 := by split <;> simp
      obtain ⟨f1, f2, f3, f4⟩ := hx _ rfl
      generalize (if s + u = 0 then [] else [(nm, s + u)]) = X at hkX lX f1 f2 f3 f4
      refine ⟨L, (k : Int), xsL, rfl, congrArg V.int hk, eL, by omega, by omega, Nat.le_trans (show xsL.length * (k : Int).toNat ≤ 1 * 1 from Nat.mul_le_mul (by omega) (by omega)) (by decide), fun p10 n10 => upd_gen n10 fun H10 s10 e10 => ?_⟩
      have rX : Row2 K H10 p10 X := ⟨_, e10, by
        rw [hkX, List.map_flatten, List.map_replicate]
        exact dp_rep (DpAll.tk (Tk.of s10) _ (flat_all_steps _) vL) _⟩
      have s710 := s79.trans s10
      refine rowCat (r7.same s710) rX (by rw [List.length_take, List.length_append, List.length_take, List.length_drop]; omega) fun H11 p11 s11 n11 r11 => ?_
      have s711 := s710.trans s11
      have s611 := s7.trans s711
      have s311 := s36.trans s611
      refine ⟨_, rfl, _, rfl, _, _, _, _, rfl, rfl, (Tk.of s311).sqT ht, rfl, _, _, rfl, rfl, ((i + 1 : Nat) : Int), rfl, ?_⟩
      refine noPart (rowDrop (r6.same s611) fun H12 p12 s12 n12 r12 => ?_)
      have s312 := s311.trans s12
      refine rowCat (r11.same s12) r12 (by simp only [List.length_take, List.length_append, List.length_drop]; omega) fun H13 p13 s13 n13 r13 => ?_
      have s313 := s312.trans s13
      rw [melt_eq hij hjl] at r13
      obtain ⟨xs13, e13, v13⟩ := id r13
      have n13 : H p13 = none := by
        cases e : H p13 with
        | none => rfl
        | some o =>
          rw [s312 _ _ (s3 _ _ e)] at n13
          cases n13
      refine ⟨_, rfl, _, rfl, a, p13, xs13, _, rfl, K1 (s3.trans s313), ok, .inl (SqL.of e13), v13, f2, by omega, metV_of fun H14 z s14 hz => ?_⟩
      exact ⟨_, f4, p13, _, z, _, _, rfl, rfl, (s3.trans s313).trans s14, r13.same s14, n13, f2, f1, f3.trans ea, by omega, hz⟩
end
end XB
set_option Elab.async false
set_option linter.all false
set_option maxRecDepth 100000
set_option maxHeartbeats 4000000
namespace XB
open PySem PySem.Spec PyProof.Rows L2
section
variable {P : Program} {w : World} {K : PySem.W.Frag} {mg : Str → Option Value} {base : Heap}
def spFirsts3 (K : PySem.W.Frag) (F : Fld) : Sp := fun vs H Q _ => ∃ (a p : Addr) (xs : List V) (l : List (Str × Int)), vs = [.ref a, .ref p] ∧ Dp K H (.ref a) (dField F) ∧ F.Ok ∧ SqX K H p xs ∧ DpAll K H xs (l.map dStep) ∧ Names F l ∧ l.length ≤ 200 ∧
  ∀ H' r, Same H H' → H' r = some (.lst ((firstsL F l l.length).map fun k => V.int (k : Nat))) → H r = none → Q (.ref r) H'
theorem c__law_firsts3 (T : Tx K mg) (F : Fld) : Cl P w K mg base CX0 2 "_law_firsts" (spFirsts3 K F) := by
  refine cl0 T.d__law_firsts (ps := ["field", "steps"]) (fun _ _ _ _ _ _ us hl => match us, hl with | [_, _], _ => rfl) sc__law_firsts (fun vs H Q E h => ?_) (fun f cdv A outer st H vs Q E hr h => ?_)
  · obtain ⟨a, p, xs, l, rfl, _⟩ := h
    rfl
  · obtain ⟨a, p, xs, l, rfl, hF, ok, hS, hD, hN, hl60, q⟩ := h
    have nd := sc__law_firsts.nd
    have hlx := hD.len
    rw [List.length_map] at hlx
    refine ⟨_, (pss_cons (ps_set (i := 2) nd rfl (.inl rfl) (pe_lst pa_nil))
    (pss_cons (ps_for PassesOwn.never rfl (pi_range1 (by rfl) T.b_range (pa_cons (pe_lenS (by rfl) T.b_len (pv 1)) pa_nil)) (pg_name (i := 3) nd rfl (.inr rfl))
    (pss_one (ps_if (pt_cmpR (op_eqD hr.units) (pe_lc (own := [("step", 4)]) (g := (gName 4)) (tt := _) (by rfl) nd (pi_row (pe_slice (slk_row (K := K) rfl) (pv 1) po_none (po_some (pv 3)))) (blkOk_by (own := [("step", 4)]) (N := ["field", "steps", "found", "k", "step"]) (sc := defScope s__law_firsts) (by decide +kernel)) (fun _ _ _ _ _ => (pg_name (i := 4) nd rfl (by first | exact Or.inl rfl | exact Or.inr rfl))) (fun _ _ _ _ _ => pts_one (pt_not (pt_val (pe_k (c__law_apart2 T F) hr (by decide) (by rfl) (pa_cons (pv 0) (pa_cons (pe_ix (ixk_tup (K := K) rfl) (pv 4) pe_int (fun _ _ => rfl)) (pa_cons (pe_ix (ixk_tup (K := K) rfl) (pe_ix (ixk_row (K := K) rfl) (pv 1) (pv 3) (fun _ _ => rfl)) pe_int (fun _ _ => rfl)) pa_nil))))))) (fun _ _ _ _ _ => (pv 4))) (pe_lst pa_nil) (nomark _)) (pss_one (ps_expr (pe_bm PySem.F.plainAttrs_list PySem.F.slot_list_append PySem.F.type_list_append mt_append (pv 2) (pa_cons (pv 3) pa_nil)))) pss_nil)))
    (pss_one (ps_ret (pv 2))))), ?_⟩
    refine ⟨by decide, fun D hD0 => upd_gen hD0 fun H1 s1 e1 => ?_⟩
    refine ⟨_, rfl, p, xs, rfl, hS.same s1, xs.length, rfl, by omega, by omega, ?_⟩
    refine for_range (lo := 0) (n := xs.length) (fun k σ H2 => ∃ (y3 y4 : Option V), σ = [some (.ref a), some (.ref p), some (.ref D), y3, y4] ∧ Same H H2 ∧ H2 D = some (.lst ((firstsL F l k).map fun k => V.int (k : Nat))))
      ⟨none, none, rfl, s1, e1⟩ (fun k σ H2 hk ⟨y3, y4, eσ, s2, eD⟩ => ?_) (fun σ H2 ⟨y3, y4, eσ, s2, eD⟩ => ?_)
    · subst eσ
      have hs : l[k]? = some l[k] := List.getElem?_eq_getElem (by omega)
      have ms := hN _ (List.mem_of_getElem? hs)
      generalize l[k] = s at hs ms
      obtain ⟨b, hb, cb⟩ := (DpAll.tk (Tk.of s2) _ (flat_all_steps l) hD).step hs
      rw [Int.zero_add]
      refine ⟨_, rfl, ?_⟩
      refine noPart ?_
      refine ⟨_, rfl, (k : Int), rfl, p, xs, rfl, hS.same s2, fun H3 r s3 hr3 => ?_⟩
      rw [cut_init] at hr3
      have hlk : (xs.take k).length = k := by
        rw [List.length_take]
        omega
      have hDk : DpAll K H (xs.take k) ((l.take k).map dStep) := by
        rw [List.map_take]
        exact hD.take k
      refine ⟨r, _, rfl, hr3, fun J G hG W => fun D2 hD2 => ?_⟩
      refine lc_it W (fun i H' => Row2 K H' D2 (((l.take k).take i).filter fun y => (OF F).tc y.1 s.1) ∧ Same H3 H') ⟨⟨[], upd_same, .nil⟩, same_upd hD2⟩ (fun _ _ _ ⟨_, s'⟩ => hG _ s') (fun i x H4 H5 hi ⟨⟨ys, eD2, hY⟩, s'⟩ hy => ?_) (fun H4 ⟨⟨ys, eD2, hY⟩, s'⟩ => ?_)
      · obtain ⟨rfl, hx⟩ := hy
        obtain ⟨dd, g1, p1⟩ := hDk.get hx
        rw [List.getElem?_map] at g1
        obtain ⟨y, k1, rfl⟩ := Option.map_eq_some_iff.mp g1
        obtain ⟨c, rfl, cc⟩ := p1.step
        have my : y.1 ∈ F.names := hN _ (List.mem_of_mem_take (List.mem_of_getElem? k1))
        have s5 := (s2.trans s3).trans s'
        have hly := hY.len
        rw [List.length_map] at hly
        have hlf := List.length_filter_le (fun y => (OF F).tc y.1 s.1) ((l.take k).take i)
        rw [List.length_take, List.length_take] at hlf
        refine ⟨rfl, _, rfl, _, rfl, _, _, _, _, rfl, rfl, (Tk.of s5).sqT cc, rfl, _, rfl, _, rfl, _, _, _, _, rfl, rfl, hS.same s5, at_of (j := k) rfl hb, _, _, _, _, rfl, rfl, (Tk.of (s3.trans s')).sqT cb, rfl, ?_⟩
        refine ⟨a, y.1, s.1, rfl, Dp.tk (Tk.of s5) _ (flat_field F) hF, ok, my, ms, fun H6 s6 => ⟨_, rfl, ?_⟩⟩
        rw [take_snoc k1, List.filter_append]
        have et := tc_eq ok y.1 s.1
        cases ha : apart F y.1 s.1
        · rw [ha] at et
          have et : (OF F).tc y.1 s.1 = true := et
          have eD6 := s6 _ _ eD2
          refine iteT ⟨_, rfl, ys, eD6, small1000 (by omega), ?_, same_put (s'.trans s6) hD2⟩
          refine ⟨_, upd_same, ?_⟩
          rw [show List.filter (fun y => (OF F).tc y.1 s.1) [y] = [y] by simp [et], List.map_append]
          have t6 : Tk H5 (upd H6 D2 (.lst (ys ++ [.ref c]))) := (Tk.of s6).lst eD6
          exact (DpAll.tk t6 _ (flat_all_steps _) hY).app (.cons (Dp.of_step (s := y) (t6.sqT ((Tk.of s5).sqT cc))) .nil)
        · rw [ha] at et
          have et : (OF F).tc y.1 s.1 = false := et
          refine iteF ⟨?_, s'.trans s6⟩
          refine ⟨ys, s6 _ _ eD2, ?_⟩
          rw [show List.filter (fun y => (OF F).tc y.1 s.1) [y] = [] by simp [et], List.append_nil]
          exact DpAll.tk (Tk.of s6) _ (flat_all_steps _) hY
      · rw [hlk, List.take_of_length_le (by rw [List.length_take]; omega)] at hY
        refine ⟨by decide, fun E hE => upd_gen hE fun H5 s6 eE => ?_⟩
        have s26 := (s2.trans s3).trans (s'.trans s6)
        have eDD := (s3.trans (s'.trans s6)) _ _ eD
        have hYE := DpAll.tk (Tk.of s6) _ (flat_all_steps _) hY
        refine ⟨.list (((l.take k).filter fun y : Str × Int => (OF F).tc y.1 s.1).map dStep), .list [], .lst (SqL.of (s6 _ _ eD2)) hYE, .lst (SqL.of eE) .nil, sh_steps (fun y hy => ok.sgn _ (hN y (List.mem_of_mem_take (List.mem_filter.mp hy).1))), rfl, _, rfl, ?_⟩
        rw [ne_steps, firsts_snoc]
        have ef : free1 F l k = ((l.take k).filter fun y => (OF F).tc y.1 s.1).isEmpty := by
          unfold free1
          rw [hs]
          show (l.take k).all _ = _
          rw [Bool.eq_iff_iff, List.all_eq_true, List.isEmpty_iff, List.filter_eq_nil_iff]
          simp
        rw [← ef]
        cases hfr : free1 F l k
        · refine iteF ⟨_, _, rfl, s26, ?_⟩
          rw [eDD, if_neg Bool.false_ne_true, List.append_nil]
        · refine iteT ⟨_, rfl, Or.inl ⟨rfl, _, SqL.of eDD⟩, _, rfl, D, _, _, rfl, rfl, eDD, ?_, ?_⟩
          · rw [List.length_map]
            have := firsts_len (F := F) (l := l) (n := k)
            exact small1000 (by omega)
          · refine ⟨_, _, rfl, same_put s26 hD0, ?_⟩
            rw [upd_same, if_pos rfl, List.map_append]
            rfl
    · subst eσ
      rw [hlx] at eD
      exact ⟨_, rfl, q _ D s2 eD hD0⟩
end
end XB
set_option Elab.async false
set_option linter.all false
set_option maxRecDepth 100000
set_option maxHeartbeats 4000000
/-! min of a list of alike data -/
namespace XB
open PySem PySem.Spec PyProof.Rows L2
theorem cr_minD {X : Cx} {K : PySem.W.Frag} (hk : X.K = K) (hc : X.calm = true) (hu : X.A.units + 65 < cLine) : CallR X (.builtin "min") (fun vs H Q => ∃ (a : Addr) (ys : List V) (x : PyData) (xs : List PyData), vs = [.ref a] ∧ SqL K H a ys ∧ DpAll K H ys (x :: xs) ∧ PySem.W.AlikeAll (x :: xs) ∧ PyData.depthAll (x :: xs) < 64 ∧
    ∀ (i : Nat) v, ys[i]? = some v → (x :: xs)[i]? = some (PySem.W.minD x xs) → Q v H) := by
  subst hk
  intro pins s σ H vs us Q I r h
  obtain ⟨a, ys, x, xs, rfl, hs, hD, ha, hdp, q⟩ := h
  obtain ⟨its, rv, hl, _⟩ := I.list hs
  rw [Vals.ref1 r]
  obtain ⟨as, rs⟩ := Dp.readsAll I (x :: xs) ys its hD rv
  refine PySem.W.min_list_data (I.ok.hd hc) hl.isList rs ha (by omega) fun i v h' tk bs hi r hk => ?_
  have hi' : its[i]? = some v := by simpa using hi
  obtain ⟨cs, r2, hlt, _, _⟩ := PySem.W.readsAll_at rs i v hi'
  have e := (PyProof.Rows.reads_det (fun b o e _ => hk b o e) r2 r).1
  have hyl : i < ys.length := by
    rw [rv.length]
    exact (List.getElem?_eq_some_iff.mp hi').1
  obtain ⟨u, h1, h2⟩ := Vals.get rv (List.getElem?_eq_getElem hyl)
  rw [hi'] at h1
  cases h1
  refine ⟨_, H, I.kept hk, h2, q i _ (List.getElem?_eq_getElem hyl) ?_⟩
  rw [e, List.getElem?_eq_getElem hlt, List.getD_eq_getElem?_getD, List.getElem?_eq_getElem hlt]
  rfl
theorem lt_step (a b : Str) (i j : Int) : PySem.W.dataLt (.tuple [.str a, .int i]) (.tuple [.str b, .int j]) = if a = b then decide (i < j) else sLt a b := by
  unfold PySem.W.dataLt
  have e : ∀ (a : Str) (i : Int), PySem.W.keyToks (.tuple [.str a, .int i]) = [.inl 1, .inr a.cps.toList, .inl 1, .inl i, .inl 0] := fun a i => by
    simp [PySem.W.keyToks, PySem.W.keyToksAll]
  rw [e, e, lex_self]
  by_cases h : a = b
  · rw [if_pos h, h, lex_self, lex_self]
    by_cases h2 : i = j
    · rw [h2, lex_self, lex_self]
      simp
      rfl
    · rw [lex_diff (O := itemOrd) (fun q => h2 (Sum.inl.inj q))]
      rfl
  · rw [if_neg h, lex_diff (O := itemOrd) (fun q => h (PySem.W.str_of_cps (Sum.inr.inj q)))]
    rfl
end XB
set_option Elab.async false
set_option linter.all false
set_option maxRecDepth 100000
set_option maxHeartbeats 4000000
namespace XB
open PySem PySem.Spec PyProof.Rows L2
/-- the least pile of steps -/
def lpile (F : Fld) (l : List (Str × Int)) : List (Str × Int) := (XM.act (OF F) l []).reverse
/-- what stands fast while the least pile is drawn from a pile -/
structure LJ (F : Fld) (l fl ll : List (Str × Int)) : Prop where
  srt : XM.Srt (OF F) fl ll
  pl : XM.pl (OF F) (fl ++ ll) = true
  nf : XM.NZ fl
  nl : XM.NZ ll
  act : XM.act (OF F) (fl ++ ll) [] = XM.act (OF F) l []
  nm : Names F ll
  len : fl.length + ll.length ≤ 200
theorem LJ.step {F : Fld} {l fl p q : List (Str × Int)} {s : Str × Int} (I : LJ F l fl (p ++ s :: q)) (L : XM.LeastFirst (OF F) p s q) : LJ F l (fl ++ [s]) (p ++ q) := by
  have zs : s.2 ≠ 0 := I.nl s (by simp)
  have zp : XM.NZ p := fun y hy => I.nl y (by simp [hy])
  have zq : XM.NZ q := fun y hy => I.nl y (by simp [hy])
  refine ⟨I.srt.step L, ?_, I.nf.app fun y hy => by rw [List.mem_singleton.mp hy]; exact zs, zp.app zq, ?_, fun y hy => I.nm y ?_, ?_⟩
  · rw [List.append_assoc, List.singleton_append, ← XM.pl_move L.free]
    exact I.pl
  · rw [List.append_assoc, List.singleton_append, ← XM.act_move L.free I.nf zp (show XM.NF (OF F) [] from trivial)]
    exact I.act
  · rw [List.mem_append] at hy
    rcases hy with h | h <;> simp [h]
  · have := I.len
    simp at this ⊢
    omega
theorem LJ.done {F : Fld} {l fl : List (Str × Int)} (I : LJ F l fl []) : lpile F l = fl := by
  have h := I.pl
  have nf : XM.NF (OF F) fl.reverse := XM.nf_of (left := []) _ fl rfl I.srt h I.nf
  have a := XM.act_fix nf
  rw [List.reverse_reverse] at a
  have := I.act
  rw [List.append_nil, a] at this
  unfold lpile
  rw [← this, List.reverse_reverse]
/-- the pair of a first piece -/
def pr (l : List (Str × Int)) (k : Nat) : Str × Int := (nm1 l k, (k : Int))
theorem min_mem {x : PyData} : ∀ {xs : List PyData}, PySem.W.minD x xs ∈ x :: xs
  | [] => List.mem_cons_self
  | y :: xs => by
    show PySem.W.minD (if PySem.W.dataLt y x then y else x) xs ∈ _
    have := min_mem (x := if PySem.W.dataLt y x then y else x) (xs := xs)
    rcases List.mem_cons.mp this with h | h
    · rw [h]
      split <;> simp
    · exact List.mem_cons_of_mem _ (List.mem_cons_of_mem _ h)
theorem min_steps {x : Str × Int} : ∀ {xs : List (Str × Int)}, ∃ m ∈ x :: xs, PySem.W.minD (dStep x) (xs.map dStep) = dStep m ∧ ∀ y ∈ x :: xs, y.1 = m.1 ∨ sLt m.1 y.1 = true
  | [] => ⟨x, List.mem_cons_self, rfl, fun y hy => .inl (by rw [List.mem_singleton.mp hy])⟩
  | y :: xs => by
    have hd : PySem.W.dataLt (dStep y) (dStep x) = if y.1 = x.1 then decide (y.2 < x.2) else sLt y.1 x.1 := lt_step y.1 x.1 y.2 x.2
    show ∃ m ∈ x :: y :: xs, PySem.W.minD (if PySem.W.dataLt (dStep y) (dStep x) then dStep y else dStep x) (xs.map dStep) = dStep m ∧ _
    by_cases h : PySem.W.dataLt (dStep y) (dStep x) = true
    · rw [if_pos h]
      obtain ⟨m, h1, h2, h3⟩ := min_steps (x := y) (xs := xs)
      refine ⟨m, List.mem_cons_of_mem _ h1, h2, fun z hz => ?_⟩
      rcases List.mem_cons.mp hz with e | hz
      · rw [e]
        rw [hd] at h
        have hy := h3 y List.mem_cons_self
        by_cases e2 : y.1 = x.1
        · rw [← e2]
          exact hy
        · rw [if_neg e2] at h
          rcases hy with q | q
          · right
            rw [← q]
            exact h
          · exact .inr (sLt_trans _ _ _ q h)
      · exact h3 z hz
    · rw [if_neg h]
      obtain ⟨m, h1, h2, h3⟩ := min_steps (x := x) (xs := xs)
      refine ⟨m, ?_, h2, fun z hz => ?_⟩
      · rcases List.mem_cons.mp h1 with q | q
        · rw [q]
          exact List.mem_cons_self
        · exact List.mem_cons_of_mem _ (List.mem_cons_of_mem _ q)
      · rcases List.mem_cons.mp hz with e | hz
        · rw [e]
          exact h3 x List.mem_cons_self
        · rcases List.mem_cons.mp hz with e | hz
          · rw [e]
            rw [hd] at h
            have hx := h3 x List.mem_cons_self
            by_cases e2 : y.1 = x.1
            · rw [e2]
              exact hx
            · rw [if_neg e2] at h
              have : sLt x.1 y.1 = true := sLt_tot _ _ (fun q => e2 q) (by simpa using h)
              rcases hx with q | q
              · right
                rw [← q]
                exact this
              · exact .inr (sLt_trans _ _ _ q this)
          · exact h3 z (List.mem_cons_of_mem _ hz)
theorem least_of {F : Fld} {l : List (Str × Int)} {k : Nat} (hk : k ∈ firstsL F l l.length) (hm : ∀ j ∈ firstsL F l l.length, nm1 l j = nm1 l k ∨ sLt (nm1 l k) (nm1 l j) = true) :
    ∃ s, l[k]? = some s ∧ l = l.take k ++ s :: l.drop (k + 1) ∧ XM.LeastFirst (OF F) (l.take k) s (l.drop (k + 1)) := by
  obtain ⟨s, hs, hf⟩ := firsts_at hk
  have e2 : l = l.take k ++ s :: l.drop (k + 1) := by
    rw [← drop_at hs, List.take_append_drop]
  refine ⟨s, hs, e2, hf, fun p' z q' e hp hz => ?_⟩
  rw [← e2] at e
  have hz' : l[p'.length]? = some z := by
    rw [e, List.getElem?_append_right (Nat.le_refl _), Nat.sub_self]
    rfl
  have m : p'.length ∈ firstsL F l l.length := by
    refine mem_firsts.mpr ⟨(List.getElem?_eq_some_iff.mp hz').1, ?_⟩
    unfold free1
    rw [hz']
    show (l.take p'.length).all _ = true
    rw [e, List.take_left' rfl, List.all_eq_true]
    intro w hw
    rw [hp w hw]
    rfl
  have := hm _ m
  rw [nm1_of hz', nm1_of hs] at this
  exact this.resolve_left hz
def LJInv3 (K : PySem.W.Frag) (F : Fld) (H : Hp) (a p : Addr) (l : List (Str × Int)) : Nat → L2.St → Hp → Prop := fun m σ H2 => ∃ (D E : Addr) (ll fl : List (Str × Int)) (y4 y5 : Option V), m = ll.length ∧ σ = [some (.ref a), some (.ref p), some (.ref D), some (.ref E), y4, y5] ∧ Same H H2 ∧
  Row2 K H2 D ll ∧ Dp K H2 (.ref E) (dSteps fl) ∧ LJ F l fl ll
section
variable {P : Program} {w : World} {K : PySem.W.Frag} {mg : Str → Option Value} {base : Heap}
def spLawLeast3 (K : PySem.W.Frag) (F : Fld) : Sp := fun vs H Q _ => ∃ (a p : Addr) (xs : List V) (l : List (Str × Int)), vs = [.ref a, .ref p] ∧ Dp K H (.ref a) (dField F) ∧ F.Ok ∧ SqX K H p xs ∧ DpAll K H xs (l.map dStep) ∧ Names F l ∧ XM.NZ l ∧ l.length ≤ 200 ∧
  ∀ H' r, Same H H' → Dp K H' (.ref r) (dSteps (lpile F l)) → Q (.ref r) H'
theorem c__law_least3 (T : Tx K mg) (F : Fld) : Cl P w K mg base CX0 4 "_law_least" (spLawLeast3 K F) := by
  refine cl0 T.d__law_least (ps := ["field", "steps"]) (fun _ _ _ _ _ _ us hl => match us, hl with | [_, _], _ => rfl) sc__law_least (fun vs H Q E h => ?_) (fun fa cdv A outer st H vs Q E hr h => ?_)
  · obtain ⟨a, p, xs, l, rfl, _⟩ := h
    rfl
  · obtain ⟨a, p, xs, l, rfl, hF, ok, hS, hV, hN, hZ, hl, q⟩ := h
    have nd := sc__law_least.nd
    have hu := u65 hr
    refine ⟨_, (pss_cons (ps_asg (pe_tup (pa_cons (pe_k (c__law_pile3 T F) hr (by decide) (by rfl) (pa_cons (pv 0) (pa_cons (pv 1) pa_nil))) (pa_cons (pe_tup pa_nil) pa_nil))) (pg_tup rfl (pgs_cons (pg_name (i := 2) nd rfl (.inr rfl)) (pgs_cons (pg_name (i := 3) nd rfl (.inl rfl)) pgs_nil))))
    (pss_cons (ps_while PassesOwn.never (pt_cmpR (op_neD hr.units) (pv 2) (pe_lst pa_nil) (nomark _))
    (pss_cons (ps_set (i := 4) nd rfl (.inl rfl) (pe_ix (ixk_tup (K := K) rfl) (pe_callB (cr_minD (K := K) rfl rfl hu) (by rfl) T.b_min (by decide +kernel) (pa_cons (pe_lc (own := [("far", 5)]) (g := (gName 5)) (tt := tYes) (by rfl) nd (pi_list (pe_k (c__law_firsts3 T F) hr (by decide) (by rfl) (pa_cons (pv 0) (pa_cons (pv 2) pa_nil)))) (blkOk_by (own := [("far", 5)]) (N := ["field", "steps", "left", "found", "k", "far"]) (sc := defScope s__law_least) (by decide +kernel)) (fun _ _ _ _ _ => (pg_name (i := 5) nd rfl (by first | exact Or.inl rfl | exact Or.inr rfl))) (fun _ _ _ _ _ => pts_nil) (fun _ _ _ _ _ => (pe_tup (pa_cons (pe_ix (ixk_tup (K := K) rfl) (pe_ix (ixk_list (K := K) rfl) (pv 2) (pv 5) (fun _ _ => rfl)) pe_int (fun _ _ => rfl)) (pa_cons (pv 5) pa_nil))))) pa_nil)) pe_int (fun _ _ => rfl)))
    (pss_one (ps_asg (pe_tup (pa_cons (pe_op (op_catAk (K := K) rfl) (pv 3) (pe_tup (pa_cons (pe_ix (ixk_list (K := K) rfl) (pv 2) (pv 4) (fun _ _ => rfl)) pa_nil))) (pa_cons (pe_op op_cat (pe_slice sl_list (pv 2) po_none (po_some (pv 4))) (pe_slice sl_list (pv 2) (po_some (pe_op op_add (pv 4) pe_int)) po_none)) pa_nil))) (pg_tup rfl (pgs_cons (pg_name (i := 3) nd rfl (.inl rfl)) (pgs_cons (pg_name (i := 2) nd rfl (.inr rfl)) pgs_nil)))))))
    (pss_one (ps_ret (pv 3))))), ?_⟩
    refine ⟨_, rfl, _, rfl, a, p, xs, l, rfl, hF, ok, hS, hV, hN, hZ, hl, fun H1 D f s1 hR hD0 nf zf pf af lf => ⟨Nat.zero_le _, fun E hE => upd_gen hE fun H2 s2 e2 => ⟨two_sz, fun TT hT => upd_gen hT fun H3 s3 e3 => ⟨TT, _, rfl, SqT.of e3, rfl, _, _, rfl, _, _, rfl, rfl, ?_⟩⟩⟩⟩
    have s13 := (s1.trans s2).trans s3
    refine ⟨LJInv3 K F H a p l, ⟨_, D, E, f, [], none, none, rfl, rfl, s13, hR.same (s2.trans s3), .tup ((Tk.of s3).sqT (SqT.of e2)) .nil, XM.Srt.nil _, pf, (fun _ h => nomatch h), zf, af, nf, by simp; omega⟩, ?_⟩
    rintro m σ H4 ⟨D, E, ll, fl, y4, y5, rfl, rfl, s4, hR, hE, I⟩
    refine ⟨_, rfl, Nat.zero_le _, fun p0 h0 => upd_gen h0 fun H5 s5 e5 => ?_⟩
    have s05 := s4.trans s5
    have hR5 := hR.same s5
    have hE5 := tS hE s5
    obtain ⟨xs5, eD5, hX⟩ := id hR5
    have lI := I.len
    refine ⟨.list (ll.map dStep), .list [], .lst (SqL.of eD5) hX, .lst (SqL.of e5) .nil, sh_steps (fun s hs => ok.sgn _ (I.nm s hs)), rfl, _, rfl, ?_⟩
    rw [ne_steps]
    by_cases hne : ll = []
    · subst hne
      refine iteF ⟨_, rfl, q _ E s05 ?_⟩
      rw [I.done]
      exact hE5
    · rw [show (!ll.isEmpty) = true by cases ll with | nil => exact absurd rfl hne | cons _ _ => rfl]
      refine iteT ⟨fun σ' H' => ∃ m', m' < ll.length ∧ LJInv3 K F H a p l m' σ' H', fun _ _ h => h, ?_⟩
      have hlen0 := firsts_len (F := F) (l := ll) (n := ll.length)
      refine ⟨_, rfl, _, rfl, a, D, xs5, ll, rfl, Dp.tk (Tk.of s05) _ (flat_field F) hF, ok, .inl (SqL.of eD5), hX, I.nm, by omega, fun H6 r1 s6 e6 h6 => ⟨r1, rfl, ⟨_, SqL.of e6⟩, fun D2 hD2 => ?_⟩⟩
      refine lc_it (walk_list (xs := (firstsL F ll ll.length).map fun k => V.int (k : Nat))) (fun i H' => Row2 K H' D2 (((firstsL F ll ll.length).take i).map (pr ll)) ∧ Same H6 H') ⟨⟨[], upd_same, .nil⟩, same_upd hD2⟩ (fun _ H' _ ⟨_, s'⟩ => SqL.of (s' _ _ e6)) (fun i x H7o H7 hi ⟨r7, s7⟩ hy => ?_) (fun H7 ⟨r7, s7⟩ => ?_)
      · obtain ⟨rfl, hx⟩ := hy
        rw [List.getElem?_map] at hx
        obtain ⟨k, hk, rfl⟩ := Option.map_eq_some_iff.mp hx
        obtain ⟨s, hs, _⟩ := firsts_at (List.mem_of_getElem? hk)
        obtain ⟨xs7, b, q1, q2, q3⟩ := (hR5.same (s6.trans s7)).get hs
        obtain ⟨ys, e7, hY⟩ := id r7
        have lY := hY.len
        rw [List.length_map, List.length_map, List.length_take] at lY
        refine ⟨rfl, yes_ ⟨_, rfl, _, rfl, _, _, _, _, rfl, rfl, q1, q2, _, _, _, _, rfl, rfl, q3, rfl, _, rfl, two_sz, fun T hT => upd_gen hT fun H8 s8 e8 => ⟨ys, s8 _ _ e7, small1000 (by omega), ⟨_, upd_same, ?_⟩, same_put (s7.trans s8) hD2⟩⟩⟩
        have t8 : Tk H8 (upd H8 D2 (.lst (ys ++ [.ref T]))) := Tk.refl.lst (s8 _ _ e7)
        rw [take_snoc hk, List.map_append, List.map_append]
        refine (DpAll.tk ((Tk.of s8).trans t8) _ (flat_all_steps _) hY).app (.cons (Dp.of_step (s := pr ll k) (t8.sqT ?_)) .nil)
        show SqT K H8 T [.str (nm1 ll k), .int (k : Int)]
        rw [nm1_of hs]
        exact SqT.of e8
      · rw [List.length_map, List.take_length] at r7
        obtain ⟨ys, e7, hY⟩ := id r7
        obtain ⟨k0, kr, ef⟩ : ∃ k0 kr, firstsL F ll ll.length = k0 :: kr := by
          cases e : firstsL F ll ll.length with
          | nil =>
            have := firsts_some (F := F) hne
            rw [e] at this
            cases this
          | cons x r => exact ⟨x, r, rfl⟩
        rw [ef, List.map_cons, List.map_cons] at hY
        obtain ⟨mm, m1, m2, m3⟩ := min_steps (x := pr ll k0) (xs := kr.map (pr ll))
        have mf : mm ∈ (firstsL F ll ll.length).map (pr ll) := by
          rw [ef, List.map_cons]
          exact m1
        obtain ⟨k, mk, rfl⟩ := List.mem_map.mp mf
        obtain ⟨s, hs, esp, hL⟩ := least_of mk fun j hj => by
          have : pr ll j ∈ pr ll k0 :: kr.map (pr ll) := by
            rw [← List.map_cons, ← ef]
            exact List.mem_map_of_mem hj
          exact m3 _ this
        have dep : ∀ {l : List (Str × Int)}, PyData.depthAll (l.map dStep) < 64 := fun {l} => by
          have := deep_steps l
          omega
        refine ⟨D2, ys, dStep (pr ll k0), (kr.map (pr ll)).map dStep, rfl, SqL.of e7, hY, ⟨fun x hx y hy => ?_, fun x hx => ?_⟩, by rw [← List.map_cons (f := dStep)]; exact dep, fun i v hv hm => ?_⟩
        · rw [← List.map_cons (f := dStep)] at hx hy
          obtain ⟨u, _, rfl⟩ := List.mem_map.mp hx
          obtain ⟨w, _, rfl⟩ := List.mem_map.mp hy
          rfl
        · rw [← List.map_cons (f := dStep)] at hx
          obtain ⟨u, _, rfl⟩ := List.mem_map.mp hx
          intro q
          cases q
        · obtain ⟨d, g1, p1⟩ := hY.get hv
          rw [hm, m2] at g1
          cases g1
          obtain ⟨b, rfl, cb⟩ := p1.step
          refine ix1 cb ?_
          have s07 := (s05.trans s6).trans s7
          have hR7 := hR5.same (s6.trans s7)
          have hE7 := tS hE5 (s6.trans s7)
          obtain ⟨xs8, c, q1, q2, q3⟩ := hR7.get hs
          have kl : k < ll.length := (mem_firsts.mp mk).1
          refine ⟨_, rfl, _, rfl, _, rfl, _, _, _, _, rfl, rfl, q1, q2, one_sz, fun T8 n8 => upd_gen n8 fun H8 s8 e8 => ?_⟩
          refine catD (m := [s]) (tS hE7 s8) (.tup (SqT.of e8) (.cons (Dp.of_step (s := s) ((Tk.of s8).sqT q3)) .nil)) (by rw [List.length_singleton]; omega) fun H9 p9 s9 h9 => ?_
          have s79 := s8.trans s9
          refine ⟨_, rfl, ?_⟩
          refine noPart ?_
          refine ⟨_, rfl, (k : Int), rfl, rowTake (hR7.same s79) fun H10 p10 s10 h10 r10 => ?_⟩
          have s710 := s79.trans s10
          refine ⟨_, rfl, _, rfl, _, _, rfl, rfl, ((k + 1 : Nat) : Int), rfl, ?_⟩
          refine noPart ?_
          refine rowDrop (hR7.same s710) fun H11 p11 s11 h11 r11 => ?_
          refine rowCat (r10.same s11) r11 (by rw [List.length_take, List.length_drop]; omega) fun H12 p12 s12 h12 r12 => ?_
          have s912 := (s10.trans s11).trans s12
          refine ⟨two_sz, fun T13 n13 => upd_gen n13 fun H13 s13 e13 => ⟨T13, _, rfl, SqT.of e13, rfl, _, _, rfl, _, _, rfl, rfl, ?_⟩⟩
          have I2 : LJ F l fl (ll.take k ++ s :: ll.drop (k + 1)) := by
            rw [← esp]
            exact I
          exact ⟨_, by rw [List.length_append, List.length_take, List.length_drop]; omega, p12, p9, _, _, _, _, rfl, rfl, (s07.trans s79).trans (s912.trans s13), r12.same s13, tS h9 (s912.trans s13), I2.step hL⟩
end
end XB
set_option Elab.async false
set_option linter.all false
set_option maxRecDepth 100000
set_option maxHeartbeats 4000000
namespace XB
open PySem PySem.Spec PyProof.Rows L2
section
variable {P : Program} {w : World} {K : PySem.W.Frag} {mg : Str → Option Value} {base : Heap}
def spLength3 (K : PySem.W.Frag) (F : Fld) : Sp := fun vs H Q _ => ∃ (a p : Addr) (xs : List V) (l : List (Str × Int)), vs = [.ref a, .ref p] ∧ Dp K H (.ref a) (dField F) ∧ F.Ok ∧ SqX K H p xs ∧ DpAll K H xs (l.map dStep) ∧ Names F l ∧ XM.NZ l ∧ l.length ≤ 200 ∧
  ∀ H', Same H H' → Q (.int (XM.ln (XM.act (OF F) l []) : Nat)) H'
theorem c__law_length3 (T : Tx K mg) (F : Fld) : Cl P w K mg base CX0 4 "_law_length" (spLength3 K F) := by
  refine cl0 T.d__law_length (ps := ["field", "steps"]) (fun _ _ _ _ _ _ us hl => match us, hl with | [_, _], _ => rfl) sc__law_length (fun vs H Q E h => ?_) (fun f cdv A outer st H vs Q E hr h => ?_)
  · obtain ⟨a, p, xs, l, rfl, _⟩ := h
    rfl
  · obtain ⟨a, p, xs, l, rfl, hF, ok, hS, hV, hN, hZ, hl, q⟩ := h
    have nd := sc__law_length.nd
    refine ⟨_, pss_one (ps_ret (pe_callB (cr_sum rfl) (by rfl) T.b_sum (by decide +kernel) (pa_cons (pe_lc (own := [("name", 2), ("times", 3)]) (g := gTup K 2 (gCons (gName 2) (gCons (gName 3) gNil))) (tt := tYes) (by rfl) nd (pi_list (pe_k (c__law_pile3 T F) hr (by decide) (by rfl) (pa_cons (pv 0) (pa_cons (pv 1) pa_nil))))
      (blkOk_by (own := [("name", 2), ("times", 3)]) (N := ["field", "steps", "name", "times"]) (sc := defScope s__law_length) (by decide +kernel))
      (fun _ _ _ _ _ => pg_tup rfl (pgs_cons (pg_name (i := 2) nd rfl (Or.inl rfl)) (pgs_cons (pg_name (i := 3) nd rfl (Or.inl rfl)) pgs_nil))) (fun _ _ _ _ _ => pts_nil)
      (fun _ _ _ _ _ => pe_callB call_abs (by rfl) T.b_abs (by decide +kernel) (pa_cons (pv 3) pa_nil))) pa_nil))), ?_⟩
    refine ⟨_, rfl, _, rfl, a, p, xs, l, rfl, hF, ok, hS, hV, hN, hZ, hl, fun H1 r f s1 hR hD0 nf zf pf af lf => ?_⟩
    obtain ⟨ys, eR, hY⟩ := hR
    have hly := hY.len
    rw [List.length_map] at hly
    refine ⟨r, rfl, ⟨_, SqL.of eR⟩, fun D hD => ?_⟩
    refine lc_it (walk_list (xs := ys)) (fun i H' => H' D = some (.lst ((((f.take i).map fun s => if s.2 < 0 then -s.2 else s.2)).map V.int)) ∧ Same H1 H') ⟨upd_same, same_upd hD⟩ (fun _ _ _ ⟨_, s'⟩ => SqL.of (s' _ _ eR)) (fun i x H2o H2 hi ⟨eD, s'⟩ hy => ?_) (fun H2 ⟨eD, s'⟩ => ?_)
    · obtain ⟨rfl, hx⟩ := hy
      obtain ⟨dd, g1, p1⟩ := hY.get hx
      rw [List.getElem?_map] at g1
      obtain ⟨s, k1, rfl⟩ := Option.map_eq_some_iff.mp g1
      obtain ⟨b, rfl, cb⟩ := p1.step
      refine ⟨b, _, rfl, (Tk.of s').sqT cb, rfl, _, _, rfl, _, _, rfl, rfl, rfl, yes_ ?_⟩
      refine ⟨_, rfl, s.2, rfl, _, eD, ?_, ?_, same_put s' hD⟩
      · rw [List.length_map, List.length_map, List.length_take]
        exact small1000 (by omega)
      · rw [upd_same, take_snoc k1, List.map_append, List.map_append]
        rfl
    · rw [hly, List.take_length] at eD
      refine ⟨D, _, rfl, SqL.of eD, ?_⟩
      have e : lenOf f = (XM.ln (XM.act (OF F) l []) : Nat) := by
        rw [len_ln, ← XM.ln_pile zf pf, af]
      have := q H2 (s1.trans s')
      rw [← e] at this
      exact this
def spFar (K : PySem.W.Frag) (F : Fld) : Sp := fun vs H Q _ => ∃ (a p r : Addr) (l m : List (Str × Int)), vs = [.ref a, .ref p, .ref r] ∧ Dp K H (.ref a) (dField F) ∧ F.Ok ∧ Dp K H (.ref p) (dSteps l) ∧ Dp K H (.ref r) (dSteps m) ∧ Names F l ∧ Names F m ∧ XM.NZ l ∧ XM.NZ m ∧ l.length + m.length ≤ 200 ∧
  ∀ H', Same H H' → Q (.int (XM.far (OF F) l m : Nat)) H'
theorem c__law_far (T : Tx K mg) (F : Fld) : Cl P w K mg base CX0 5 "_law_far" (spFar K F) := by
  refine cl0 T.d__law_far (ps := ["field", "one", "other"]) (fun _ _ _ _ _ _ us hl => match us, hl with | [_, _, _], _ => rfl) sc__law_far (fun vs H Q E h => ?_) (fun f cdv A outer st H vs Q E hr h => ?_)
  · obtain ⟨a, p, r, l, m, rfl, _⟩ := h
    rfl
  · obtain ⟨a, p, r, l, m, rfl, hF, ok, hL, hM, nl, nm, zl, zm, hl, q⟩ := h
    have nd := sc__law_far.nd
    refine ⟨_, (pss_one (ps_ret (pe_k (c__law_length3 T F) hr (by decide) (by rfl) (pa_cons (pv 0) (pa_cons (pe_op (op_catAk (K := K) rfl) (pe_k (c__law_back3 T) hr (by decide) (by rfl) (pa_cons (pv 1) pa_nil)) (pe_tupleOf (by rfl) T.b_tuple (pv 2))) pa_nil))))), ?_⟩
    obtain ⟨_, ys, e, hyS, hyV⟩ := id hM.steps
    cases e
    refine ⟨_, rfl, _, rfl, p, l, rfl, hL, by omega, fun H1 b s1 hb => ⟨_, rfl, ?_⟩⟩
    refine .inr ⟨r, ys, rfl, (Tk.of s1).sqT hyS, catD hb (tS hM s1) (by rw [len_back]; omega) fun H2 p2 s2 h2 => ?_⟩
    have s12 := s1.trans s2
    obtain ⟨_, zs, e, hzS, hzV⟩ := id h2.steps
    cases e
    exact ⟨a, p2, zs, _, rfl, tF hF s12, ok, .inr hzS, hzV, fun z hz => (List.mem_append.mp hz).elim (names_back nl z) (nm z), (XM.back_nz zl).app zm, by rw [List.length_append, len_back]; omega, fun H3 s3 => q H3 (s12.trans s3)⟩
end
end XB
set_option linter.all false
/-! all lower parts of a row, unit by unit, layer by layer -/
namespace XM
section
variable {α : Type} [DecidableEq α] {O : Ord α}
/-- a row of units -/
def UR (l : Row α) : Prop := ∀ x ∈ l, Un x.2
theorem UR.nz {l : Row α} (h : UR l) : NZ l := fun x hx => (h x hx).ne
theorem UR.ln : ∀ {l : Row α}, UR l → XM.ln l = l.length
  | [], _ => rfl
  | x :: l, h => by
    have e : XM.ln (x :: l) = x.2.natAbs + XM.ln l := rfl
    rw [e, UR.ln fun y hy => h y (List.mem_cons_of_mem _ hy), (h x List.mem_cons_self).abs, List.length_cons, Nat.add_comm]
theorem sg_unit {s : Int} (h : Un s) : sg s = s := by
  rcases h with h | h <;> subst h <;> rfl
theorem pile_idem {l : Row α} (zl : NZ l) : pile O (pile O l) = pile O l := by
  unfold pile
  rw [show act O (act O l []).reverse [] = act O l [] from act_self zl n00]
theorem pile_congr {l m : Row α} (h : act O l [] = act O m []) : pile O l = pile O m := by unfold pile; rw [h]
theorem pile_eq {l m : Row α} (h : pile O l = pile O m) : act O l [] = act O m [] := List.reverse_inj.mp h
theorem low_congr {c d p : Row α} (zc : NZ c) (zd : NZ d) (h : act O c [] = act O d []) : Low O c p ↔ Low O d p := by
  unfold Low
  have e : act O (back c ++ p) [] = act O (back d ++ p) [] := by rw [act_app, act_back_eq zc zd h n00, act_app]
  rw [gl_congr h, gl_congr e]
/-- a place at which a unit can stand first -/
def AtF (O : Ord α) (l : Row α) (k : Nat) (u : α × Int) : Prop := ∃ m v, l = m ++ u :: v ∧ m.length = k ∧ ∀ w ∈ m, O.tc w.1 u.1 = false
structure Ent (O : Ord α) (U : Row α) (j : Nat) (e : Row α × Row α) : Prop where
  nz : NZ e.1
  pf : pile O e.1 = e.1
  ur : UR e.2
  eq : act O (e.1 ++ e.2) [] = act O U []
  gl : XM.gl O e.1 = j
  len : e.2.length + j = U.length
structure LB (O : Ord α) (U : Row α) (j : Nat) (fl : List (Row α)) (ly : List (Row α × Row α)) : Prop where
  nd : fl.Nodup
  fd : ∀ f ∈ fl, NZ f ∧ pile O f = f ∧ Low O f U ∧ gl O f ≤ j
  es : ∀ e ∈ ly, Ent O U j e
  full : ∀ c, NZ c → Low O c U → gl O c ≤ j → pile O c ∈ fl
  ent : ∀ f ∈ fl, gl O f = j → ∃ left, (f, left) ∈ ly
/-- while a layer is gone through: fl0 stood ahead of it -/
structure LM (O : Ord α) (U : Row α) (j : Nat) (fl0 : List (Row α)) (fl : List (Row α)) (lt : List (Row α × Row α)) : Prop where
  nd : fl.Nodup
  fd : ∀ f ∈ fl, NZ f ∧ pile O f = f ∧ Low O f U ∧ gl O f ≤ j + 1
  es : ∀ e ∈ lt, Ent O U (j + 1) e
  sub : ∀ f ∈ fl0, f ∈ fl
  ent : ∀ f ∈ fl, gl O f = j + 1 → ∃ left, (f, left) ∈ lt
theorem LB.mid {U : Row α} {j : Nat} {fl : List (Row α)} {ly : List (Row α × Row α)} (h : LB O U j fl ly) : LM O U j fl fl [] :=
  ⟨h.nd, fun f hf => by
    obtain ⟨a, b, c, d⟩ := h.fd f hf
    exact ⟨a, b, c, by omega⟩, (fun _ h => nomatch h), fun f hf => hf, fun f hf e => by
    have := (h.fd f hf).2.2.2
    omega⟩
/-- what a unit more makes of an entry -/
theorem ent_more {U : Row α} {j k : Nat} {e : Row α × Row α} {u : α × Int} (zU : UR U) (rU : gl O U = ln U) (h : Ent O U j e) (hk : AtF O e.2 k u) :
    Ent O U (j + 1) (pile O (e.1 ++ [u]), e.2.take k ++ e.2.drop (k + 1)) ∧ Low O (pile O (e.1 ++ [u])) U := by
  obtain ⟨part, left⟩ := e
  obtain ⟨nz, pf, ur, eq, hg, len⟩ := h
  have nz : NZ part := nz
  have ur : UR left := ur
  have eq : act O (part ++ left) [] = act O U [] := eq
  have hg : gl O part = j := hg
  have len : left.length + j = U.length := len
  obtain ⟨m, v, el, hm, ha⟩ := hk
  have el : left = m ++ u :: v := el
  have uu : Un u.2 := ur u (by rw [el]; simp)
  have um : UR m := fun x hx => ur x (by rw [el]; simp [hx])
  have uv : UR v := fun x hx => ur x (by rw [el]; simp [hx])
  have zu : NZ [u] := nz1 uu.ne
  have zpu := nz.app zu
  have umv : UR (m ++ v) := fun x hx => (List.mem_append.mp hx).elim (um x) (uv x)
  have e0 : act O (part ++ [u] ++ (m ++ v)) [] = act O U [] := by
    rw [← eq, el, List.append_assoc]
    exact (act_move (O := O) (u := part) (p := m) (v := v) (x := u) ha nz um.nz n00).symm
  have lmv : (m ++ v).length + (j + 1) = U.length := by
    rw [el] at len
    rw [List.length_append] at len ⊢
    rw [List.length_cons] at len
    omega
  have g1 := gl_app (O := O) nz zu
  have g2 : gl O [u] ≤ 1 := by
    refine Nat.le_trans gl_le ?_
    have : ln [u] = u.2.natAbs + 0 := rfl
    rw [this, uu.abs]
    exact Nat.le_refl _
  have g3 := gl_app (O := O) zpu umv.nz
  rw [gl_congr e0, rU, zU.ln] at g3
  have g4 := gl_le (O := O) (l := m ++ v)
  rw [umv.ln] at g4
  have g5 : gl O (part ++ [u]) = j + 1 := by omega
  have zP := pile_nz (O := O) zpu
  have eP := pile_act (O := O) zpu (q := []) n00
  have ed : left.take k ++ left.drop (k + 1) = m ++ v := by
    rw [el, ← hm]
    simp
  refine ⟨⟨zP, pile_idem zpu, ?_, ?_, ?_, ?_⟩, ?_⟩
  · show UR (left.take k ++ left.drop (k + 1))
    rw [ed]
    exact umv
  · show act O (pile O (part ++ [u]) ++ (left.take k ++ left.drop (k + 1))) [] = _
    rw [ed, act_app, eP, ← act_app]
    exact e0
  · show gl O (pile O (part ++ [u])) = _
    rw [gl_congr eP]
    exact g5
  · show (left.take k ++ left.drop (k + 1)).length + (j + 1) = _
    rw [ed]
    exact lmv
  · refine (low_congr zP zpu eP).mpr ?_
    have e2 : act O (back (part ++ [u]) ++ U) [] = act O (m ++ v) [] := by
      have k1 : act O (back (part ++ [u]) ++ (part ++ [u] ++ (m ++ v))) [] = act O (m ++ v) [] := act_part2 zpu n00
      rw [← k1]
      exact eq_app (O := O) (back_nz zpu) zU.nz (zpu.app umv.nz) rfl e0.symm
    unfold Low
    rw [gl_congr e2, rU, zU.ln]
    omega
/-- one that is known -/
theorem LM.put {U : Row α} {j k : Nat} {fl0 fl : List (Row α)} {lt : List (Row α × Row α)} {e : Row α × Row α} {u : α × Int} (zU : UR U) (rU : gl O U = ln U) (h : LM O U j fl0 fl lt) (he : Ent O U j e) (hk : AtF O e.2 k u) (hn : pile O (e.1 ++ [u]) ∉ fl) :
    LM O U j fl0 (fl ++ [pile O (e.1 ++ [u])]) (lt ++ [(pile O (e.1 ++ [u]), e.2.take k ++ e.2.drop (k + 1))]) := by
  obtain ⟨h1, h2⟩ := ent_more zU rU he hk
  refine ⟨List.nodup_append.mpr ⟨h.nd, by simp, fun a ha b hb => by rw [List.mem_singleton.mp hb]; exact fun q => hn (by rw [← q]; exact ha)⟩, fun f hf => ?_, fun x hx => ?_, fun f hf => List.mem_append_left _ (h.sub f hf), fun f hf hg => ?_⟩
  · rcases List.mem_append.mp hf with hf | hf
    · exact h.fd f hf
    · rw [List.mem_singleton.mp hf]
      exact ⟨h1.nz, h1.pf, h2, Nat.le_of_eq h1.gl⟩
  · rcases List.mem_append.mp hx with hx | hx
    · exact h.es x hx
    · rw [List.mem_singleton.mp hx]
      exact h1
  · rcases List.mem_append.mp hf with hf | hf
    · obtain ⟨left, hl⟩ := h.ent f hf hg
      exact ⟨left, List.mem_append_left _ hl⟩
    · rw [List.mem_singleton.mp hf]
      exact ⟨_, List.mem_append_right _ (List.mem_singleton.mpr rfl)⟩
theorem back_frt {c : Row α} (zc : NZ c) (h : gl O c ≠ 0) : ∃ a s, Un s ∧ gl O (c ++ [(a, -s)]) + 1 = gl O c := by
  obtain ⟨a, s, hs, hf⟩ := frt_ex (O := O) (back_nz zc) (by rw [gl_back zc]; exact h)
  refine ⟨a, -s, hs.neg, ?_⟩
  unfold Frt at hf
  have z : NZ ((a, -s) :: back c) := nzc hs.neg.ne (back_nz zc)
  rw [gl_back zc, ← gl_back z, back_cons, back_back] at hf
  exact hf
/-- one unit less, at the end -/
theorem low_less {a : α} {s : Int} {c U : Row α} (hs : Un s) (zc : NZ c) (zU : NZ U) (h : Low O c U) (hg : gl O (c ++ [(a, -s)]) + 1 = gl O c) :
    Low O (c ++ [(a, -s)]) U ∧ Frt O a s (back (c ++ [(a, -s)]) ++ U) ∧ act O (c ++ [(a, -s)] ++ [(a, s)]) [] = act O c [] := by
  have z1 : NZ [(a, -s)] := nz1 hs.neg.ne
  have zc1 : NZ (c ++ [(a, -s)]) := zc.app z1
  have eb : back (c ++ [(a, -s)]) ++ U = (a, s) :: (back c ++ U) := by
    rw [back_app, List.append_assoc]
    show (a, -(-s)) :: (back c ++ U) = _
    rw [Int.neg_neg]
  have zb := (back_nz zc).app zU
  have k1 := low_part (O := O) zc1 zU
  have k2 := unit_high (O := O) (a := a) (s := s) hs zb
  rw [eb] at k1 ⊢
  unfold Low at h ⊢
  have k3 : gl O ((a, -s) :: (a, s) :: (back c ++ U)) = gl O (back c ++ U) := gl_congr (act_cancel2 hs.ne n00)
  refine ⟨by rw [eb]; omega, ?_, ?_⟩
  · unfold Frt
    omega
  · rw [List.append_assoc, act_app]
    exact act_cancel2 (O := O) (a := a) (s := s) (l := []) hs.ne (nf_act zc n00)
theorem low_descend {U : Row α} (zU : NZ U) {i : Nat} : ∀ (n : Nat) {c : Row α}, gl O c = n → i ≤ n → NZ c → Low O c U → ∃ d, NZ d ∧ Low O d U ∧ gl O d = i
  | 0, c, hn, hi, zc, h => ⟨c, zc, h, by omega⟩
  | n + 1, c, hn, hi, zc, h => by
    by_cases e : i = n + 1
    · exact ⟨c, zc, h, by omega⟩
    · obtain ⟨a, s, hs, hg⟩ := back_frt zc (by omega : gl O c ≠ 0)
      exact low_descend zU n (by omega) (by omega) (zc.app (nz1 hs.neg.ne)) (low_less hs zc zU h hg).1
theorem LB.done {U : Row α} (zU : NZ U) {j : Nat} {fl : List (Row α)} (h : LB O U j fl []) {c : Row α} (zc : NZ c) (hc : Low O c U) : pile O c ∈ fl := by
  by_cases e : gl O c ≤ j
  · exact h.full c zc hc e
  · obtain ⟨d, zd, hd, hg⟩ := low_descend zU (i := j) _ rfl (by omega) zc hc
    have hm := h.full d zd hd (by omega)
    obtain ⟨left, hl⟩ := h.ent _ hm (by rw [gl_congr (pile_act zd n00)]; exact hg)
    cases hl
theorem LB.start {U : Row α} (zU : UR U) : LB O U 0 [[]] [([], U)] := by
  have l0 : gl O ([] : Row α) = 0 := rfl
  refine ⟨by simp, fun f hf => ?_, fun e he => ?_, fun c zc hc hg => ?_, fun f hf _ => ?_⟩
  · rw [List.mem_singleton.mp hf]
    refine ⟨nz0, rfl, ?_, Nat.le_of_eq l0⟩
    unfold Low
    rw [l0, Nat.zero_add]
    rfl
  · rw [List.mem_singleton.mp he]
    exact ⟨nz0, rfl, zU, rfl, l0, rfl⟩
  · have e := gl_zero (O := O) zc (by omega)
    unfold pile
    rw [e]
    simp
  · rw [List.mem_singleton.mp hf]
    exact ⟨U, by simp⟩
theorem LM.close {U : Row α} {j : Nat} {fl0 fl : List (Row α)} {ly lt : List (Row α × Row α)} (zU : UR U) (rU : gl O U = ln U) (h0 : LB O U j fl0 ly) (h : LM O U j fl0 fl lt)
    (hd : ∀ e ∈ ly, ∀ k u, AtF O e.2 k u → pile O (e.1 ++ [u]) ∈ fl) : LB O U (j + 1) fl lt := by
  refine ⟨h.nd, h.fd, h.es, fun c zc hc hg => ?_, h.ent⟩
  by_cases e : gl O c ≤ j
  · exact h.sub _ (h0.full c zc hc e)
  · obtain ⟨a, s, hs, hl⟩ := back_frt zc (by omega : gl O c ≠ 0)
    obtain ⟨k1, k2, k3⟩ := low_less hs zc zU.nz hc hl
    have zd : NZ (c ++ [(a, -s)]) := zc.app (nz1 hs.neg.ne)
    generalize c ++ [(a, -s)] = d at hl k1 k2 k3 zd
    have gd : gl O d = j := by omega
    have hm := h0.full d zd k1 (by omega)
    obtain ⟨left, hle⟩ := h0.ent _ hm (by rw [gl_congr (pile_act zd n00)]; exact gd)
    have he := h0.es _ hle
    obtain ⟨nz, pf, ur, eq, hgl, len⟩ := he
    have nz : NZ (pile O d) := nz
    have ur : UR left := ur
    have eq : act O (pile O d ++ left) [] = act O U [] := eq
    have len : left.length + j = U.length := len
    have ed := pile_act (O := O) zd (q := []) n00
    -- what is left is what leads there
    have el : act O (back d ++ U) [] = act O left [] := by
      have q1 : act O (d ++ left) [] = act O U [] := by
        rw [← eq, act_app, act_app, ed]
      have q2 : act O (back d ++ (d ++ left)) [] = act O left [] := act_part2 zd n00
      rw [← q2]
      exact eq_app (O := O) (back_nz zd) zU.nz (zd.app ur.nz) rfl q1.symm
    have gleft : gl O left = ln left := by
      have q3 := k1
      unfold Low at q3
      rw [gl_congr el, rU, zU.ln, gd] at q3
      rw [ur.ln]
      omega
    obtain ⟨t, t1, t2⟩ := (frt_iff ur.nz gleft hs).mp ((frt_congr hs ((back_nz zd).app zU.nz) ur.nz el).mp k2)
    have ut : Un t := ur (a, t) (nearS_mem t1)
    rw [sg_unit ut] at t2
    subst t2
    obtain ⟨m, v, em, hm2⟩ := nearS_split t1
    have := hd _ hle m.length (a, t) ⟨m, v, em, rfl, hm2⟩
    have q4 : act O (pile O d ++ [(a, t)]) [] = act O c [] := by
      rw [← k3, act_app, act_app, ed]
    rw [← pile_congr q4]
    exact this
end
end XM
set_option Elab.async false
set_option linter.all false
set_option maxRecDepth 100000
set_option maxHeartbeats 4000000
namespace XB
open PySem PySem.Spec PyProof.Rows L2
/-- the units of some steps, one by one -/
def unitsL (l : List (Str × Int)) : List (Str × Int) := l.flatMap fun s => List.replicate s.2.natAbs (s.1, XM.sg s.2)
theorem units_cons (s : Str × Int) (l : List (Str × Int)) : unitsL (s :: l) = List.replicate s.2.natAbs (s.1, XM.sg s.2) ++ unitsL l := rfl
theorem units_snoc (l : List (Str × Int)) (s : Str × Int) : unitsL (l ++ [s]) = unitsL l ++ List.replicate s.2.natAbs (s.1, XM.sg s.2) := by
  unfold unitsL
  rw [List.flatMap_append]
  simp
theorem units_ur (l : List (Str × Int)) : XM.UR (unitsL l) := fun x hx => by
  unfold unitsL at hx
  obtain ⟨s, _, h⟩ := List.mem_flatMap.mp hx
  rw [(List.mem_replicate.mp h).2]
  exact XM.sg_un _
theorem units_names {F : Fld} {l : List (Str × Int)} (h : Names F l) : Names F (unitsL l) := fun x hx => by
  unfold unitsL at hx
  obtain ⟨s, hs, h2⟩ := List.mem_flatMap.mp hx
  rw [(List.mem_replicate.mp h2).2]
  exact h s hs
theorem units_len : ∀ l : List (Str × Int), (unitsL l).length = XM.ln l
  | [] => rfl
  | s :: l => by
    rw [units_cons, List.length_append, List.length_replicate, units_len l]
    rfl
theorem act_units {F : Fld} : ∀ (l q : List (Str × Int)), XM.NZ l → XM.NF (OF F) q → XM.act (OF F) (unitsL l) q = XM.act (OF F) l q
  | [], q, _, _ => rfl
  | s :: l, q, z, hq => by
    have hs : s.2 ≠ 0 := z s List.mem_cons_self
    have rep : ∀ (n : Nat) (q : List (Str × Int)), XM.NF (OF F) q → n ≠ 0 → XM.act (OF F) (List.replicate n (s.1, XM.sg s.2)) q = XM.act (OF F) [(s.1, (n : Int) * XM.sg s.2)] q := fun n => by
      induction n with
      | zero => exact fun _ _ h => absurd rfl h
      | succ n ih =>
        intro q hq _
        by_cases h0 : n = 0
        · subst h0
          rw [show ((0 + 1 : Nat) : Int) * XM.sg s.2 = XM.sg s.2 by omega]
          rfl
        · have u := XM.sg_un s.2
          rw [List.replicate_succ, XM.act_cons, ih _ (XM.nf_ins (x := (s.1, XM.sg s.2)) u.ne hq) h0]
          have k := XM.act_join1 (O := OF F) (v := []) (q := q) (a := s.1) (s := XM.sg s.2) (t := (n : Int) * XM.sg s.2) u.ne (by
            rcases u with u | u <;> rw [u] <;> omega) hq
          have e : XM.sg s.2 + (n : Int) * XM.sg s.2 = ((n + 1 : Nat) : Int) * XM.sg s.2 := by
            rcases u with u | u <;> rw [u] <;> omega
          rw [if_neg (by rw [e]; rcases u with u | u <;> rw [u] <;> omega), e] at k
          exact k
    rw [units_cons, XM.act_app, rep _ _ hq (by omega), show ((s.2.natAbs : Nat) : Int) * XM.sg s.2 = s.2 by unfold XM.sg; split <;> omega]
    exact act_units l _ (XM.nzt z) (XM.nf_ins (x := s) hs hq)
section
variable {P : Program} {w : World} {K : PySem.W.Frag} {mg : Str → Option Value} {base : Heap}
def spUnits (K : PySem.W.Frag) : Sp := fun vs H Q _ => ∃ (p : Addr) (xs : List V) (l : List (Str × Int)), vs = [.ref p] ∧ SqL K H p xs ∧ DpAll K H xs (l.map dStep) ∧ l.length ≤ 200 ∧ XM.ln l ≤ 200 ∧ ∀ H' r, Same H H' → Dp K H' (.ref r) (dSteps (unitsL l)) → Q (.ref r) H'
theorem c__law_units (T : Tx K mg) : Cl P w K mg base CX0 1 "_law_units" (spUnits K) := by
  refine cl0 T.d__law_units (ps := ["steps"]) (fun _ _ _ _ _ _ us hl => match us, hl with | [_], _ => rfl) sc__law_units (fun vs H Q E h => ?_) (fun fa cdv A outer st H vs Q E hr h => ?_)
  · obtain ⟨p, xs, l, rfl, _⟩ := h
    rfl
  · obtain ⟨p, xs, l, rfl, hS, hD, ll, lln, q⟩ := h
    have nd := sc__law_units.nd
    refine ⟨_, (pss_cons (ps_set (i := 1) nd rfl (.inl rfl) (pe_lst pa_nil))
    (pss_cons (ps_for PassesOwn.never rfl (pi_list (pv 0)) (pg_tup rfl (pgs_cons (pg_name (i := 2) nd rfl (.inl rfl)) (pgs_cons (pg_name (i := 3) nd rfl (.inl rfl)) pgs_nil)))
    (pss_one (ps_set (i := 1) nd rfl (.inl rfl) (pe_op op_cat (pv 1) (pe_op op_rep (pe_lst (pa_cons (pe_tup (pa_cons (pv 2) (pa_cons (pe_ifExp (pt_cmpR op_gt (pv 3) pe_int (nomark _)) pe_int (pe_un un_neg pe_int)) pa_nil))) pa_nil)) (pe_callB call_abs (by rfl) T.b_abs (by decide +kernel) (pa_cons (pv 3) pa_nil)))))))
    (pss_one (ps_ret (pe_tupleOf (by rfl) T.b_tuple (pv 1)))))), ?_⟩
    have lx := hD.len
    rw [List.length_map] at lx
    refine ⟨Nat.zero_le _, fun D0 nD0 => upd_gen nD0 fun H1 s1 e1 => ?_⟩
    refine ⟨_, rfl, p, rfl, ⟨_, s1.seq hS⟩, ?_⟩
    refine for_it (walk_list (xs := xs)) (fun i σ H' => ∃ (D : Addr) (y2 y3 : Option V), σ = [some (.ref p), some (.ref D), y2, y3] ∧ Same H H' ∧ RowG K H' D ((unitsL (l.take i)).map dStep))
      ⟨D0, none, none, rfl, s1, [], e1, .nil⟩ (fun _ _ _ _ ⟨_, _, _, _, s', _⟩ => s'.seq hS) (fun i x σ H2o H2 hi ⟨D, y2, y3, eσ, s2, hR⟩ hy => ?_) (fun σ H2 ⟨D, y2, y3, eσ, s2, hR⟩ => ?_)
    · obtain ⟨rfl, hx⟩ := hy
      subst eσ
      obtain ⟨dd, g1, p1⟩ := hD.get hx
      rw [List.getElem?_map] at g1
      obtain ⟨s, k1, rfl⟩ := Option.map_eq_some_iff.mp g1
      obtain ⟨b, rfl, cb⟩ := (Dp.sm s2 _ p1).step
      have hlt : i < l.length := by omega
      have lk : (unitsL (l.take i)).length + s.2.natAbs ≤ 200 := by
        have e : (unitsL (l.take (i + 1))).length = (unitsL (l.take i)).length + s.2.natAbs := by
          rw [take_snoc k1, units_snoc, List.length_append, List.length_replicate]
        have e2 : XM.ln (l.take (i + 1)) + XM.ln (l.drop (i + 1)) = XM.ln l := by
          rw [← XM.ln_app, List.take_append_drop]
        rw [units_len (l.take (i + 1))] at e
        omega
      refine ⟨b, _, rfl, cb, rfl, _, _, rfl, _, _, rfl, rfl, ?_⟩
      refine ⟨_, rfl, _, rfl, ?_⟩
      show tIf _ _ _ _ _ _
      refine by_q (fun v H' => v = .int (XM.sg s.2) ∧ H' = H2) (fun Qx hQ => ?_) (fun v H' ⟨ev, eH⟩ => ?_)
      · unfold XM.sg at hQ
        refine ⟨_, rfl, _, _, rfl, rfl, _, rfl, ite2 (fun h => ?_) (fun h => ?_)⟩
        · have h : 0 < s.2 := of_decide_eq_true h
          rw [if_pos h] at hQ
          exact hQ _ _ ⟨rfl, rfl⟩
        · have h : ¬ 0 < s.2 := fun q => h (decide_eq_true q)
          rw [if_neg h] at hQ
          exact ⟨_, rfl, hQ _ _ ⟨rfl, rfl⟩⟩
      · subst ev
        subst eH
        refine ⟨two_sz, fun t nt => upd_gen nt fun H3 s3 e3 => ⟨one_sz, fun L nL => upd_gen nL fun H4 s4 e4 => ?_⟩⟩
        have ek : (if s.2 < 0 then -s.2 else s.2).toNat = s.2.natAbs := by split <;> omega
        refine ⟨_, rfl, _, rfl, L, _, _, rfl, rfl, e4, by split <;> omega, by split <;> omega, by rw [ek, List.length_singleton]; exact Nat.le_trans (by omega : 1 * s.2.natAbs ≤ 1000) (by decide), fun p5 n5 => upd_gen n5 fun H5 s5 e5 => ?_⟩
        rw [ek] at e5
        have s25 := s3.trans (s4.trans s5)
        have hN : RowG K H5 p5 ((List.replicate s.2.natAbs (s.1, XM.sg s.2)).map dStep) := by
          refine ⟨_, e5, ?_⟩
          have hd : Dp K H5 (.ref t) (dStep (s.1, XM.sg s.2)) := dstep_of (s.1, XM.sg s.2) e3 (s4.trans s5)
          generalize s.2.natAbs = n
          induction n with
          | zero => exact .nil
          | succ n ih =>
            rw [List.replicate_succ, List.replicate_succ, List.flatten_cons]
            exact .cons hd ih
        refine rowCatG (hR.same s25) hN (by rw [List.length_map, List.length_map, List.length_replicate]; omega) fun H6 p6 s6 n6 h6 => ?_
        refine ⟨p6, _, _, rfl, s2.trans (s25.trans s6), ?_⟩
        rw [take_snoc k1, units_snoc, List.map_append]
        exact h6
    · subst eσ
      obtain ⟨ys, e2, hY⟩ := hR
      rw [lx, List.take_length] at hY
      exact ⟨_, rfl, .inl ⟨D, ys, rfl, SqL.of e2, fun r nr => upd_gen nr fun H3 s3 e3 => q H3 r (s2.trans s3) (.tup (SqT.of e3) (DpAll.sm s3 _ hY))⟩⟩
end
end XB
set_option Elab.async false
set_option linter.all false
set_option maxRecDepth 100000
set_option maxHeartbeats 4000000
namespace XB
open PySem PySem.Spec PyProof.Rows L2
theorem int_eq (a b : Nat) : decide (V.int (a : Int) = V.int (b : Int)) = decide (a = b) := decide_eq_decide.mpr ⟨fun h => by injection h with h; omega, fun h => by rw [h]⟩
structure StA (K : PySem.W.Frag) (F : Fld) (H : Hp) (p : Addr) (l : List (Str × Int)) (n : Nat) : Prop where
  d : Dp K H (.ref p) (dSteps l)
  nm : Names F l
  nz : XM.NZ l
  le : l.length ≤ n
theorem StA.same {K : PySem.W.Frag} {F : Fld} {H H' : Hp} {p : Addr} {l : List (Str × Int)} {n : Nat} (h : StA K F H p l n) (s : Same H H') : StA K F H' p l n := ⟨tS h.d s, h.nm, h.nz, h.le⟩
theorem StA.up {K : PySem.W.Frag} {F : Fld} {H : Hp} {p : Addr} {l : List (Str × Int)} {n m : Nat} (h : StA K F H p l n) (q : n ≤ m) : StA K F H p l m := ⟨h.d, h.nm, h.nz, Nat.le_trans h.le q⟩
section
variable {P : Program} {w : World} {K : PySem.W.Frag} {mg : Str → Option Value} {base : Heap}
def spLies (K : PySem.W.Frag) (F : Fld) : Sp := fun vs H Q _ => ∃ (a p1 p2 p3 p4 : Addr) (x y z m : List (Str × Int)), vs = [.ref a, .ref p1, .ref p2, .ref p3, .ref p4] ∧ Dp K H (.ref a) (dField F) ∧ F.Ok ∧ StA K F H p1 x 60 ∧ StA K F H p2 y 60 ∧ StA K F H p3 z 60 ∧ StA K F H p4 m 140 ∧
  ∀ H' b, Same H H' → (b = true ↔ XM.Med (OF F) x y z m) → Q (.bl b) H'
theorem c__law_lies (T : Tx K mg) (F : Fld) : Cl P w K mg base CX0 6 "_law_lies" (spLies K F) := by
  refine cl0 T.d__law_lies (ps := ["field", "one", "two", "three", "part"]) (fun _ _ _ _ _ _ us hl => match us, hl with | [_, _, _, _, _], _ => rfl) sc__law_lies (fun vs H Q E h => ?_) (fun fa cdv A outer st H vs Q E hr h => ?_)
  · obtain ⟨a, p1, p2, p3, p4, x, y, z, m, rfl, _⟩ := h
    rfl
  · obtain ⟨a, p1, p2, p3, p4, x, y, z, m, rfl, hF, ok, h1, h2, h3, h4, q⟩ := h
    have nd := sc__law_lies.nd
    refine ⟨_, (pss_cons (ps_for PassesOwn.never rfl (pi_tup (pe_tup (pa_cons (pe_tup (pa_cons (pv 1) (pa_cons (pv 2) pa_nil))) (pa_cons (pe_tup (pa_cons (pv 1) (pa_cons (pv 3) pa_nil))) (pa_cons (pe_tup (pa_cons (pv 2) (pa_cons (pv 3) pa_nil))) pa_nil))))) (pg_tup rfl (pgs_cons (pg_name (i := 5) nd rfl (.inl rfl)) (pgs_cons (pg_name (i := 6) nd rfl (.inl rfl)) pgs_nil)))
    (pss_one (ps_if (pt_cmpR op_ne (pe_op op_add (pe_k (c__law_far T F) hr (by decide) (by rfl) (pa_cons (pv 0) (pa_cons (pv 5) (pa_cons (pv 4) pa_nil)))) (pe_k (c__law_far T F) hr (by decide) (by rfl) (pa_cons (pv 0) (pa_cons (pv 4) (pa_cons (pv 6) pa_nil))))) (pe_k (c__law_far T F) hr (by decide) (by rfl) (pa_cons (pv 0) (pa_cons (pv 5) (pa_cons (pv 6) pa_nil)))) (nomark _)) (pss_one (ps_ret pe_bl)) pss_nil)))
    (pss_one (ps_ret pe_bl))), ?_⟩
    refine ⟨_, rfl, _, rfl, two_sz, fun t1 m1 => upd_gen m1 fun J1 j1 f1 => ⟨_, rfl, _, rfl, two_sz, fun t2 m2 => upd_gen m2 fun J2 j2 f2 => ⟨_, rfl, _, rfl, two_sz, fun t3 m3 => upd_gen m3 fun J3 j3 f3 => ⟨three_sz, fun t4 m4 => upd_gen m4 fun J4 j4 f4 => ?_⟩⟩⟩⟩
    have j34 := j3.trans j4
    have j24 := j2.trans j34
    have j14 := j1.trans j24
    refine ⟨t4, rfl, ⟨_, SqT.of f4⟩, ?_⟩
    refine for_it (walk_tup (xs := [.ref t1, .ref t2, .ref t3])) (fun i σ H' => ∃ (y5 y6 : Option V), σ = [some (.ref a), some (.ref p1), some (.ref p2), some (.ref p3), some (.ref p4), y5, y6] ∧ Same J4 H' ∧ ∀ pr ∈ ([(x, y), (x, z), (y, z)] : List (List (Str × Int) × List (Str × Int))).take i, XM.far (OF F) pr.1 m + XM.far (OF F) m pr.2 = XM.far (OF F) pr.1 pr.2)
      ⟨none, none, rfl, Same.refl _, fun _ h => nomatch h⟩ (fun _ _ _ _ ⟨_, _, _, s', _⟩ => (Tk.of s').sqT (SqT.of f4)) (fun i v σ H5o H5 hi ⟨y5, y6, eσ, s5, hall⟩ hy => ?_) (fun σ H5 ⟨y5, y6, eσ, s5, hall⟩ => ?_)
    · obtain ⟨rfl, hx⟩ := hy
      subst eσ
      have s05 := j14.trans s5
      have pick : ∃ (o u v' : Addr) (X Y : List (Str × Int)), v = .ref o ∧ SqT K H5 o [.ref u, .ref v'] ∧ StA K F H5 u X 60 ∧ StA K F H5 v' Y 60 ∧ ([(x, y), (x, z), (y, z)] : List (List (Str × Int) × List (Str × Int)))[i]? = some (X, Y) := by
        have hi : i < 3 := hi
        rcases (show i = 0 ∨ i = 1 ∨ i = 2 by omega) with h | h | h <;> subst h <;> cases hx
        · exact ⟨t1, p1, p2, x, y, rfl, (Tk.of (j24.trans s5)).sqT (SqT.of f1), h1.same s05, h2.same s05, rfl⟩
        · exact ⟨t2, p1, p3, x, z, rfl, (Tk.of (j34.trans s5)).sqT (SqT.of f2), h1.same s05, h3.same s05, rfl⟩
        · exact ⟨t3, p2, p3, y, z, rfl, (Tk.of (j4.trans s5)).sqT (SqT.of f3), h2.same s05, h3.same s05, rfl⟩
      obtain ⟨o, u, v', X, Y, rfl, hoS, hX, hY, hg⟩ := pick
      have hm := h4.same s05
      have lX := hX.le
      have lY := hY.le
      have lm := hm.le
      refine ⟨o, _, rfl, hoS, rfl, _, _, rfl, _, _, rfl, rfl, ?_⟩
      refine ⟨_, rfl, _, rfl, _, rfl, a, u, p4, X, m, rfl, tF hF s05, ok, hX.d, hm.d, hX.nm, hm.nm, hX.nz, hm.nz, by omega, fun H6 s6 => ?_⟩
      refine ⟨_, rfl, _, rfl, _, rfl, a, p4, v', m, Y, rfl, tF hF (s05.trans s6), ok, tS hm.d s6, tS hY.d s6, hm.nm, hY.nm, hm.nz, hY.nz, by omega, fun H7 s7 => ⟨_, _, rfl, rfl, ?_⟩⟩
      have s67 := s6.trans s7
      refine ⟨_, rfl, _, rfl, _, rfl, a, u, v', X, Y, rfl, tF hF (s05.trans s67), ok, tS hX.d s67, tS hY.d s67, hX.nm, hY.nm, hX.nz, hY.nz, by omega, fun H8 s8 => ⟨rfl, _, rfl, ?_⟩⟩
      have s68 := s67.trans s8
      have e0 : decide (V.int ((XM.far (OF F) X m : Nat) + (XM.far (OF F) m Y : Nat) : Int) = V.int (XM.far (OF F) X Y : Nat)) = decide (XM.far (OF F) X m + XM.far (OF F) m Y = XM.far (OF F) X Y) := decide_eq_decide.mpr ⟨fun h => by injection h with h; omega, fun h => by rw [← h]; rfl⟩
      rw [e0]
      refine ite2 (fun h => ?_) (fun h => ?_)
      · have h : ¬ XM.far (OF F) X m + XM.far (OF F) m Y = XM.far (OF F) X Y := fun k => by
          rw [decide_eq_true k] at h
          cases h
        refine q H8 false (s05.trans s68) ⟨fun k => (nomatch k), fun k => ?_⟩
        exfalso
        have hmem : (X, Y) ∈ ([(x, y), (x, z), (y, z)] : List (List (Str × Int) × List (Str × Int))) := List.mem_of_getElem? hg
        simp only [List.mem_cons, List.not_mem_nil, or_false, Prod.mk.injEq] at hmem
        rcases hmem with ⟨rfl, rfl⟩ | ⟨rfl, rfl⟩ | ⟨rfl, rfl⟩
        · exact h k.xy
        · exact h k.xz
        · exact h k.yz
      · have h : XM.far (OF F) X m + XM.far (OF F) m Y = XM.far (OF F) X Y := Classical.byContradiction fun k => h (by
          rw [decide_eq_false k]
          rfl)
        refine ⟨_, _, rfl, s5.trans s68, fun pr hpr => ?_⟩
        rw [take_snoc hg] at hpr
        rcases List.mem_append.mp hpr with hpr | hpr
        · exact hall pr hpr
        · rw [List.mem_singleton.mp hpr]
          exact h
    · subst eσ
      exact q H5 true (j14.trans s5) ⟨fun _ => ⟨hall (x, y) (by simp), hall (x, z) (by simp), hall (y, z) (by simp)⟩, fun _ => rfl⟩
/-- a drawn script whose pile has up to five units -/
def spSmall (K : PySem.W.Frag) : Sp := fun vs H Q _ => ∃ (m c g f : Addr) (s : Int) (F : Fld), vs = [.ref m, .ref f] ∧ Dr H m c g s ∧ Dp K H (.ref f) (dField F) ∧ F.Ok ∧ s < 800000000 ∧
  ∀ H' r l s', Dr H' m c g s' → s' ≤ s + 21 → Kp m g H H' → Dp K H' (.ref r) (dSteps l) → GoodAll F l → l.length ≤ 5 → XM.gl (OF F) l ≤ 5 → Q (.ref r) H'
theorem c__law_small (T : Tx K mg) : Cl P w K mg base CX0 5 "_law_small" (spSmall K) := by
  refine cl0 T.d__law_small (ps := ["m", "field"]) (fun _ _ _ _ _ _ us hl => match us, hl with | [_, _], _ => rfl) sc__law_small (fun vs H Q E h => ?_) (fun fa cdv A outer st H vs Q E hr h => ?_)
  · obtain ⟨m, c, g, f, s, F, rfl, _⟩ := h
    rfl
  · obtain ⟨m, c, g, f, s, F, rfl, R, hF, ok, hs, q⟩ := h
    have nd := sc__law_small.nd
    refine ⟨_, (pss_cons (ps_set (i := 2) nd rfl (.inl rfl) (pe_k (c__law_steps T) hr (by decide) (by rfl) (pa_cons (pv 0) (pa_cons (pv 1) (pa_cons pe_int (pa_cons pe_bl pa_nil))))))
    (pss_cons (ps_while PassesOwn.never (pt_cmpR op_gt (pe_k (c__law_length3 T F) hr (by decide) (by rfl) (pa_cons (pv 1) (pa_cons (pv 2) pa_nil))) pe_int (nomark _))
    (pss_one (ps_set (i := 2) nd rfl (.inl rfl) (pe_slice sl_tupA (pv 2) (po_some pe_int) po_none))))
    (pss_one (ps_ret (pv 2))))), ?_⟩
    refine ⟨_, rfl, _, rfl, m, c, g, f, s, 5, false, F, rfl, R, hF, ok, by decide, by decide, by omega, fun H1 r l s1 R1 hs1 k1 hL gL hl5 => ?_⟩
    have hF1 := Dp.tk (R.tk k1) _ (flat_field F) hF
    refine ⟨fun n σ H' => ∃ (r : Addr) (l : List (Str × Int)), n = l.length ∧ σ = [some (.ref m), some (.ref f), some (.ref r)] ∧ Same H1 H' ∧ Dp K H' (.ref r) (dSteps l) ∧ GoodAll F l ∧ l.length ≤ 5, ⟨l.length, r, l, rfl, rfl, Same.refl _, hL, gL, by omega⟩, ?_⟩
    rintro n σ H2 ⟨r, l, rfl, rfl, s2, hL, gL, hl5⟩
    obtain ⟨_, xs, ex, hxS, hxV⟩ := id hL.steps
    cases ex
    refine ⟨_, rfl, _, rfl, f, r, xs, l, rfl, tF hF1 s2, ok, .inr hxS, hxV, gL.names, gL.nz, by omega, fun H3 s3 => ⟨_, _, rfl, rfl, _, rfl, ?_⟩⟩
    refine ite2 (fun h => ?_) (fun h => ?_)
    · have h : (5 : Int) < (XM.gl (OF F) l : Nat) := of_decide_eq_true h
      have l0 : l.length ≠ 0 := fun e => by
        rw [List.length_eq_zero_iff.mp e] at h
        have : XM.gl (OF F) ([] : List (Str × Int)) = 0 := rfl
        omega
      refine ⟨fun σ H' => ∃ (r : Addr), σ = [some (.ref m), some (.ref f), some (.ref r)] ∧ Same H1 H' ∧ Dp K H' (.ref r) (dSteps (l.drop 1)), ?_, ?_⟩
      · rintro σ' H' ⟨r4, rfl, s4, h4⟩
        exact ⟨(l.drop 1).length, by rw [List.length_drop]; omega, r4, l.drop 1, rfl, rfl, s4, h4, gL.drop 1, by rw [List.length_drop]; omega⟩
      · exact ⟨_, rfl, ((1 : Nat) : Int), rfl, noPart (slFrom (k := 1) (tS hL s3) fun H4 r4 s4 h4 => ⟨r4, rfl, s2.trans (s3.trans s4), h4⟩)⟩
    · have h : ¬ (5 : Int) < (XM.gl (OF F) l : Nat) := fun k => h (decide_eq_true k)
      exact ⟨_, rfl, q H3 r l s1 (R1.same (s2.trans s3)) (by omega) (k1.trans (Kp.of (s2.trans s3))) (tS hL s3) gL hl5 (by omega)⟩
end
end XB
set_option Elab.async false
set_option linter.all false
set_option maxRecDepth 100000
set_option maxHeartbeats 8000000
namespace XB
open PySem PySem.Spec PyProof.Rows L2
theorem op_ninDLk {X : Cx} {K : PySem.W.Frag} (hk : X.K = K) (hu : X.A.units + 65 < cLine) : OpR X (compareOp .NotIn) (fun x y H Q => ∃ d ds, Dp K H x d ∧ Dp K H y (.list ds) ∧ SeqAt.shaped d = true ∧ SeqAt.shaped (.list ds) = true ∧ Q (.bl (!ds.any fun z => PyData.eqv z d)) H) := by
  subst hk
  intro pins s σ H x y v u Q I rx ry h
  obtain ⟨d, ds, hd, he, sd, se, q⟩ := h
  obtain ⟨as, r1⟩ := Dp.reads I d x v hd rx
  obtain ⟨bs, r2⟩ := Dp.reads I _ y u he ry
  exact SeqAt.notIn_list_reads r2 r1 (SeqAt.canLay_of_shaped se) (SeqAt.canLay_of_shaped sd) (room_in_shaped sd hu) ⟨.bl _, H, I, rfl, q⟩
abbrev Rw := List (Str × Int)
def dEnt (e : Rw × Rw) : PyData := .tuple [dSteps e.1, dSteps e.2]
theorem flat_ents (l : List (Rw × Rw)) : flatAll (l.map dEnt) = true := flatAll_of fun d hd => by
  obtain ⟨y, _, rfl⟩ := List.mem_map.mp hd
  show (flatD (dSteps y.1) && (flatD (dSteps y.2) && true)) = true
  rw [flat_steps, flat_steps]
  rfl
theorem flat_rws (l : List Rw) : flatAll (l.map dSteps) = true := flatAll_of fun d hd => by
  obtain ⟨y, _, rfl⟩ := List.mem_map.mp hd
  exact flat_steps y
theorem any_rws (fl : List Rw) (f : Rw) : ((fl.map dSteps).any fun z => PyData.eqv z (dSteps f)) = decide (f ∈ fl) := by
  rw [List.any_map, Bool.eq_iff_iff, List.any_eq_true, decide_eq_true_eq]
  constructor
  · rintro ⟨x, hx, h⟩
    have h : PyData.eqv (dSteps x) (dSteps f) = true := h
    rw [eqv_steps, decide_eq_true_eq] at h
    rw [← h]
    exact hx
  · intro h
    refine ⟨f, h, ?_⟩
    show PyData.eqv (dSteps f) (dSteps f) = true
    rw [eqv_steps]
    exact decide_eq_true rfl
theorem sh_rws {F : Fld} (ok : F.Ok) {fl : List Rw} (h : ∀ f ∈ fl, Names F f) : SeqAt.shaped (.list (fl.map dSteps)) = true := by
  have lay : PyData.canLayAll0 (fl.map dSteps) = true := by
    induction fl with
    | nil => rfl
    | cons f fl ih =>
      rw [List.map_cons, PyData.canLayAll0, ih fun x hx => h x (List.mem_cons_of_mem _ hx), Bool.and_true]
      exact lay_steps (l := f) fun s hs => ok.sgn _ (h f List.mem_cons_self s hs)
  have dep : PyData.depthAll (fl.map dSteps) ≤ 3 := by
    clear h lay
    induction fl with
    | nil => decide
    | cons f fl ih =>
      rw [List.map_cons, PyData.depthAll]
      have e1 := deep_steps f
      have e2 : (dSteps f).depth ≤ 3 := by
        show PyData.depth (.tuple (f.map dStep)) ≤ 3
        rw [PyData.depth]
        omega
      omega
  show (PyData.canLayAll0 (fl.map dSteps) && decide (PyData.depthAll (fl.map dSteps) + 1 ≤ 64)) = true
  rw [lay, Bool.true_and]
  exact decide_eq_true (by omega)
theorem sh_ents {F : Fld} (ok : F.Ok) {ly : List (Rw × Rw)} (h : ∀ e ∈ ly, Names F e.1 ∧ Names F e.2) : SeqAt.shaped (.list (ly.map dEnt)) = true := by
  have lay : PyData.canLayAll0 (ly.map dEnt) = true := by
    induction ly with
    | nil => rfl
    | cons e ly ih =>
      rw [List.map_cons, PyData.canLayAll0, ih fun x hx => h x (List.mem_cons_of_mem _ hx), Bool.and_true]
      have q := h e List.mem_cons_self
      have e1 := lay_steps (l := e.1) fun s hs => ok.sgn _ (q.1 s hs)
      have e2 := lay_steps (l := e.2) fun s hs => ok.sgn _ (q.2 s hs)
      show PyData.canLay0 (.tuple [.tuple (e.1.map dStep), .tuple (e.2.map dStep)]) = true
      simp only [PyData.canLay0, PyData.canLayAll0, e1, e2, Bool.and_true]
  have dep : PyData.depthAll (ly.map dEnt) ≤ 4 := by
    clear h lay
    induction ly with
    | nil => decide
    | cons e ly ih =>
      rw [List.map_cons, PyData.depthAll]
      have e1 := deep_steps e.1
      have e2 := deep_steps e.2
      have : (dEnt e).depth ≤ 4 := by
        show PyData.depth (.tuple [.tuple (e.1.map dStep), .tuple (e.2.map dStep)]) ≤ 4
        simp only [PyData.depth, PyData.depthAll]
        omega
      omega
  show (PyData.canLayAll0 (ly.map dEnt) && decide (PyData.depthAll (ly.map dEnt) + 1 ≤ 64)) = true
  rw [lay, Bool.true_and]
  exact decide_eq_true (by omega)
theorem atf_of {F : Fld} {l : Rw} {k : Nat} (h : k ∈ firstsL F l l.length) : ∃ u, l[k]? = some u ∧ XM.AtF (OF F) l k u := by
  obtain ⟨s, hs, hf⟩ := firsts_at h
  have hlt := (List.getElem?_eq_some_iff.mp hs).1
  refine ⟨s, hs, l.take k, l.drop (k + 1), ?_, by rw [List.length_take]; omega, hf⟩
  rw [← drop_at hs, List.take_append_drop]
theorem atf_mem {F : Fld} {l : Rw} {k : Nat} {u : Str × Int} (h : XM.AtF (OF F) l k u) : k ∈ firstsL F l l.length ∧ l[k]? = some u := by
  obtain ⟨m, v, e, hl, hm⟩ := h
  have hz : l[k]? = some u := by
    rw [e, ← hl, List.getElem?_append_right (Nat.le_refl _), Nat.sub_self]
    rfl
  refine ⟨mem_firsts.mpr ⟨(List.getElem?_eq_some_iff.mp hz).1, ?_⟩, hz⟩
  unfold free1
  rw [hz]
  show (l.take k).all _ = true
  rw [e, ← hl, List.take_left' rfl, List.all_eq_true]
  intro w hw
  rw [hm w hw]
  rfl
theorem len_ln0 : ∀ {l : Rw}, XM.NZ l → l.length ≤ XM.ln l
  | [], _ => Nat.le_refl _
  | s :: l, z => by
    have e : XM.ln (s :: l) = s.2.natAbs + XM.ln l := rfl
    have h0 := z s List.mem_cons_self
    have := len_ln0 (l := l) fun x hx => z x (List.mem_cons_of_mem _ hx)
    rw [e, List.length_cons]
    omega
/-- the law's list of least piles, and its layers -/
structure LS (F : Fld) (fl : List Rw) (ly : List (Rw × Rw)) : Prop where
  f : ∀ f ∈ fl, Names F f
  e : ∀ e ∈ ly, Names F e.1 ∧ Names F e.2
theorem null_ents (ly : List (Rw × Rw)) : PyData.eqv (.list (ly.map dEnt)) (.list []) = ly.isEmpty := by
  cases ly <;> rfl
theorem Same.back {H H' : Hp} (s : Same H H') {p : Addr} (n : H' p = none) : H p = none := by
  cases e : H p with
  | none => rfl
  | some o =>
    rw [s _ _ e] at n
    cases n
/-- the heap while a layer is gone through -/
structure LoSt (K : PySem.W.Frag) (H2 H' : Hp) (D Ly Lt : Addr) (ls : List V) (ly : List (Rw × Rw)) (fl : List Rw) (lt : List (Rw × Rw)) : Prop where
  s : Same H2 H'
  eLy : H' Ly = some (.lst ls)
  hLy : DpAll K H' ls (ly.map dEnt)
  hD : RowG K H' D (fl.map dSteps)
  hLt : RowG K H' Lt (lt.map dEnt)
theorem LoSt.same {K : PySem.W.Frag} {H2 H' H3 : Hp} {D Ly Lt : Addr} {ls : List V} {ly : List (Rw × Rw)} {fl : List Rw} {lt : List (Rw × Rw)} (h : LoSt K H2 H' D Ly Lt ls ly fl lt) (s : Same H' H3) : LoSt K H2 H3 D Ly Lt ls ly fl lt :=
  ⟨h.s.trans s, s _ _ h.eLy, DpAll.sm s _ h.hLy, h.hD.same s, h.hLt.same s⟩
theorem LoSt.putD {K : PySem.W.Frag} {H2 H' : Hp} {D Ly Lt : Addr} {ls ys : List V} {ly : List (Rw × Rw)} {fl : List Rw} {lt : List (Rw × Rw)} {v : V} {f : Rw} (h : LoSt K H2 H' D Ly Lt ls ly fl lt) (e : H' D = some (.lst ys)) (hv : DpAll K H' ys (fl.map dSteps)) (hd : Dp K H' v (dSteps f)) (n1 : D ≠ Ly) (n2 : D ≠ Lt) (n0 : H2 D = none) :
    LoSt K H2 (upd H' D (.lst (ys ++ [v]))) D Ly Lt ls ly (fl ++ [f]) lt := by
  have tP : Tk H' (upd H' D (.lst (ys ++ [v]))) := Tk.refl.lst e
  obtain ⟨zs, e2, hz⟩ := h.hLt
  refine ⟨same_put h.s n0, by rw [upd_ne n1.symm]; exact h.eLy, DpAll.tk tP _ (flat_ents _) h.hLy, ⟨_, upd_same, ?_⟩, ⟨zs, by rw [upd_ne n2.symm]; exact e2, DpAll.tk tP _ (flat_ents _) hz⟩⟩
  rw [List.map_append]
  exact (DpAll.tk tP _ (flat_rws _) hv).app (.cons (Dp.tk tP _ (flat_steps f) hd) .nil)
theorem LoSt.putL {K : PySem.W.Frag} {H2 H' : Hp} {D Ly Lt : Addr} {ls zs : List V} {ly : List (Rw × Rw)} {fl : List Rw} {lt : List (Rw × Rw)} {v : V} {x : Rw × Rw} (h : LoSt K H2 H' D Ly Lt ls ly fl lt) (e : H' Lt = some (.lst zs)) (hv : DpAll K H' zs (lt.map dEnt)) (hd : Dp K H' v (dEnt x)) (n1 : Lt ≠ Ly) (n2 : D ≠ Lt) (n0 : H2 Lt = none) :
    LoSt K H2 (upd H' Lt (.lst (zs ++ [v]))) D Ly Lt ls ly fl (lt ++ [x]) := by
  have tP : Tk H' (upd H' Lt (.lst (zs ++ [v]))) := Tk.refl.lst e
  obtain ⟨ys, e2, hy⟩ := h.hD
  have fx : flatD (dEnt x) = true := by
    show (flatD (dSteps x.1) && (flatD (dSteps x.2) && true)) = true
    rw [flat_steps, flat_steps]
    rfl
  refine ⟨same_put h.s n0, by rw [upd_ne n1.symm]; exact h.eLy, DpAll.tk tP _ (flat_ents _) h.hLy, ⟨ys, by rw [upd_ne n2]; exact e2, DpAll.tk tP _ (flat_rws _) hy⟩, ⟨_, upd_same, ?_⟩⟩
  rw [List.map_append]
  exact (DpAll.tk tP _ (flat_ents _) hv).app (.cons (Dp.tk tP _ fx hd) .nil)
theorem tup_of {K : PySem.W.Frag} {H : Hp} {v : V} {ds : List PyData} (h : Dp K H v (.tuple ds)) : ∃ a xs, v = .ref a ∧ SqT K H a xs ∧ DpAll K H xs ds := by
  cases h with
  | tup h1 h2 => exact ⟨_, _, rfl, h1, h2⟩
theorem dp_ent {K : PySem.W.Frag} {H : Hp} {v : V} {e : Rw × Rw} (h : Dp K H v (dEnt e)) : ∃ o b1 b2, v = .ref o ∧ SqT K H o [.ref b1, .ref b2] ∧ Dp K H (.ref b1) (dSteps e.1) ∧ Dp K H (.ref b2) (dSteps e.2) := by
  obtain ⟨o, os, rfl, hS, hA⟩ := tup_of h
  cases hA with
  | cons h1 hA =>
  cases hA with
  | cons h2 hA =>
  cases hA
  obtain ⟨b1, _, rfl, _⟩ := id h1.steps
  obtain ⟨b2, _, rfl, _⟩ := id h2.steps
  exact ⟨o, b1, b2, rfl, hS, h1, h2⟩
section
variable {P : Program} {w : World} {K : PySem.W.Frag} {mg : Str → Option Value} {base : Heap}
def spLowers (K : PySem.W.Frag) (F : Fld) : Sp := fun vs H Q _ => ∃ (a p : Addr) (xs : List V) (l : Rw), vs = [.ref a, .ref p] ∧ Dp K H (.ref a) (dField F) ∧ F.Ok ∧ SqT K H p xs ∧ DpAll K H xs (l.map dStep) ∧ Names F l ∧ XM.NZ l ∧ l.length ≤ 200 ∧ XM.gl (OF F) l ≤ 7 ∧
  ∀ H' r (fl : List Rw), Same H H' → RowG K H' r (fl.map dSteps) → (∀ f ∈ fl, Names F f) → fl.Nodup → (∀ f ∈ fl, XM.NZ f ∧ XM.pile (OF F) f = f ∧ XM.Low (OF F) f l) → (∀ c : Rw, XM.NZ c → XM.Low (OF F) c l → XM.pile (OF F) c ∈ fl) → fl.length ≤ 12000000 → Q (.ref r) H'
theorem c__law_lowers (T : Tx K mg) (F : Fld) : Cl P w K mg base CX0 5 "_law_lowers" (spLowers K F) := by
  refine cl0 T.d__law_lowers (ps := ["field", "steps"]) (fun _ _ _ _ _ _ us hl => match us, hl with | [_, _], _ => rfl) sc__law_lowers (fun vs H Q E h => ?_) (fun fa cdv A outer st H vs Q E hr h => ?_)
  · obtain ⟨a, p, xs, l, rfl, _⟩ := h
    rfl
  · obtain ⟨a, p, xs, l, rfl, hF, ok, hS, hD, nl, zl, ll, g7, q⟩ := h
    have nd := sc__law_lowers.nd
    have hu := u65 hr
    refine ⟨_, (pss_cons (ps_set (i := 2) nd rfl (.inl rfl) (pe_k (c__law_units T) hr (by decide) (by rfl) (pa_cons (pe_k (c__law_pile3 T F) hr (by decide) (by rfl) (pa_cons (pv 0) (pa_cons (pv 1) pa_nil))) pa_nil)))
    (pss_cons (ps_par (i := 3) (j := 4) rfl nd rfl rfl (by decide) rfl rfl (pa_cons (pe_lst (pa_cons (pe_tup pa_nil) pa_nil)) (pa_cons (pe_lst (pa_cons (pe_tup (pa_cons (pe_tup pa_nil) (pa_cons (pv 2) pa_nil))) pa_nil)) pa_nil)) rfl)
    (pss_cons (ps_while PassesOwn.never (pt_cmpR (op_neD hr.units) (pv 4) (pe_lst pa_nil) (nomark _))
    (pss_cons (ps_set (i := 5) nd rfl (.inl rfl) (pe_lst pa_nil))
    (pss_cons (ps_for PassesOwn.never rfl (pi_list (pv 4)) (pg_tup rfl (pgs_cons (pg_name (i := 6) nd rfl (.inl rfl)) (pgs_cons (pg_name (i := 7) nd rfl (.inl rfl)) pgs_nil)))
    (pss_one (ps_for PassesOwn.never rfl (pi_list (pe_k (c__law_firsts3 T F) hr (by decide) (by rfl) (pa_cons (pv 0) (pa_cons (pv 7) pa_nil)))) (pg_name (i := 8) nd rfl (.inl rfl))
    (pss_cons (ps_set (i := 9) nd rfl (.inl rfl) (pe_k (c__law_least3 T F) hr (by decide) (by rfl) (pa_cons (pv 0) (pa_cons (pe_op (op_catAk (K := K) rfl) (pv 6) (pe_tup (pa_cons (pe_ix (ixk_tup (K := K) rfl) (pv 7) (pv 8) (fun _ _ => rfl)) pa_nil))) pa_nil))))
    (pss_one (ps_if (pt_cmpR (op_ninDLk (K := K) rfl hu) (pv 9) (pv 3) (by rfl)) (pss_cons (ps_expr (pe_bm PySem.F.plainAttrs_list PySem.F.slot_list_append PySem.F.type_list_append mt_append (pv 3) (pa_cons (pv 9) pa_nil)))
    (pss_one (ps_expr (pe_bm PySem.F.plainAttrs_list PySem.F.slot_list_append PySem.F.type_list_append mt_append (pv 5) (pa_cons (pe_tup (pa_cons (pv 9) (pa_cons (pe_op (op_catAk (K := K) rfl) (pe_slice sl_tupA (pv 7) po_none (po_some (pv 8))) (pe_slice sl_tupA (pv 7) (po_some (pe_op op_add (pv 8) pe_int)) po_none)) pa_nil))) pa_nil))))) pss_nil))))))
    (pss_one (ps_set (i := 4) nd rfl (.inl rfl) (pv 5))))))
    (pss_one (ps_ret (pv 3)))))), ?_⟩
    refine ⟨_, rfl, _, rfl, a, p, xs, l, rfl, hF, ok, .inr hS, hD, nl, zl, ll, fun H1 D1 pl s1 hP nD1 nP zP pP aP lP => ?_⟩
    obtain ⟨ys, eP, hY⟩ := hP
    have gP : XM.ln pl = XM.gl (OF F) l := by
      rw [← XM.pl_red zP pP]
      exact XM.gl_congr aP
    refine ⟨D1, ys, pl, rfl, SqL.of eP, hY, by omega, by omega, fun H2 r s2 hU => ?_⟩
    have s12 := s1.trans s2
    have lU := units_len pl
    have uU := units_ur pl
    have nU := units_names (F := F) nP
    have aU : XM.act (OF F) (unitsL pl) [] = XM.act (OF F) l [] := by rw [act_units pl [] zP XM.n00, aP]
    have rU : XM.gl (OF F) (unitsL pl) = XM.ln (unitsL pl) := by
      rw [uU.ln, lU, gP]
      exact XM.gl_congr aU
    generalize unitsL pl = U at hU lU uU nU aU rU
    have lU7 : U.length ≤ 7 := by omega
    have hF2 := tF hF s12
    refine ⟨Nat.zero_le _, fun e0 ne0 => upd_gen ne0 fun J1 j1 f1 => ⟨one_sz, fun D0 nD0 => upd_gen nD0 fun J2 j2 f2 => ⟨Nat.zero_le _, fun e3 ne3 => upd_gen ne3 fun J3 j3 f3 => ⟨_, rfl, two_sz, fun t4 m4 => upd_gen m4 fun J4 j4 f4 => ⟨one_sz, fun L0 nL0 => upd_gen nL0 fun J5 j5 f5 => ⟨_, _, rfl, ?_⟩⟩⟩⟩⟩⟩
    have j45 := j4.trans j5
    have j35 := j3.trans j45
    have j25 := j2.trans j35
    have nDL : D0 ≠ L0 := ne_of_none ((j3.trans j4) _ _ f2) nL0
    have hU5 := tS hU (j1.trans j25)
    have rD0 : RowG K J5 D0 (([[]] : List Rw).map dSteps) := ⟨_, j35 _ _ f2, .cons (.tup ((Tk.of j25).sqT (SqT.of f1)) .nil) .nil⟩
    have rL0 : RowG K J5 L0 (([([], U)] : List (Rw × Rw)).map dEnt) := ⟨_, f5, .cons (.tup ((Tk.of j5).sqT (SqT.of f4)) (.cons (.tup ((Tk.of j45).sqT (SqT.of f3)) .nil) (.cons hU5 .nil))) .nil⟩
    have s25 : Same H2 J5 := j1.trans j25
    have nD2 : H2 D0 = none := Same.back j1 nD0
    clear hU hU5 f1 f2 f3 f4 f5
    refine ⟨fun mm σ H' => ∃ (j : Nat) (D Ly : Addr) (fl : List Rw) (ly : List (Rw × Rw)) (y5 y6 y7 y8 y9 : Option V), mm = U.length + 1 - j ∧ j ≤ U.length + 1 ∧ σ = [some (.ref a), some (.ref p), some (.ref r), some (.ref D), some (.ref Ly), y5, y6, y7, y8, y9] ∧ Same H2 H' ∧ RowG K H' D (fl.map dSteps) ∧ RowG K H' Ly (ly.map dEnt) ∧ D ≠ Ly ∧ H2 D = none ∧ XM.LB (OF F) U j fl ly ∧ LS F fl ly ∧ fl.length ≤ 2 * 7 ^ j ∧ ly.length ≤ 7 ^ j,
      ⟨U.length + 1, 0, D0, L0, [[]], [([], U)], none, none, none, none, none, rfl, by omega, rfl, s25, rD0, rL0, nDL, nD2, XM.LB.start uU, ⟨fun f hf => by rw [List.mem_singleton.mp hf]; exact (fun _ h => (nomatch h)), fun e he => by rw [List.mem_singleton.mp he]; exact ⟨(fun _ h => (nomatch h)), nU⟩⟩, (by decide : (1 : Nat) ≤ 2 * 7 ^ 0), Nat.le_refl _⟩, ?_⟩
    rintro mm σ H3 ⟨j, D, Ly, fl, ly, y5, y6, y7, y8, y9, rfl, hj, rfl, s3, hDr, hLr, nDLy, nD2, hLB, hLS, lfl, lly⟩
    obtain ⟨ls, eL, hLv⟩ := id hLr
    have lls := hLv.len
    rw [List.length_map] at lls
    have p8 : 7 ^ j ≤ 7 ^ 8 := Nat.pow_le_pow_right (by decide) (by omega)
    have p8' : (7 : Nat) ^ 8 = 5764801 := by decide
    refine ⟨_, rfl, Nat.zero_le _, fun p0 h0 => upd_gen h0 fun H4 s4 e4 => ⟨_, .list [], .lst (SqL.of (s4 _ _ eL)) (DpAll.sm s4 _ hLv), .lst (SqL.of e4) .nil, sh_ents ok hLS.e, rfl, ?_⟩⟩
    rw [null_ents]
    cases hE : ly.isEmpty with
    | true =>
      have hE := List.isEmpty_iff.mp hE
      subst hE
      refine ⟨_, rfl, iteF ⟨_, rfl, q H4 D fl (s12.trans (s3.trans s4)) (hDr.same s4) hLS.f hLB.nd (fun f hf => ?_) (fun c zc hc => ?_) (by omega)⟩⟩
      · obtain ⟨k1, k2, k3, _⟩ := hLB.fd f hf
        refine ⟨k1, k2, ?_⟩
        have e1 : XM.act (OF F) (XM.back f ++ U) [] = XM.act (OF F) (XM.back f ++ l) [] := XM.eq_app (XM.back_nz k1) uU.nz zl rfl aU
        unfold XM.Low at k3 ⊢
        rwa [← XM.gl_congr e1, ← XM.gl_congr aU]
      · refine hLB.done uU.nz zc ?_
        have e1 : XM.act (OF F) (XM.back c ++ U) [] = XM.act (OF F) (XM.back c ++ l) [] := XM.eq_app (XM.back_nz zc) uU.nz zl rfl aU
        unfold XM.Low at hc ⊢
        rwa [XM.gl_congr e1, XM.gl_congr aU]
    | false =>
      have jU : j ≤ U.length := by
        cases ly with
        | nil => cases hE
        | cons e ly =>
          have := (hLB.es e List.mem_cons_self).len
          omega
      have p7 : 7 ^ j ≤ 7 ^ 7 := Nat.pow_le_pow_right (by decide) (by omega)
      have p7' : (7 : Nat) ^ 7 = 823543 := by decide
      have p1 : 7 ^ (j + 1) = 7 * 7 ^ j := by rw [Nat.pow_succ, Nat.mul_comm]
      refine ⟨_, rfl, iteT ⟨fun σ H' => ∃ (Lt : Addr) (fl' : List Rw) (lt : List (Rw × Rw)) (y6 y7 y8 y9 : Option V), σ = [some (.ref a), some (.ref p), some (.ref r), some (.ref D), some (.ref Lt), some (.ref Lt), y6, y7, y8, y9] ∧ Same H2 H' ∧ RowG K H' D (fl'.map dSteps) ∧ RowG K H' Lt (lt.map dEnt) ∧ D ≠ Lt ∧ XM.LB (OF F) U (j + 1) fl' lt ∧ LS F fl' lt ∧ fl'.length ≤ 2 * 7 ^ (j + 1) ∧ lt.length ≤ 7 ^ (j + 1), ?_, ?_⟩⟩
      · rintro σ' H' ⟨Lt, fl', lt, y6, y7, y8, y9, rfl, s', hD', hL', n', LB', LS', l1, l2⟩
        exact ⟨U.length + 1 - (j + 1), by omega, j + 1, D, Lt, fl', lt, _, _, _, _, _, rfl, by omega, rfl, s', hD', hL', n', nD2, LB', LS', l1, l2⟩
      refine ⟨Nat.zero_le _, fun Lt nLt => upd_gen nLt fun H5 s5 e5 => ?_⟩
      have s35 := s4.trans s5
      obtain ⟨ds, eD, _⟩ := id hDr
      have nDLt : D ≠ Lt := ne_of_none (s4 _ _ eD) nLt
      have nLtLy : Lt ≠ Ly := (ne_of_none (s4 _ _ eL) nLt).symm
      have nLt2 : H2 Lt = none := Same.back (s3.trans s4) nLt
      have st0 : LoSt K H2 H5 D Ly Lt ls ly fl [] := ⟨s3.trans s35, s35 _ _ eL, DpAll.sm s35 _ hLv, hDr.same s35, ⟨[], e5, .nil⟩⟩
      refine ⟨_, rfl, Ly, rfl, ⟨_, SqL.of st0.eLy⟩, ?_⟩
      refine for_it (walk_list (xs := ls)) (fun i σ H' => ∃ (fl' : List Rw) (lt : List (Rw × Rw)) (y6 y7 y8 y9 : Option V), σ = [some (.ref a), some (.ref p), some (.ref r), some (.ref D), some (.ref Ly), some (.ref Lt), y6, y7, y8, y9] ∧ LoSt K H2 H' D Ly Lt ls ly fl' lt ∧ XM.LM (OF F) U j fl fl' lt ∧ LS F fl' lt ∧ (∀ e ∈ ly.take i, ∀ k u, XM.AtF (OF F) e.2 k u → XM.pile (OF F) (e.1 ++ [u]) ∈ fl') ∧ fl'.length ≤ fl.length + 7 * i ∧ lt.length ≤ 7 * i)
        ⟨fl, [], y6, y7, y8, y9, rfl, st0, hLB.mid, ⟨hLS.f, fun _ h => nomatch h⟩, (fun _ h => nomatch h), Nat.le_refl _, Nat.le_refl _⟩ (fun _ _ _ _ ⟨_, _, _, _, _, _, _, st, _⟩ => SqL.of st.eLy) (fun i x σ H6o H6 hi ⟨fl', lt, y6, y7, y8, y9, eσ, st, hLM, hLS', hdn, lf', lt'⟩ hy => ?_) (fun σ H6 ⟨fl', lt, y6, y7, y8, y9, eσ, st, hLM, hLS', hdn, lf', lt'⟩ => ?_)
      · obtain ⟨rfl, hx⟩ := hy
        subst eσ
        obtain ⟨dd, g1, q1⟩ := st.hLy.get hx
        rw [List.getElem?_map] at g1
        obtain ⟨e, k1, rfl⟩ := Option.map_eq_some_iff.mp g1
        have me := List.mem_of_getElem? k1
        have hEnt := hLB.es e me
        obtain ⟨ne1, ne2⟩ := hLS.e e me
        obtain ⟨o, b1, b2, rfl, hoS, hb1, hb2⟩ := dp_ent q1
        have hil : i < ly.length := (List.getElem?_eq_some_iff.mp k1).1
        have le2 : e.2.length ≤ 7 := by
          have := hEnt.len
          omega
        have le1 : e.1.length ≤ 7 := by
          have k3 := len_ln0 hEnt.nz
          have k4 := XM.pile_gl (O := OF F) hEnt.nz
          rw [hEnt.pf, hEnt.gl] at k4
          omega
        obtain ⟨_, zs, ez, hzS, hzV⟩ := id hb2.steps
        cases ez
        refine ⟨o, _, rfl, hoS, rfl, _, _, rfl, _, _, rfl, rfl, ?_⟩
        refine ⟨_, rfl, _, rfl, a, b2, zs, e.2, rfl, tF hF2 st.s, ok, .inr hzS, hzV, ne2, by omega, fun H7 R s7 eR nR => ⟨R, rfl, ⟨_, SqL.of eR⟩, ?_⟩⟩
        have st7 := st.same s7
        obtain ⟨ds6, eD6, _⟩ := id st.hD
        obtain ⟨ts6, eT6, _⟩ := id st.hLt
        have nDR : R ≠ D := (ne_of_none eD6 nR).symm
        have nTR : R ≠ Lt := (ne_of_none eT6 nR).symm
        have lkl : (firstsL F e.2 e.2.length).length ≤ 7 := Nat.le_trans firsts_len le2
        refine for_it (walk_list (xs := (firstsL F e.2 e.2.length).map fun k => V.int (k : Nat))) (fun n σ H' => ∃ (fl2 : List Rw) (lt2 : List (Rw × Rw)) (y8 y9 : Option V), σ = [some (.ref a), some (.ref p), some (.ref r), some (.ref D), some (.ref Ly), some (.ref Lt), some (.ref b1), some (.ref b2), y8, y9] ∧ LoSt K H2 H' D Ly Lt ls ly fl2 lt2 ∧ H' R = some (.lst ((firstsL F e.2 e.2.length).map fun k => V.int (k : Nat))) ∧ Dp K H' (.ref b1) (dSteps e.1) ∧ Dp K H' (.ref b2) (dSteps e.2) ∧ XM.LM (OF F) U j fl fl2 lt2 ∧ LS F fl2 lt2 ∧ (∀ f ∈ fl', f ∈ fl2) ∧ (∀ k ∈ (firstsL F e.2 e.2.length).take n, ∀ u, XM.AtF (OF F) e.2 k u → XM.pile (OF F) (e.1 ++ [u]) ∈ fl2) ∧ fl2.length ≤ fl.length + 7 * i + n ∧ lt2.length ≤ 7 * i + n)
          ⟨fl', lt, y8, y9, rfl, st7, eR, tS hb1 s7, tS hb2 s7, hLM, hLS', (fun _ h => h), (fun _ h => nomatch h), lf', lt'⟩ (fun _ _ _ _ ⟨_, _, _, _, _, _, eR', _⟩ => SqL.of eR') (fun n x σ H8o H8 hn ⟨fl2, lt2, y8, y9, eσ, st8, eR8, hb1, hb2, hLM2, hLS2, hsub, hdn2, lf2, lt2l⟩ hy => ?_) (fun σ H8 ⟨fl2, lt2, y8, y9, eσ, st8, eR8, hb1, hb2, hLM2, hLS2, hsub, hdn2, lf2, lt2l⟩ => ?_)
        · obtain ⟨rfl, hx⟩ := hy
          subst eσ
          rw [List.getElem?_map] at hx
          obtain ⟨k, kk, rfl⟩ := Option.map_eq_some_iff.mp hx
          have mk := List.mem_of_getElem? kk
          obtain ⟨u, hu1, hat⟩ := atf_of mk
          have hkl : k < e.2.length := (List.getElem?_eq_some_iff.mp hu1).1
          have hnl : n < 7 := by
            rw [List.length_map] at hn
            omega
          obtain ⟨_, zs8, ez, hzS8, hzV8⟩ := id hb2.steps
          cases ez
          obtain ⟨bu, hbu, cbu⟩ := hzV8.step hu1
          have mu := ne2 u (List.mem_of_getElem? hu1)
          have uu : u.2 ≠ 0 := (hEnt.ur u (List.mem_of_getElem? hu1)).ne
          refine ⟨_, rfl, _, rfl, _, rfl, _, rfl, _, _, _, _, rfl, rfl, hzS8, at_of (j := k) rfl hbu, one_sz, fun T9 n9 => upd_gen n9 fun H9 s9 e9 => ?_⟩
          refine catD (m := [u]) (tS hb1 s9) (.tup (SqT.of e9) (.cons (Dp.of_step (s := u) ((Tk.of s9).sqT cbu)) .nil)) (by rw [List.length_singleton]; omega) fun H10 p10 s10 h10 => ?_
          obtain ⟨_, ws, ew, hwS, hwV⟩ := id h10.steps
          cases ew
          have s810 := s9.trans s10
          have nN : Names F (e.1 ++ [u]) := Names.app ne1 fun z hz => by rw [List.mem_singleton.mp hz]; exact mu
          have zN : XM.NZ (e.1 ++ [u]) := hEnt.nz.app (XM.nz1 uu)
          refine ⟨a, p10, ws, e.1 ++ [u], rfl, tF hF2 (st8.s.trans s810), ok, .inr hwS, hwV, nN, zN, by rw [List.length_append, List.length_singleton]; omega, fun H11 fr s11 hfr => ?_⟩
          have hfr : Dp K H11 (.ref fr) (dSteps (XM.pile (OF F) (e.1 ++ [u]))) := hfr
          have s811 := s810.trans s11
          have st11 := st8.same s811
          have nP : Names F (XM.pile (OF F) (e.1 ++ [u])) := names_pile nN
          obtain ⟨ds, eD, hDv⟩ := id st11.hD
          have lds := hDv.len
          rw [List.length_map] at lds
          have hb2' := tS hb2 s811
          refine ⟨_, rfl, _, rfl, _, _, hfr, .lst (SqL.of eD) hDv, sh_dsteps (fun s hs => ok.sgn _ (nP s hs)), sh_rws ok hLS2.f, ?_⟩
          rw [any_rws]
          have next : ∀ {fl3 : List Rw}, (∀ f ∈ fl2, f ∈ fl3) → XM.pile (OF F) (e.1 ++ [u]) ∈ fl3 → ∀ k ∈ (firstsL F e.2 e.2.length).take (n + 1), ∀ u, XM.AtF (OF F) e.2 k u → XM.pile (OF F) (e.1 ++ [u]) ∈ fl3 := fun hs hm k' hk' u' hu' => by
            rw [take_snoc kk] at hk'
            rcases List.mem_append.mp hk' with h | h
            · exact hs _ (hdn2 k' h u' hu')
            · rw [List.mem_singleton.mp h] at hu'
              have := (atf_mem hu').2
              rw [hu1] at this
              cases this
              exact hm
          refine ⟨_, rfl, ite2 (fun h => ?_) (fun h => ?_)⟩
          · have h : XM.pile (OF F) (e.1 ++ [u]) ∉ fl2 := fun z => by
              rw [decide_eq_true z] at h
              cases h
            refine ⟨_, rfl, Or.inl ⟨rfl, _, SqL.of eD⟩, _, rfl, D, _, _, rfl, rfl, eD, Nat.lt_of_le_of_lt (show ds.length ≤ 16000000 by omega) (by decide), ?_⟩
            have st12 := st11.putD eD hDv hfr nDLy nDLt nD2
            have tP : Tk H11 (upd H11 D (.lst (ds ++ [.ref fr]))) := Tk.refl.lst eD
            have eR12 : upd H11 D (.lst (ds ++ [.ref fr])) R = some (.lst ((firstsL F e.2 e.2.length).map fun k => V.int (k : Nat))) := by
              rw [upd_ne nDR]
              exact s811 _ _ eR8
            have hb1' := Dp.tk tP _ (flat_steps _) (tS hb1 s811)
            have hb2'' := Dp.tk tP _ (flat_steps _) hb2'
            have hfr' := Dp.tk tP _ (flat_steps _) hfr
            generalize upd H11 D (.lst (ds ++ [.ref fr])) = H12 at st12 eR12 hb1' hb2'' hfr' ⊢
            obtain ⟨ts, eT, hTv⟩ := id st12.hLt
            have lts := hTv.len
            rw [List.length_map] at lts
            refine ⟨_, rfl, Or.inl ⟨rfl, _, SqL.of eT⟩, _, rfl, _, rfl, ?_⟩
            refine noPart ?_
            refine ⟨_, rfl, (k : Int), rfl, slTo (k := k) hb2'' fun H13 p13 s13 h13 => ?_⟩
            refine ⟨_, rfl, _, rfl, _, _, rfl, rfl, ((k + 1 : Nat) : Int), rfl, ?_⟩
            refine noPart ?_
            refine slFrom (k := k + 1) (tS hb2'' s13) fun H14 p14 s14 h14 => ?_
            refine catD (tS h13 s14) h14 (by rw [List.length_take, List.length_drop]; omega) fun H15 p15 s15 h15 => ⟨two_sz, fun T16 n16 => upd_gen n16 fun H16 s16 e16 => ?_⟩
            have s1216 := (s13.trans s14).trans (s15.trans s16)
            have hx : Dp K H16 (.ref T16) (dEnt (XM.pile (OF F) (e.1 ++ [u]), e.2.take k ++ e.2.drop (k + 1))) := .tup (SqT.of e16) (.cons (tS hfr' s1216) (.cons (tS h15 s16) .nil))
            have eT16 := s1216 _ _ eT
            have st16 := st12.same s1216
            refine ⟨Lt, _, _, rfl, rfl, eT16, Nat.lt_of_le_of_lt (show ts.length ≤ 16000000 by omega) (by decide), ?_⟩
            have st17 := st16.putL eT16 (DpAll.sm s1216 _ hTv) hx nLtLy nDLt nLt2
            have tQ : Tk H16 (upd H16 Lt (.lst (ts ++ [.ref T16]))) := Tk.refl.lst eT16
            refine ⟨_, _, _, _, rfl, st17, by rw [upd_ne nTR]; exact s1216 _ _ eR12, Dp.tk tQ _ (flat_steps _) (tS hb1' s1216), Dp.tk tQ _ (flat_steps _) (tS hb2'' s1216), XM.LM.put uU rU hLM2 hEnt hat h, ⟨fun f hf => ?_, fun z hz => ?_⟩, fun f hf => List.mem_append_left _ (hsub f hf), next (fun f hf => List.mem_append_left _ hf) (List.mem_append_right _ (List.mem_singleton.mpr rfl)), by rw [List.length_append, List.length_singleton]; omega, by rw [List.length_append, List.length_singleton]; omega⟩
            · rcases List.mem_append.mp hf with h | h
              · exact hLS2.f f h
              · rw [List.mem_singleton.mp h]
                exact nP
            · rcases List.mem_append.mp hz with h | h
              · exact hLS2.e z h
              · rw [List.mem_singleton.mp h]
                exact ⟨nP, Names.app (fun s hs => ne2 s (List.mem_of_mem_take hs)) fun s hs => ne2 s (List.mem_of_mem_drop hs)⟩
          · have h : XM.pile (OF F) (e.1 ++ [u]) ∈ fl2 := Classical.byContradiction fun z => h (by
              rw [decide_eq_false z]
              rfl)
            exact ⟨fl2, lt2, _, _, rfl, st11, s811 _ _ eR8, tS hb1 s811, hb2', hLM2, hLS2, hsub, next (fun _ h => h) h, by omega, by omega⟩
        · subst eσ
          rw [List.length_map, List.take_length] at hdn2
          rw [List.length_map] at lf2 lt2l
          refine ⟨fl2, lt2, _, _, _, _, rfl, st8, hLM2, hLS2, fun e' he' k u hu' => ?_, by omega, by omega⟩
          rw [take_snoc k1] at he'
          rcases List.mem_append.mp he' with h | h
          · exact hsub _ (hdn e' h k u hu')
          · rw [List.mem_singleton.mp h] at hu' ⊢
            exact hdn2 k (atf_mem hu').1 u hu'
      · subst eσ
        rw [lls] at hdn lf' lt'
        rw [List.take_length] at hdn
        refine ⟨_, rfl, Lt, fl', lt, _, _, _, _, rfl, st.s, st.hD, st.hLt, nDLt, XM.LM.close uU rU hLB hLM hdn, hLS', by omega, by omega⟩
end
end XB
set_option Elab.async false
set_option linter.all false
set_option maxRecDepth 100000
set_option maxHeartbeats 8000000
namespace XB
open PySem PySem.Spec PyProof.Rows L2
def medB (F : Fld) (x y z m : Rw) : Bool := decide (XM.far (OF F) x m + XM.far (OF F) m y = XM.far (OF F) x y) && (decide (XM.far (OF F) x m + XM.far (OF F) m z = XM.far (OF F) x z) && decide (XM.far (OF F) y m + XM.far (OF F) m z = XM.far (OF F) y z))
theorem medB_iff {F : Fld} {x y z m : Rw} : medB F x y z m = true ↔ XM.Med (OF F) x y z m := by
  unfold medB
  rw [Bool.and_eq_true, Bool.and_eq_true, decide_eq_true_eq, decide_eq_true_eq, decide_eq_true_eq]
  exact ⟨fun ⟨a, b, c⟩ => ⟨a, b, c⟩, fun ⟨a, b, c⟩ => ⟨a, b, c⟩⟩
theorem medB_of {F : Fld} {x y z m : Rw} {b : Bool} (h : b = true ↔ XM.Med (OF F) x y z m) : b = medB F x y z m := by
  rw [Bool.eq_iff_iff, h, medB_iff]
theorem filter_one {α : Type} {q : α → Bool} {a : α} : ∀ {l : List α}, l.Nodup → a ∈ l → (∀ b ∈ l, q b = true ↔ b = a) → l.filter q = [a]
  | [], _, h, _ => nomatch h
  | b :: l, nd, h, hq => by
    obtain ⟨n1, n2⟩ := List.nodup_cons.mp nd
    by_cases e : b = a
    · subst e
      have hb : q b = true := (hq b List.mem_cons_self).mpr rfl
      rw [List.filter_cons, if_pos hb]
      congr 1
      refine List.filter_eq_nil_iff.mpr fun c hc hqc => ?_
      have := (hq c (List.mem_cons_of_mem _ hc)).mp hqc
      rw [this] at hc
      exact n1 hc
    · have hb : ¬ q b = true := fun k => e ((hq b List.mem_cons_self).mp k)
      rw [List.filter_cons, if_neg hb]
      exact filter_one n2 ((List.mem_cons.mp h).resolve_left fun k => e k.symm) fun c hc => hq c (List.mem_cons_of_mem _ hc)
/-- just one of all that lie between the first two lies between each two -/
theorem due_one {F : Fld} {x y z m : Rw} {fl : List Rw} (zx : XM.NZ x) (zy : XM.NZ y) (zz : XM.NZ z) (zm : XM.NZ m) (hm : XM.Med (OF F) x y z m) (nd : fl.Nodup) (hf : ∀ f ∈ fl, XM.NZ f ∧ XM.pile (OF F) f = f ∧ XM.Low (OF F) f (XM.back x ++ y)) (full : ∀ c : Rw, XM.NZ c → XM.Low (OF F) c (XM.back x ++ y) → XM.pile (OF F) c ∈ fl) :
    (fl.map fun f => XM.pile (OF F) (x ++ f)).filter (medB F x y z) = [XM.pile (OF F) m] := by
  have zc := (XM.back_nz zx).app zm
  have hc := (XM.med_cm zx zy zz zm).mp hm
  have mem := full _ zc hc.1
  rw [List.filter_map]
  have e0 : ∀ f : Rw, XM.NZ f → XM.act (OF F) f [] = XM.act (OF F) (XM.back x ++ m) [] → XM.act (OF F) (x ++ f) [] = XM.act (OF F) m [] := fun f zf h => by
    rw [XM.eq_app (u := x) (u' := x) zx zf zc rfl h]
    exact XM.act_part zx XM.n00
  have one := filter_one (q := (medB F x y z) ∘ fun f => XM.pile (OF F) (x ++ f)) nd mem fun f hfm => by
    obtain ⟨zf, pf, _⟩ := hf f hfm
    have zxf := zx.app zf
    show medB F x y z (XM.pile (OF F) (x ++ f)) = true ↔ _
    rw [medB_iff]
    constructor
    · intro h
      have e1 := XM.med_uniq zx zy zz (XM.pile_nz zxf) zm h hm
      rw [XM.pile_act zxf XM.n00] at e1
      have e2 : XM.act (OF F) f [] = XM.act (OF F) (XM.back x ++ m) [] := by
        have k : XM.act (OF F) (XM.back x ++ (x ++ f)) [] = XM.act (OF F) f [] := XM.act_part2 zx XM.n00
        rw [← k]
        exact XM.eq_app (XM.back_nz zx) zxf zm rfl e1
      rw [← pf, XM.pile_congr e2]
    · intro h
      have e2 : XM.act (OF F) f [] = XM.act (OF F) (XM.back x ++ m) [] := by
        rw [h, XM.pile_act zc XM.n00]
      have e3 := e0 f zf e2
      exact XM.med_congr zx zy zz zm zx zy zz (XM.pile_nz zxf) rfl rfl rfl (by rw [XM.pile_act zxf XM.n00, e3]) hm
  rw [one, List.map_cons, List.map_nil]
  congr 1
  exact XM.pile_congr (e0 _ (XM.pile_nz zc) (XM.pile_act zc XM.n00))
/-- the middle that is told -/
def midL (F : Fld) (x y z : Rw) : Rw := XM.mid (OF F) (XM.pile (OF F) x) (XM.pile (OF F) y) (XM.pile (OF F) z)
theorem midL_med {F : Fld} {x y z : Rw} (zx : XM.NZ x) (zy : XM.NZ y) (zz : XM.NZ z) : XM.NZ (midL F x y z) ∧ XM.pile (OF F) (midL F x y z) = midL F x y z ∧ XM.Med (OF F) x y z (midL F x y z) := by
  have px := XM.pile_nz (O := OF F) zx
  have py := XM.pile_nz (O := OF F) zy
  have pz := XM.pile_nz (O := OF F) zz
  obtain ⟨z1, h1⟩ := XM.mid_med (O := OF F) px py pz
  refine ⟨z1, ?_, XM.med_congr px py pz z1 zx zy zz z1 (XM.pile_act zx XM.n00) (XM.pile_act zy XM.n00) (XM.pile_act zz XM.n00) rfl h1⟩
  have := XM.mid_eq px py pz z1 h1
  exact this.symm
theorem midL_eq {F : Fld} {x y z m : Rw} (zx : XM.NZ x) (zy : XM.NZ y) (zz : XM.NZ z) (zm : XM.NZ m) (h : XM.Med (OF F) x y z m) : midL F x y z = XM.pile (OF F) m := by
  have px := XM.pile_nz (O := OF F) zx
  have py := XM.pile_nz (O := OF F) zy
  have pz := XM.pile_nz (O := OF F) zz
  exact XM.mid_eq px py pz zm (XM.med_congr zx zy zz zm px py pz zm (XM.pile_act zx XM.n00).symm (XM.pile_act zy XM.n00).symm (XM.pile_act zz XM.n00).symm rfl h)
/-- in whatever order -/
theorem midL_213 {F : Fld} {x y z : Rw} (zx : XM.NZ x) (zy : XM.NZ y) (zz : XM.NZ z) : midL F y x z = midL F x y z := by
  obtain ⟨z1, e, h⟩ := midL_med (F := F) zx zy zz
  rw [midL_eq zy zx zz z1 (XM.med_swap zx zy zz z1 h), e]
theorem midL_132 {F : Fld} {x y z : Rw} (zx : XM.NZ x) (zy : XM.NZ y) (zz : XM.NZ z) : midL F x z y = midL F x y z := by
  obtain ⟨z1, e, h⟩ := midL_med (F := F) zx zy zz
  rw [midL_eq zx zz zy z1 (XM.med_last zx zy zz z1 h), e]
theorem midL_same {F : Fld} {x z : Rw} (zx : XM.NZ x) (zz : XM.NZ z) : midL F x x z = XM.pile (OF F) x := midL_eq zx zx zz zx (XM.med_same zx zz)
theorem midL_names {F : Fld} {x y z : Rw} (nx : Names F x) (ny : Names F y) (nz : Names F z) : Names F (midL F x y z) := (mid_bounds (names_pile nx) (names_pile ny) (names_pile nz)).1
theorem midL_len {F : Fld} {x y z : Rw} (nx : Names F x) (ny : Names F y) (nz : Names F z) : (midL F x y z).length ≤ 2 * x.length + y.length := by
  have h := (mid_bounds (names_pile nx) (names_pile ny) (names_pile nz)).2
  have h1 := len_pile (F := F) (l := x)
  have h2 := len_pile (F := F) (l := y)
  have h : (midL F x y z).length ≤ 2 * (XM.pile (OF F) x).length + (XM.pile (OF F) y).length := h
  omega
theorem midL_ln {F : Fld} {x y z : Rw} (zx : XM.NZ x) (zy : XM.NZ y) (zz : XM.NZ z) : XM.ln (midL F x y z) ≤ XM.gl (OF F) x + XM.gl (OF F) (XM.back x ++ y) := by
  obtain ⟨z1, e, h⟩ := midL_med (F := F) zx zy zz
  have h1 := h.xy
  have e1 := XM.pile_ln (O := OF F) (l := midL F x y z)
  rw [e] at e1
  have e2 : XM.act (OF F) (x ++ (XM.back x ++ midL F x y z)) [] = XM.act (OF F) (midL F x y z) [] := XM.act_part zx XM.n00
  have h2 := XM.gl_app (O := OF F) zx ((XM.back_nz zx).app z1)
  rw [XM.gl_congr e2] at h2
  simp only [XM.far_gl] at h1
  omega
theorem abs_ln : ∀ {l : Rw} {s : Str × Int}, s ∈ l → s.2.natAbs ≤ XM.ln l
  | t :: l, s, h => by
    have e : XM.ln (t :: l) = t.2.natAbs + XM.ln l := rfl
    rcases List.mem_cons.mp h with h | h
    · rw [h, e]
      omega
    · have := abs_ln h
      omega
theorem good_names {F : Fld} (ok : F.Ok) {l : Rw} (h : Names F l) : ∀ s ∈ l, GoodName s.1 := fun s hs => ok.sgn _ (h s hs)
theorem sh_st {F : Fld} (ok : F.Ok) {l : Rw} (h : Names F l) : SeqAt.shaped (dSteps l) = true := sh_dsteps (good_names ok h)
def Fh : Fld := ⟨ML.take 3, [("a", "b")]⟩
theorem okh : Fh.Ok := fld_okM (by decide) (by decide) (by decide)
theorem hand_mid : midL Fh [("a", 5), ("c", 1)] [("a", 3), ("b", 2)] [("b", 7), ("a", 9)] = ([("a", 5), ("b", 2)] : List (Str × Int)) := by decide +kernel
end XB
set_option Elab.async false
set_option linter.all false
set_option maxRecDepth 100000
set_option maxHeartbeats 8000000
namespace XB
open PySem PySem.Spec PyProof.Rows L2
def goodH (l : Rw) : Bool := decide (l.length ≤ 60) && l.all fun s => Fh.names.contains s.1 && decide (s.2 ≠ 0) && decide (-(10 ^ 30) ≤ s.2) && decide (s.2 ≤ 10 ^ 30)
theorem good_sh {l : Rw} (h : goodH l = true) : GoodScript Fh l := by
  unfold goodH at h
  rw [Bool.and_eq_true, decide_eq_true_eq, List.all_eq_true] at h
  refine ⟨h.1, fun s hs => ?_⟩
  have := h.2 s hs
  simp only [Bool.and_eq_true, decide_eq_true_eq] at this
  exact ⟨List.contains_iff_mem.mp this.1.1.1, this.1.1.2, this.1.2, this.2⟩
theorem gs_of {F : Fld} {l : Rw} (g : GoodAll F l) (h : l.length ≤ 60) : GoodScript F l := ⟨h, g⟩
theorem dstep_ofS {K : PySem.W.Frag} {H H' : Hp} {p : Addr} (s : Str × Int) (e : H p = some (.tup [.str s.1, .int s.2])) (k : Same H H') : Dp K H' (.ref p) (dStep s) := dstep_of s e k
section
variable {P : Program} {w : World} {K : PySem.W.Frag} {mg : Str → Option Value} {base : Heap}
theorem fg_law (T : Tx K mg) {fl : Addr} {fd : FuncData} (FL : Fun K "law" "law" s_law fl fd) : FnG P w K mg base CX0 8 fl fd ["script"] (spLaw K) := by
  refine fg0 FL sc_law (fun vs H Q E h => sp_law_len h) (fun fa cdv A outer st H vs Q E hgu hr h => ?_)
  · obtain ⟨a, ns, rfl, hS, hl, q⟩ := h
    have nd := sc_law.nd
    have hu : (A.deeper (envOfC "law" (defScope s_law) st.heap.objs.size fa cdv)).units + 70 < cLine := by
      have := hr.un
      omega
    have hu64 : (A.deeper (envOfC "law" (defScope s_law) st.heap.objs.size fa cdv)).units + 64 < cLine := by omega
    refine ⟨_, (pss_cons (ps_set (i := 1) nd rfl (.inr rfl) (pe_k (c_begun T) hr (by decide) (by rfl) (pa_cons (pv 0) pa_nil)))
    (pss_cons (ps_for PassesOwn.never rfl (pi_range1 (by rfl) T.b_range (pa_cons (pe_op op_add pe_int (pe_callB (call_min2 rfl) (by rfl) T.b_min (by decide +kernel) (pa_cons pe_int (pa_cons (pe_lenS (by rfl) T.b_len (pv 0)) pa_nil)))) pa_nil)) (pg_name (i := 2) nd rfl (.inl rfl))
    (pss_cons (ps_set (i := 3) nd rfl (.inr rfl) (pe_k (c__law_field3 T) hr (by decide) (by rfl) (pa_cons (pv 1) (pa_cons pe_int pa_nil))))
    (pss_cons (ps_asg (pe_lc (own := [("k", 12)]) (g := (gName 12)) (tt := tYes) (by rfl) nd (pi_range1 (by rfl) T.b_range (pa_cons pe_int pa_nil)) (blkOk_by (own := [("k", 12)]) (N := ["script", "m", "turn", "field", "one", "two", "three", "rest", "some", "due", "told_so", "part", "k"]) (sc := defScope s_law) (by decide +kernel)) (fun _ _ _ _ _ => (pg_name (i := 12) nd rfl (by first | exact Or.inl rfl | exact Or.inr rfl))) (fun _ _ _ _ _ => pts_nil) (fun _ _ _ _ _ => (pe_k (c__law_small T) hr (by decide) (by rfl) (pa_cons (pv 1) (pa_cons (pv 3) pa_nil))))) (pg_unl rfl (pgs_cons (pg_name (i := 4) nd rfl (.inr rfl)) (pgs_cons (pg_name (i := 5) nd rfl (.inr rfl)) (pgs_cons (pg_name (i := 6) nd rfl (.inr rfl)) pgs_nil)))))
    (pss_cons (ps_set (i := 7) nd rfl (.inl rfl) (pe_op (op_catAk (K := K) rfl) (pe_k (c__law_back3 T) hr (by decide) (by rfl) (pa_cons (pv 4) pa_nil)) (pv 5)))
    (pss_cons (ps_while PassesOwn.never (pt_cmpR op_gt (pe_gF (fun F => (c__law_length3 T F).toG) hgu hr (by decide) (by rfl) (pa_cons (pv 3) (pa_cons (pv 7) pa_nil))) pe_int (nomark _))
    (pss_cons (ps_set (i := 5) nd rfl (.inr rfl) (pe_slice sl_tupA (pv 5) (po_some pe_int) po_none))
    (pss_one (ps_set (i := 7) nd rfl (.inl rfl) (pe_op (op_catAk (K := K) rfl) (pe_k (c__law_back3 T) hr (by decide) (by rfl) (pa_cons (pv 4) pa_nil)) (pv 5))))))
    (pss_cons (ps_setLc (i := 8) (own := [("part", 11)]) (g := (gName 11)) (tt := tYes) rfl nd rfl rfl (sw_true rfl rfl rfl (by decide +kernel)) (pi_list (pe_gF (fun F => (c__law_lowers T F).toG) hgu hr (by decide) (by rfl) (pa_cons (pv 3) (pa_cons (pv 7) pa_nil)))) (blkOk_by (own := [("part", 11)]) (N := ["script", "m", "turn", "field", "one", "two", "three", "rest", "some", "due", "told_so", "part", "k"]) (sc := defScope s_law) (by decide +kernel)) (fun _ _ _ _ _ => (pg_name (i := 11) nd rfl (by first | exact Or.inl rfl | exact Or.inr rfl))) (fun _ _ _ _ _ => pts_nil) (fun _ _ _ _ _ => (pe_gF (fun F => (c__law_least3 T F).toG) hgu hr (by decide) (by rfl) (pa_cons (pv 3) (pa_cons (pe_op (op_catAk (K := K) rfl) (pv 4) (pv 11)) pa_nil)))))
    (pss_cons (ps_setLc (i := 9) (own := [("part", 11)]) (g := (gName 11)) (tt := _) rfl nd rfl rfl (sw_true rfl rfl rfl (by decide +kernel)) (pi_list (pv 8)) (blkOk_by (own := [("part", 11)]) (N := ["script", "m", "turn", "field", "one", "two", "three", "rest", "some", "due", "told_so", "part", "k"]) (sc := defScope s_law) (by decide +kernel)) (fun _ _ _ _ _ => (pg_name (i := 11) nd rfl (by first | exact Or.inl rfl | exact Or.inr rfl))) (fun _ _ _ _ _ => pts_one (pt_val (pe_gF (fun F => (c__law_lies T F).toG) hgu hr (by decide) (by rfl) (pa_cons (pv 3) (pa_cons (pv 4) (pa_cons (pv 5) (pa_cons (pv 6) (pa_cons (pv 11) pa_nil)))))))) (fun _ _ _ _ _ => (pv 11)))
    (pss_cons (ps_set (i := 10) nd rfl (.inl rfl) (pe_lst (pa_cons (pe_gF (fun F => (c_middle_of T F).toG) hgu hr (by decide) (by rfl) (pa_cons (pv 3) (pa_cons (pv 4) (pa_cons (pv 5) (pa_cons (pv 6) pa_nil))))) (pa_cons (pe_gF (fun F => (c_middle_of T F).toG) hgu hr (by decide) (by rfl) (pa_cons (pv 3) (pa_cons (pv 6) (pa_cons (pv 4) (pa_cons (pv 5) pa_nil))))) pa_nil))))
    (pss_cons (ps_expr (pe_bm PySem.F.plainAttrs_list PySem.F.slot_list_append PySem.F.type_list_append mt_append (pv 10) (pa_cons (pe_gF (fun F => (c_middle_of T F).toG) hgu hr (by decide) (by rfl) (pa_cons (pv 3) (pa_cons (pv 5) (pa_cons (pv 4) (pa_cons (pv 6) pa_nil))))) pa_nil)))
    (pss_cons (ps_if (PW.pt (pw_or (pt_not (pt_val (pe_g (g__law_like T) hgu hr (by decide) (by rfl) (pa_cons (pv 10) (pa_cons (pe_op op_rep (pv 9) pe_int) pa_nil))))) (pw_or1 (pt_cmpR op_ne (pe_lenS (by rfl) T.b_len (pv 9)) pe_int (nomark _))))) pss_never pss_nil)
    (pss_cons (ps_if (pt_cmpR (op_neD hu64) (pe_gF (fun F => (c_middle_of T F).toG) hgu hr (by decide) (by rfl) (pa_cons (pv 3) (pa_cons (pv 4) (pa_cons (pv 4) (pa_cons (pv 5) pa_nil))))) (pe_gF (fun F => (c__law_least3 T F).toG) hgu hr (by decide) (by rfl) (pa_cons (pv 3) (pa_cons (pv 4) pa_nil))) (nomark _)) pss_never pss_nil)
    (pss_cons (ps_asg (pe_lc (own := [("k", 12)]) (g := (gName 12)) (tt := tYes) (by rfl) nd (pi_range1 (by rfl) T.b_range (pa_cons pe_int pa_nil)) (blkOk_by (own := [("k", 12)]) (N := ["script", "m", "turn", "field", "one", "two", "three", "rest", "some", "due", "told_so", "part", "k"]) (sc := defScope s_law) (by decide +kernel)) (fun _ _ _ _ _ => (pg_name (i := 12) nd rfl (by first | exact Or.inl rfl | exact Or.inr rfl))) (fun _ _ _ _ _ => pts_nil) (fun _ _ _ _ _ => (pe_k (c__law_steps T) hr (by decide) (by rfl) (pa_cons (pv 1) (pa_cons (pv 3) (pa_cons pe_int (pa_cons pe_bl pa_nil))))))) (pg_unl rfl (pgs_cons (pg_name (i := 4) nd rfl (.inr rfl)) (pgs_cons (pg_name (i := 5) nd rfl (.inr rfl)) (pgs_cons (pg_name (i := 6) nd rfl (.inr rfl)) pgs_nil)))))
    (pss_cons (ps_set (i := 11) nd rfl (.inl rfl) (pe_gF (fun F => (c_middle_of T F).toG) hgu hr (by decide) (by rfl) (pa_cons (pv 3) (pa_cons (pv 4) (pa_cons (pv 5) (pa_cons (pv 6) pa_nil))))))
    (pss_cons (ps_if (PW.pt (pw_or (pt_not (pt_val (pe_gF (fun F => (c__law_lies T F).toG) hgu hr (by decide) (by rfl) (pa_cons (pv 3) (pa_cons (pv 4) (pa_cons (pv 5) (pa_cons (pv 6) (pa_cons (pv 11) pa_nil)))))))) (pw_or1 (pt_cmpR (op_neD hu64) (pv 11) (pe_gF (fun F => (c__law_least3 T F).toG) hgu hr (by decide) (by rfl) (pa_cons (pv 3) (pa_cons (pv 11) pa_nil))) (nomark _))))) pss_never pss_nil)
    (pss_one (ps_if (pt_cmpR (op_neD hu64) (pe_gF (fun F => (c_middle_of T F).toG) hgu hr (by decide) (by rfl) (pa_cons (pv 3) (pa_cons (pv 6) (pa_cons (pv 5) (pa_cons (pv 4) pa_nil))))) (pv 11) (nomark _)) pss_never pss_nil))))))))))))))))
    (pss_cons (ps_set (i := 3) nd rfl (.inr rfl) (pe_tup (pa_cons (pe_tup (pa_cons pe_str (pa_cons pe_str (pa_cons pe_str pa_nil)))) (pa_cons (pe_tup (pa_cons (pe_tup (pa_cons pe_str (pa_cons pe_str pa_nil))) pa_nil)) pa_nil))))
    (pss_one (ps_ret (pe_cmpR (op_eqD hu64) (pe_gF (fun F => (c_middle_of T F).toG) hgu hr (by decide) (by rfl) (pa_cons (pv 3) (pa_cons (pe_tup (pa_cons (pe_tup (pa_cons pe_str (pa_cons pe_int pa_nil))) (pa_cons (pe_tup (pa_cons pe_str (pa_cons pe_int pa_nil))) pa_nil))) (pa_cons (pe_tup (pa_cons (pe_tup (pa_cons pe_str (pa_cons pe_int pa_nil))) (pa_cons (pe_tup (pa_cons pe_str (pa_cons pe_int pa_nil))) pa_nil))) (pa_cons (pe_tup (pa_cons (pe_tup (pa_cons pe_str (pa_cons pe_int pa_nil))) (pa_cons (pe_tup (pa_cons pe_str (pa_cons pe_int pa_nil))) pa_nil))) pa_nil))))) (pe_tup (pa_cons (pe_tup (pa_cons pe_str (pa_cons pe_int pa_nil))) (pa_cons (pe_tup (pa_cons pe_str (pa_cons pe_int pa_nil))) pa_nil))) (nomark _))))))), ?_⟩
    refine ⟨_, rfl, a, ns, rfl, hS, hl, fun H1 m c g s1 _ _ _ R1 => ?_⟩
    have lns : (ns.map V.int).length = ns.length := List.length_map ..
    refine ⟨_, rfl, a, _, rfl, .inl (s1.seq hS), 4, _, rfl, 2, _, rfl, rfl, _, rfl, by split <;> omega, by split <;> omega, ?_⟩
    have hcnt : (2 + (if ((ns.map V.int).length : Int) < 4 then ((ns.map V.int).length : Int) else 4)).toNat ≤ 6 := by split <;> omega
    refine for_range (lo := 0) (n := _) (fun i σ H2 => ∃ (y2 y3 y4 y5 y6 y7 y8 y9 y10 y11 y12 : Option V) (s2 : Int), σ = [some (.ref a), some (.ref m), y2, y3, y4, y5, y6, y7, y8, y9, y10, y11, y12] ∧ Dr H2 m c g s2 ∧ s2 ≤ 200 * (i : Int))
      ⟨_, _, _, _, _, _, _, _, _, _, _, 0, rfl, R1, by omega⟩ (fun i σ H2 hi ⟨y2, y3, y4, y5, y6, y7, y8, y9, y10, y11, y12, s2, eσ, R2, hs2⟩ => ?_) (fun σ H2 ⟨y2, y3, y4, y5, y6, y7, y8, y9, y10, y11, y12, s2, eσ, R2, hs2⟩ => ?_)
    · subst eσ
      refine ⟨_, rfl, m, c, g, s2, 4, rfl, R2, by decide, by decide, by omega, fun H3 f F s3 R3 hs3 k3 hF3 ok => ?_⟩
      refine ⟨3, rfl, by decide, by decide, fun D hD => ?_⟩
      have nD := R3.nm hD
      refine lc_range (lo := 0) (n := 3) (fun j H' => ∃ (rs : List V) (ls : List Rw) (s' : Int), H' D = some (.lst rs) ∧ DpAll K H' rs (ls.map dSteps) ∧ (∀ l ∈ ls, GoodAll F l ∧ l.length ≤ 5 ∧ XM.gl (OF F) l ≤ 5) ∧ ls.length = j ∧ Dr H' m c g s' ∧ s' ≤ s3 + 21 * (j : Int) ∧ Tk H3 H')
        ⟨[], [], s3, upd_same, .nil, (fun _ h => nomatch h), rfl, R3.same (same_upd hD), by omega, Tk.of (same_upd hD)⟩ (fun j H4 hj ⟨rs, ls, s4, eD, hR, hg, hlj, R4, hs4, t4⟩ => ?_) (fun H4 ⟨rs, ls, s4, eD, hR, hg, hlj, R4, hs4, t4⟩ => ?_)
      · have lrs := hR.len
        rw [List.length_map] at lrs
        refine ⟨rfl, yes_ ⟨_, rfl, _, rfl, m, c, g, f, s4, F, rfl, R4, Dp.tk t4 _ (flat_field F) hF3, ok, by omega, fun H5 r l s5 R5 hs5 k5 hL gL hl5 hg5 => ?_⟩⟩
        have eD5 := k5 _ _ nD.1 nD.2.2 eD
        have t5 := R4.tk k5
        have tP : Tk H5 (upd H5 D (.lst (rs ++ [.ref r]))) := Tk.refl.lst eD5
        refine ⟨rs, eD5, small1000 (by omega), rs ++ [.ref r], ls ++ [l], s5, upd_same, ?_, fun z hz => ?_, by rw [List.length_append, hlj]; rfl, R5.put nD, by omega, (t4.trans t5).trans tP⟩
        · rw [List.map_append]
          exact (DpAll.tk (t5.trans tP) _ (flat_rws ls) hR).app (.cons (Dp.tk tP _ (flat_steps l) hL) .nil)
        · rcases List.mem_append.mp hz with h | h
          · exact hg z h
          · rw [List.mem_singleton.mp h]
            exact ⟨gL, hl5, hg5⟩
      · obtain ⟨x, y0, z, rfl⟩ : ∃ l1 l2 l3, ls = [l1, l2, l3] := by
          match ls, hlj with
          | [x, y, z], _ => exact ⟨x, y, z, rfl⟩
        obtain ⟨r1, r2, r3, rfl, h1, h2, h3⟩ : ∃ r1 r2 r3 : Addr, rs = [.ref r1, .ref r2, .ref r3] ∧ Dp K H4 (.ref r1) (dSteps x) ∧ Dp K H4 (.ref r2) (dSteps y0) ∧ Dp K H4 (.ref r3) (dSteps z) := by
          cases hR with
          | cons d1 hR =>
          cases hR with
          | cons d2 hR =>
          cases hR with
          | cons d3 hR =>
          cases hR
          obtain ⟨_, _, e1, _⟩ := id d1.steps
          obtain ⟨_, _, e2, _⟩ := id d2.steps
          obtain ⟨_, _, e3, _⟩ := id d3.steps
          subst e1 e2 e3
          exact ⟨_, _, _, rfl, d1, d2, d3⟩
        obtain ⟨gx, lx, ux⟩ := hg x (by simp)
        obtain ⟨gy0, ly0, _⟩ := hg y0 (by simp)
        obtain ⟨gz, lz, _⟩ := hg z (by simp)
        have hF4 := Dp.tk t4 _ (flat_field F) hF3
        clear hg hR hF3
        refine ⟨D, _, rfl, SqL.of eD, rfl, _, _, rfl, _, _, rfl, _, _, rfl, rfl, ?_⟩
        refine ⟨_, rfl, r1, x, rfl, h1, by omega, fun H5 b5 s5 h5 => ⟨_, rfl, catD h5 (tS h2 s5) (by rw [len_back]; omega) fun H6 p6 s6 h6 => ?_⟩⟩
        refine ⟨fun mm σ H' => ∃ (q2 p : Addr) (y : Rw) (w2 w8 w9 w10 w11 w12 : Option V), mm = y.length ∧ σ = [some (.ref a), some (.ref m), w2, some (.ref f), some (.ref r1), some (.ref q2), some (.ref r3), some (.ref p), w8, w9, w10, w11, w12] ∧ Same H4 H' ∧ Dp K H' (.ref q2) (dSteps y) ∧ Dp K H' (.ref p) (dSteps (XM.back x ++ y)) ∧ GoodAll F y ∧ y.length ≤ 5, ⟨y0.length, r2, p6, y0, _, _, _, _, _, _, rfl, rfl, s5.trans s6, tS h2 (s5.trans s6), h6, gy0, ly0⟩, ?_⟩
        rintro mm σ H7 ⟨q2, p, y, w2, w8, w9, w10, w11, w12, rfl, rfl, s7, hy7, hp7, gy, ly⟩
        have nrest : Names F (XM.back x ++ y) := Names.app (names_back gx.names) gy.names
        have zrest : XM.NZ (XM.back x ++ y) := (XM.back_nz gx.nz).app gy.nz
        have lrest : (XM.back x ++ y).length ≤ 10 := by rw [List.length_append, len_back]; omega
        obtain ⟨_, ps, ep, hpS, hpV⟩ := id hp7.steps
        cases ep
        refine ⟨_, rfl, _, rfl, F, f, p, ps, _, rfl, tF hF4 s7, ok, .inr hpS, hpV, nrest, zrest, by omega, fun H8 s8 => ⟨_, _, rfl, rfl, _, rfl, ite2 (fun h => ?_) (fun h => ?_)⟩⟩
        · have h : (7 : Int) < (XM.gl (OF F) (XM.back x ++ y) : Nat) := of_decide_eq_true h
          have y1 : y.length ≠ 0 := fun e => by
            rw [List.length_eq_zero_iff.mp e, List.append_nil, XM.gl_back gx.nz] at h
            omega
          refine ⟨fun σ H' => ∃ (q2 p : Addr), σ = [some (.ref a), some (.ref m), w2, some (.ref f), some (.ref r1), some (.ref q2), some (.ref r3), some (.ref p), w8, w9, w10, w11, w12] ∧ Same H4 H' ∧ Dp K H' (.ref q2) (dSteps (y.drop 1)) ∧ Dp K H' (.ref p) (dSteps (XM.back x ++ y.drop 1)), ?_, ?_⟩
          · rintro σ' H' ⟨q3, p3, rfl, s9, h9, h10⟩
            exact ⟨(y.drop 1).length, by rw [List.length_drop]; omega, q3, p3, y.drop 1, _, _, _, _, _, _, rfl, rfl, s9, h9, h10, gy.drop 1, by rw [List.length_drop]; omega⟩
          · refine ⟨_, rfl, ((1 : Nat) : Int), rfl, noPart (slFrom (k := 1) (tS hy7 s8) fun H9 q9 s9 h9 => ?_)⟩
            have s49 := s7.trans (s8.trans s9)
            refine ⟨_, rfl, r1, x, rfl, tS h1 s49, by omega, fun H10 b10 s10 h10 => ⟨_, rfl, catD h10 (tS h9 s10) (by rw [len_back, List.length_drop]; omega) fun H11 p11 s11 h11 => ?_⟩⟩
            exact ⟨q9, p11, rfl, s49.trans (s10.trans s11), tS h9 (s10.trans s11), h11⟩
        · have g7 : XM.gl (OF F) (XM.back x ++ y) ≤ 7 := by
            have : ¬ (7 : Int) < (XM.gl (OF F) (XM.back x ++ y) : Nat) := fun k => h (decide_eq_true k)
            omega
          have s48 := s7.trans s8
          have zx := gx.nz
          have zy := gy.nz
          have zz := gz.nz
          have nx := gx.names
          have ny := gy.names
          have nz := gz.names
          obtain ⟨zM, pM, hM⟩ := midL_med (F := F) zx zy zz
          have nM := midL_names nx ny nz
          have lM := midL_len nx ny nz
          have uM := midL_ln (F := F) zx zy zz
          have e2 := midL_213 (F := F) zx zy zz
          have e3 : midL F z x y = midL F x y z := by
            rw [midL_213 zx zz zy, midL_132 zx zy zz]
          have e4 : midL F x x y = XM.pile (OF F) x := midL_same zx zy
          generalize eM : midL F x y z = M at zM pM hM nM lM uM e2 e3
          have hy8 := tS hy7 s8
          have hx8 := tS h1 s48
          have hz8 := tS h3 s48
          have hF8 := tF hF4 s48
          have R8 := R4.same s48
          have hp8 := tS hp7 s8
          clear hy7 h1 h2 h3 hp7 h5 h6
          obtain ⟨_, ps8, ep, hpS8, hpV8⟩ := id hp8.steps
          cases ep
          -- all that lie between the first two
          refine ⟨_, rfl, _, rfl, F, f, p, ps8, _, rfl, hF8, ok, hpS8, hpV8, nrest, zrest, by omega, g7, fun H9 R fl s9 hR nf ndf hfl full lfl => ?_⟩
          obtain ⟨vs, eR, hRv⟩ := id hR
          have lvs := hRv.len
          rw [List.length_map] at lvs
          have due := due_one zx zy zz zM hM ndf hfl full
          rw [pM] at due
          refine ⟨R, rfl, ⟨_, SqL.of eR⟩, fun D1 nD1 => ?_⟩
          refine lc_it (walk_list (xs := vs)) (fun j H' => RowG K H' D1 (((fl.take j).map fun f => XM.pile (OF F) (x ++ f)).map dSteps) ∧ Same H9 H') ⟨⟨[], upd_same, .nil⟩, same_upd nD1⟩ (fun _ _ _ ⟨_, s'⟩ => SqL.of (s' _ _ eR)) (fun j v H10o H10 hj ⟨⟨ys, eD1, hY⟩, s10⟩ hy => ?_) (fun H10 ⟨hS, s10⟩ => ?_)
          · obtain ⟨rfl, hx⟩ := hy
            obtain ⟨dd, g1, q1⟩ := hRv.get hx
            rw [List.getElem?_map] at g1
            obtain ⟨f0, k1, rfl⟩ := Option.map_eq_some_iff.mp g1
            have mf := List.mem_of_getElem? k1
            obtain ⟨zf, pf, lf⟩ := hfl f0 mf
            have nf0 := nf f0 mf
            have l7 : f0.length ≤ 7 := by
              have k3 := len_ln0 zf
              have k4 := XM.pile_gl (O := OF F) zf
              rw [pf] at k4
              unfold XM.Low at lf
              omega
            have q1 := Dp.sm s10 _ q1
            obtain ⟨vf, _, evf, _⟩ := id q1.steps
            subst evf
            have lY := hY.len
            rw [List.length_map, List.length_map, List.length_take] at lY
            refine ⟨rfl, yes_ ⟨_, rfl, _, rfl, _, rfl, catD (tS hx8 (s9.trans s10)) q1 (by omega) fun H11 p11 s11 h11 => ?_⟩⟩
            obtain ⟨_, ws, ew, hwS, hwV⟩ := id h11.steps
            cases ew
            refine ⟨F, f, p11, ws, x ++ f0, rfl, tF hF8 (s9.trans (s10.trans s11)), ok, .inr hwS, hwV, Names.app nx nf0, zx.app zf, by rw [List.length_append]; omega, fun H12 r12 s12 h12 => ?_⟩
            have s1012 := s11.trans s12
            have e12 := s1012 _ _ eD1
            have h12 : Dp K H12 (.ref r12) (dSteps (XM.pile (OF F) (x ++ f0))) := h12
            refine ⟨ys, e12, Nat.lt_of_le_of_lt (show ys.length ≤ 12000000 by omega) (by decide), ⟨ys ++ [.ref r12], upd_same, ?_⟩, same_put (s10.trans s1012) nD1⟩
            have tP : Tk H12 (upd H12 D1 (.lst (ys ++ [.ref r12]))) := Tk.refl.lst e12
            rw [take_snoc k1, List.map_append, List.map_append]
            exact (DpAll.tk ((Tk.of s1012).trans tP) _ (flat_rws _) hY).app (.cons (Dp.tk tP _ (flat_steps _) h12) .nil)
          · rw [lvs, List.take_length] at hS
            have hLm : ∀ m0 ∈ (fl.map fun f => XM.pile (OF F) (x ++ f)), Names F m0 ∧ XM.NZ m0 ∧ m0.length ≤ 140 := fun m0 hm0 => by
              obtain ⟨f0, mf, rfl⟩ := List.mem_map.mp hm0
              obtain ⟨zf, pf, lf⟩ := hfl f0 mf
              have l7 : f0.length ≤ 7 := by
                have k3 := len_ln0 zf
                have k4 := XM.pile_gl (O := OF F) zf
                rw [pf] at k4
                unfold XM.Low at lf
                omega
              have l8 := len_pile (F := F) (l := x ++ f0)
              rw [List.length_append] at l8
              exact ⟨names_pile (Names.app nx (nf f0 mf)), XM.pile_nz (zx.app zf), by omega⟩
            have lL : (fl.map fun f => XM.pile (OF F) (x ++ f)).length ≤ 12000000 := by rw [List.length_map]; exact lfl
            generalize (fl.map fun f => XM.pile (OF F) (x ++ f)) = L at hS due hLm lL
            obtain ⟨us, eS, hSv⟩ := hS
            have lus := hSv.len
            rw [List.length_map] at lus
            have s810 := s9.trans s10
            refine ⟨_, rfl, D1, rfl, ⟨_, SqL.of eS⟩, fun D2 nD2 => ?_⟩
            refine lc_it (walk_list (xs := us)) (fun j H' => RowG K H' D2 (((L.take j).filter (medB F x y z)).map dSteps) ∧ Same H10 H') ⟨⟨[], upd_same, .nil⟩, same_upd nD2⟩ (fun _ _ _ ⟨_, s'⟩ => SqL.of (s' _ _ eS)) (fun j v H11o H11 hj ⟨⟨ys, eD2, hY⟩, s11⟩ hy => ?_) (fun H11 ⟨hS2, s11⟩ => ?_)
            · obtain ⟨rfl, hx⟩ := hy
              obtain ⟨dd, g1, q1⟩ := hSv.get hx
              rw [List.getElem?_map] at g1
              obtain ⟨m0, k1, rfl⟩ := Option.map_eq_some_iff.mp g1
              obtain ⟨n0, z0, l0⟩ := hLm m0 (List.mem_of_getElem? k1)
              have q1 := Dp.sm s11 _ q1
              obtain ⟨vf, _, evf, _⟩ := id q1.steps
              subst evf
              have s811 := s810.trans s11
              have lY := hY.len
              rw [List.length_map] at lY
              have lf2 := List.length_filter_le (medB F x y z) (L.take j)
              rw [List.length_take] at lf2
              refine ⟨rfl, _, rfl, _, rfl, _, rfl, _, rfl, _, rfl, F, f, r1, q2, r3, vf, x, y, z, m0, rfl, tF hF8 s811, ok, ⟨tS hx8 s811, nx, zx, by omega⟩, ⟨tS hy8 s811, ny, zy, by omega⟩, ⟨tS hz8 s811, nz, zz, by omega⟩, ⟨q1, n0, z0, l0⟩, fun H12 b s12 hb => ?_⟩
              have hb := medB_of hb
              subst hb
              have eD12 := s12 _ _ eD2
              rw [take_snoc k1, List.filter_append, List.map_append]
              refine ⟨_, rfl, ite2 (fun h => ?_) (fun h => ?_)⟩
              · have h : medB F x y z m0 = true := h
                refine ⟨_, rfl, ys, eD12, Nat.lt_of_le_of_lt (show ys.length ≤ 12000000 by omega) (by decide), ⟨ys ++ [.ref vf], upd_same, ?_⟩, same_put (s11.trans s12) nD2⟩
                have tP : Tk H12 (upd H12 D2 (.lst (ys ++ [.ref vf]))) := Tk.refl.lst eD12
                rw [show [m0].filter (medB F x y z) = [m0] by simp only [List.filter_cons, h, if_true, List.filter_nil]]
                exact (DpAll.tk ((Tk.of s12).trans tP) _ (flat_rws _) hY).app (.cons (Dp.tk tP _ (flat_steps _) (tS q1 s12)) .nil)
              · have h : ¬ medB F x y z m0 = true := h
                rw [show [m0].filter (medB F x y z) = [] by simp only [List.filter_cons, h, List.filter_nil]; rfl, List.map_nil, List.append_nil]
                exact ⟨⟨ys, eD12, DpAll.sm s12 _ hY⟩, s11.trans s12⟩
            · rw [show us.length = L.length by omega, List.take_length, due] at hS2
              have s811 := s810.trans s11
              obtain ⟨dus, eDu, hDu⟩ := hS2
              obtain ⟨dm, rfl, hdm⟩ : ∃ dm : Addr, dus = [.ref dm] ∧ Dp K H11 (.ref dm) (dSteps M) := by
                cases hDu with
                | cons d1 hDu =>
                cases hDu
                obtain ⟨_, _, e1, _⟩ := id d1.steps
                subst e1
                exact ⟨_, rfl, d1⟩
              have gsx := gs_of gx (by omega)
              have gsy := gs_of gy (by omega)
              have gsz := gs_of gz (by omega)
              have fs : ∀ {H' : Hp} {ru rv rw : Addr} {u v w : Rw}, Same H8 H' → Dp K H' (.ref ru) (dSteps u) → GoodScript F u → Dp K H' (.ref rv) (dSteps v) → GoodScript F v → Dp K H' (.ref rw) (dSteps w) → GoodScript F w → FS3 K F u v w [.ref f, .ref ru, .ref rv, .ref rw] H' := fun s hu gu hv gv hw gw => ⟨f, _, _, _, rfl, tF hF8 s, ok, hu, gu, hv, gv, hw, gw⟩
              -- told three times
              refine ⟨_, rfl, _, rfl, _, rfl, _, rfl, F, x, y, z, fs s811 (tS hx8 s811) gsx (tS hy8 s811) gsy (tS hz8 s811) gsz, fun H12 ra s12 ha => ?_⟩
              have ha : Dp K H12 (.ref ra) (dSteps M) := by rw [← eM]; exact ha
              have s812 := s811.trans s12
              refine ⟨_, rfl, _, rfl, _, rfl, _, rfl, F, z, x, y, fs s812 (tS hz8 s812) gsz (tS hx8 s812) gsx (tS hy8 s812) gsy, fun H13 rb s13 hb => ⟨two_sz, fun L1 nL1 => upd_gen nL1 fun H14 s14 e14 => ?_⟩⟩
              have hb : Dp K H13 (.ref rb) (dSteps M) := by rw [← e3]; exact hb
              have s813 := s812.trans s13
              have s814 := s813.trans s14
              refine ⟨_, rfl, Or.inl ⟨rfl, _, SqL.of e14⟩, _, rfl, _, rfl, _, rfl, _, rfl, F, y, x, z, fs s814 (tS hy8 s814) gsy (tS hx8 s814) gsx (tS hz8 s814) gsz, fun H15 rc s15 hc => ⟨L1, _, _, rfl, rfl, s15 _ _ e14, small1000 (show 2 ≤ 1000 by decide), ?_⟩⟩
              have hc : Dp K H15 (.ref rc) (dSteps M) := by rw [← e2]; exact hc
              have e15 := s15 _ _ e14
              have tP : Tk H15 (upd H15 L1 (.lst ([.ref ra, .ref rb] ++ [.ref rc]))) := Tk.refl.lst e15
              have nL8 : H8 L1 = none := Same.back s813 nL1
              have nL13 : H13 L1 = none := nL1
              have s816 : Same H8 (upd H15 L1 (.lst ([.ref ra, .ref rb] ++ [.ref rc]))) := same_put (s814.trans s15) nL8
              have e16 : upd H15 L1 (.lst ([.ref ra, .ref rb] ++ [.ref rc])) L1 = some (.lst [.ref ra, .ref rb, .ref rc]) := upd_same
              have ha16 := Dp.tk tP _ (flat_steps M) (tS ha (s13.trans (s14.trans s15)))
              have hb16 := Dp.tk tP _ (flat_steps M) (tS hb (s14.trans s15))
              have hc16 := Dp.tk tP _ (flat_steps M) hc
              have hdm16 := Dp.tk tP _ (flat_steps M) (tS hdm (s12.trans (s13.trans (s14.trans s15))))
              have eDu16 : upd H15 L1 (.lst ([.ref ra, .ref rb] ++ [.ref rc])) D2 = some (.lst [.ref dm]) := by
                have k := (s12.trans s13) _ _ eDu
                rw [upd_ne (ne_of_none k nL13)]
                exact (s14.trans s15) _ _ k
              generalize upd H15 L1 (.lst ([.ref ra, .ref rb] ++ [.ref rc])) = H16 at s816 e16 ha16 hb16 hc16 hdm16 eDu16 ⊢
              refine ⟨_, rfl, _, rfl, D2, 3, [.ref dm], rfl, rfl, eDu16, by decide, by decide, (show 1 * 3 ≤ sizeLine by decide), fun p17 n17 => upd_gen n17 fun H17 s17 e17 => ?_⟩
              have e17 : H17 p17 = some (.lst [.ref dm, .ref dm, .ref dm]) := e17
              have hdm17 := tS hdm16 s17
              have szM : Sz (dSteps M) 200 := (sz_stepsA (l := M) fun s hs => ⟨good_names ok nM s hs, Nat.lt_of_le_of_lt (Nat.le_trans (abs_ln hs) (show XM.ln M ≤ 1000 by omega)) (by decide)⟩).tup.mono (by omega)
              have dM : (dSteps M).depth ≤ 19 := by
                have := deep_steps M
                show PyData.depth (.tuple (M.map dStep)) ≤ 19
                rw [PyData.depth]
                omega
              refine ⟨.ref L1, .ref p17, .list [dSteps M, dSteps M, dSteps M], rfl, .lst (SqL.of (s17 _ _ e16)) (.cons (tS ha16 s17) (.cons (tS hb16 s17) (.cons (tS hc16 s17) .nil))), .lst (SqL.of e17) (.cons hdm17 (.cons hdm17 (.cons hdm17 .nil))), (SzA.cons szM dM (SzA.cons szM dM (SzA.cons szM dM SzA.nil))).lst.mono (by decide), _, rfl, iteF ?_⟩
              refine ⟨_, rfl, D2, _, rfl, .inl (SqL.of (s17 _ _ eDu16)), rfl, _, rfl, ?_⟩
              refine ite2 (fun h => absurd h (by simp)) (fun _ => ?_)
              have s817 := s816.trans s17
              -- of two that are alike
              refine ⟨_, rfl, _, rfl, _, rfl, _, rfl, F, x, x, y, fs s817 (tS hx8 s817) gsx (tS hx8 s817) gsx (tS hy8 s817) gsy, fun H18 rd s18 hd => ?_⟩
              have hd : Dp K H18 (.ref rd) (dSteps (XM.pile (OF F) x)) := by rw [← e4]; exact hd
              have s818 := s817.trans s18
              obtain ⟨_, xs, ex, hxS, hxV⟩ := id (tS hx8 s818).steps
              cases ex
              refine ⟨_, rfl, _, rfl, F, f, r1, xs, x, rfl, tF hF8 s818, ok, .inr hxS, hxV, nx, zx, by omega, fun H19 re s19 he => ?_⟩
              have he : Dp K H19 (.ref re) (dSteps (XM.pile (OF F) x)) := he
              refine ⟨_, _, tS hd s19, he, sh_st ok (names_pile nx), sh_st ok (names_pile nx), ?_⟩
              rw [eqv_steps, decide_eq_true rfl]
              refine ⟨_, rfl, iteF ?_⟩
              have s819 := s818.trans s19
              have R19 := R8.same s819
              have hF19 := tF hF8 s819
              clear hx8 hy8 hz8 hdm hdm16 hdm17 ha16 hb16 hc16 ha hb hc hd he fs
              clear eM uM lM nM zM pM hM e2 e3 e4 hS due hpS hpV hpS8 hpV8 hp8 hxS hxV
              -- with great times
              refine ⟨3, rfl, by decide, by decide, fun D3 nD3 => ?_⟩
              have nm3 := R19.nm nD3
              refine lc_range (lo := 0) (n := 3) (fun j H' => ∃ (rs : List V) (ls : List Rw) (s' : Int), H' D3 = some (.lst rs) ∧ DpAll K H' rs (ls.map dSteps) ∧ (∀ l ∈ ls, GoodAll F l ∧ l.length ≤ 6) ∧ ls.length = j ∧ Dr H' m c g s' ∧ s' ≤ s4 + 25 * (j : Int) ∧ Tk H19 H')
                ⟨[], [], s4, upd_same, .nil, (fun _ h => nomatch h), rfl, R19.same (same_upd nD3), by omega, Tk.of (same_upd nD3)⟩ (fun j H20 hj ⟨rs, ls, s20, eD, hR, hg, hlj, R20, hs20, t20⟩ => ?_) (fun H20 ⟨rs, ls, s20, eD, hR, hg, hlj, R20, hs20, t20⟩ => ?_)
              · have lrs := hR.len
                rw [List.length_map] at lrs
                refine ⟨rfl, yes_ ⟨_, rfl, _, rfl, m, c, g, f, s20, 6, true, F, rfl, R20, Dp.tk t20 _ (flat_field F) hF19, ok, by decide, by decide, by omega, fun H21 r l s21 R21 hs21 k21 hL gL hl6 => ?_⟩⟩
                have eD5 := k21 _ _ nm3.1 nm3.2.2 eD
                have t5 := R20.tk k21
                have tP : Tk H21 (upd H21 D3 (.lst (rs ++ [.ref r]))) := Tk.refl.lst eD5
                refine ⟨rs, eD5, small1000 (by omega), rs ++ [.ref r], ls ++ [l], s21, upd_same, ?_, fun z hz => ?_, by rw [List.length_append, hlj]; rfl, R21.put nm3, by omega, (t20.trans t5).trans tP⟩
                · rw [List.map_append]
                  exact (DpAll.tk (t5.trans tP) _ (flat_rws ls) hR).app (.cons (Dp.tk tP _ (flat_steps l) hL) .nil)
                · rcases List.mem_append.mp hz with h | h
                  · exact hg z h
                  · rw [List.mem_singleton.mp h]
                    exact ⟨gL, by omega⟩
              · clear gx gy gz gsx gsy gsz zx zy zz nx ny nz
                obtain ⟨x, y, z, rfl⟩ : ∃ l1 l2 l3, ls = [l1, l2, l3] := by
                  match ls, hlj with
                  | [x, y, z], _ => exact ⟨x, y, z, rfl⟩
                obtain ⟨r1, r2, r3, rfl, hx8, hy8, hz8⟩ : ∃ r1 r2 r3 : Addr, rs = [.ref r1, .ref r2, .ref r3] ∧ Dp K H20 (.ref r1) (dSteps x) ∧ Dp K H20 (.ref r2) (dSteps y) ∧ Dp K H20 (.ref r3) (dSteps z) := by
                  cases hR with
                  | cons d1 hR =>
                  cases hR with
                  | cons d2 hR =>
                  cases hR with
                  | cons d3 hR =>
                  cases hR
                  obtain ⟨_, _, e1, _⟩ := id d1.steps
                  obtain ⟨_, _, e2, _⟩ := id d2.steps
                  obtain ⟨_, _, e3, _⟩ := id d3.steps
                  subst e1 e2 e3
                  exact ⟨_, _, _, rfl, d1, d2, d3⟩
                obtain ⟨gx, lx⟩ := hg x (by simp)
                obtain ⟨gy, ly⟩ := hg y (by simp)
                obtain ⟨gz, lz⟩ := hg z (by simp)
                have hF20 := Dp.tk t20 _ (flat_field F) hF19
                have zx := gx.nz
                have zy := gy.nz
                have zz := gz.nz
                have nx := gx.names
                have ny := gy.names
                have nz := gz.names
                obtain ⟨zM, pM, hM⟩ := midL_med (F := F) zx zy zz
                have nM := midL_names nx ny nz
                have lM := midL_len nx ny nz
                have e5 : midL F z y x = midL F x y z := by
                  rw [midL_213 zy zz zx, midL_132 zy zx zz, midL_213 zx zy zz]
                generalize eM : midL F x y z = M at zM pM hM nM lM e5
                have gsx := gs_of gx (by omega)
                have gsy := gs_of gy (by omega)
                have gsz := gs_of gz (by omega)
                have fs : ∀ {H' : Hp} {ru rv rw : Addr} {u v w : Rw}, Same H20 H' → Dp K H' (.ref ru) (dSteps u) → GoodScript F u → Dp K H' (.ref rv) (dSteps v) → GoodScript F v → Dp K H' (.ref rw) (dSteps w) → GoodScript F w → FS3 K F u v w [.ref f, .ref ru, .ref rv, .ref rw] H' := fun s hu gu hv gv hw gw => ⟨f, _, _, _, rfl, tF hF20 s, ok, hu, gu, hv, gv, hw, gw⟩
                refine ⟨D3, _, rfl, SqL.of eD, rfl, _, _, rfl, _, _, rfl, _, _, rfl, rfl, ?_⟩
                refine ⟨_, rfl, _, rfl, _, rfl, _, rfl, F, x, y, z, fs (Same.refl _) hx8 gsx hy8 gsy hz8 gsz, fun H21 rp s21 hp => ?_⟩
                have hp : Dp K H21 (.ref rp) (dSteps M) := by rw [← eM]; exact hp
                refine ⟨_, rfl, _, rfl, _, rfl, _, rfl, _, rfl, F, f, r1, r2, r3, rp, x, y, z, M, rfl, tF hF20 s21, ok, ⟨tS hx8 s21, nx, zx, by omega⟩, ⟨tS hy8 s21, ny, zy, by omega⟩, ⟨tS hz8 s21, nz, zz, by omega⟩, ⟨hp, nM, zM, by omega⟩, fun H22 b s22 hb => ?_⟩
                have hb : b = true := hb.mpr hM
                subst hb
                have s2022 := s21.trans s22
                obtain ⟨_, xs, ex, hxS, hxV⟩ := id (tS hp s22).steps
                cases ex
                refine ⟨_, rfl, iteF ⟨_, rfl, _, rfl, _, rfl, F, f, rp, xs, M, rfl, tF hF20 s2022, ok, .inr hxS, hxV, nM, zM, by omega, fun H23 rq s23 hq => ?_⟩⟩
                have hq : Dp K H23 (.ref rq) (dSteps (XM.pile (OF F) M)) := hq
                rw [pM] at hq
                refine ⟨_, _, tS hp (s22.trans s23), hq, sh_st ok nM, sh_st ok nM, ?_⟩
                rw [eqv_steps, decide_eq_true rfl]
                refine ⟨_, rfl, iteF ?_⟩
                have s2023 := s2022.trans s23
                refine ⟨_, rfl, _, rfl, _, rfl, _, rfl, F, z, y, x, fs s2023 (tS hz8 s2023) gsz (tS hy8 s2023) gsy (tS hx8 s2023) gsx, fun H24 rt s24 ht => ?_⟩
                have ht : Dp K H24 (.ref rt) (dSteps M) := by rw [← e5]; exact ht
                refine ⟨_, rfl, _, _, ht, tS hp (s22.trans (s23.trans s24)), sh_st ok nM, sh_st ok nM, ?_⟩
                rw [eqv_steps, decide_eq_true rfl]
                exact ⟨_, rfl, iteF ⟨_, _, _, _, _, _, _, _, _, _, _, s20, rfl, R20.same (s2023.trans s24), by omega⟩⟩
    · subst eσ
      refine ⟨three_sz, fun n1 h1 => upd_gen h1 fun J1 j1 e1 => ⟨two_sz, fun n2 h2 => upd_gen h2 fun J2 j2 e2 => ⟨one_sz, fun n3 h3 => upd_gen h3 fun J3 j3 e3 => ⟨two_sz, fun n4 h4 => upd_gen h4 fun J4 j4 e4 => ?_⟩⟩⟩⟩
      have hF : Dp K J4 (.ref n4) (dField Fh) := .tup (SqT.of e4) (.cons (.tup ((Tk.of (j2.trans (j3.trans j4))).sqT (SqT.of e1)) (.cons (.str _) (.cons (.str _) (.cons (.str _) .nil)))) (.cons (.tup ((Tk.of j4).sqT (SqT.of e3)) (.cons (.tup ((Tk.of (j3.trans j4)).sqT (SqT.of e2)) (.cons (.str _) (.cons (.str _) .nil))) .nil)) .nil))
      refine ⟨_, rfl, two_sz, fun a1 k1 => upd_gen k1 fun L1 i1 f1 => ⟨two_sz, fun a2 k2 => upd_gen k2 fun L2 i2 f2 => ⟨two_sz, fun a3 k3 => upd_gen k3 fun L3 i3 f3 => ?_⟩⟩⟩
      refine ⟨two_sz, fun b1 k4 => upd_gen k4 fun L4 i4 f4 => ⟨two_sz, fun b2 k5 => upd_gen k5 fun L5 i5 f5 => ⟨two_sz, fun b3 k6 => upd_gen k6 fun L6 i6 f6 => ?_⟩⟩⟩
      refine ⟨two_sz, fun c1 k7 => upd_gen k7 fun L7 i7 f7 => ⟨two_sz, fun c2 k8 => upd_gen k8 fun L8 i8 f8 => ⟨two_sz, fun c3 k9 => upd_gen k9 fun L9 i9 f9 => ?_⟩⟩⟩
      have i89 := i8.trans i9
      have i79 := i7.trans i89
      have i69 := i6.trans i79
      have i59 := i5.trans i69
      have i49 := i4.trans i59
      have i39 := i3.trans i49
      have i29 := i2.trans i39
      have i19 := i1.trans i29
      have d1 : Dp K L9 (.ref a3) (dSteps [("a", 5), ("c", 1)]) := .tup ((Tk.of i49).sqT (SqT.of f3)) (.cons (dstep_of ("a", 5) f1 i29) (.cons (dstep_of ("c", 1) f2 i39) .nil))
      have d2 : Dp K L9 (.ref b3) (dSteps [("a", 3), ("b", 2)]) := .tup ((Tk.of i79).sqT (SqT.of f6)) (.cons (dstep_of ("a", 3) f4 i59) (.cons (dstep_of ("b", 2) f5 i69) .nil))
      have d3 : Dp K L9 (.ref c3) (dSteps [("b", 7), ("a", 9)]) := .tup (SqT.of f9) (.cons (dstep_of ("b", 7) f7 i89) (.cons (dstep_of ("a", 9) f8 i9) .nil))
      refine ⟨Fh, [("a", 5), ("c", 1)], [("a", 3), ("b", 2)], [("b", 7), ("a", 9)], ⟨n4, a3, b3, c3, rfl, tF hF i19, okh, d1, good_sh (by decide +kernel), d2, good_sh (by decide +kernel), d3, good_sh (by decide +kernel)⟩, fun L10 rr i10 hr' => ?_⟩
      have hr' : Dp K L10 (.ref rr) (dSteps (midL Fh [("a", 5), ("c", 1)] [("a", 3), ("b", 2)] [("b", 7), ("a", 9)])) := hr'
      rw [hand_mid] at hr'
      refine ⟨two_sz, fun g1 q1 => upd_gen q1 fun M1 x1 y1 => ⟨two_sz, fun g2 q2 => upd_gen q2 fun M2 x2 y2 => ⟨two_sz, fun g3 q3 => upd_gen q3 fun M3 x3 y3 => ?_⟩⟩⟩
      have d4 : Dp K M3 (.ref g3) (dSteps [("a", 5), ("b", 2)]) := .tup (SqT.of y3) (.cons (dstep_of ("a", 5) y1 (x2.trans x3)) (.cons (dstep_of ("b", 2) y2 x3) .nil))
      refine ⟨_, _, tS hr' (x1.trans (x2.trans x3)), d4, by decide +kernel, by decide +kernel, ?_⟩
      rw [eqv_steps, decide_eq_true rfl]
      exact q _
end
end XB
set_option Elab.async false
set_option linter.all false
set_option maxRecDepth 100000
set_option maxHeartbeats 4000000
/-! the head of a law whose promise holds where no repr runs around -/
namespace XB
open PySem PySem.Spec PyProof.Rows L2
section
variable {P : Program} {w : World} {K : PySem.W.Frag} {mg mb : Str → Option Value} {k : Nat} {fa a : Addr} {fd : FuncData} {x : Str} {sp : Sp} {st : Shared} {vs : List Value} {ns : List Int}
def scriptO (vs : List Value) : Obj := { cls := .type "list", data := .seq vs.toArray }
theorem end_g (kin : K.In st.heap) (gl : st.heap.Ns mainGlobals mg) (bl : st.heap.Ns builtinsNs mb) (bb : ∀ y : Str, y ≠ "__name__" → mb y = bootBuiltins y) (nl : st.heap.NoLimit) (ge : st.gens = #[])
    (at_ : st.heap.get? a = some (scriptO vs)) (whl : IntsAre vs ns) (short : ns.length ≤ sizeLine) (room : Room k callerA)
    (prom : ∀ base : Heap, K.In base → base.Ns mainGlobals mg → FnG P w K mg base CX0 k fa fd [x] sp) (bnd : ∀ (s : Shared) (u : Value), BindsTo s fd ⟨[u], []⟩ [(x, u)])
    (holds : ∀ H : Hp, SqL K H a (ns.map V.int) → sp [.ref a] H (fun v _ => v = .bl true) fun _ _ _ => False) :
    codeAny (model P w) callerA (.call (.ref fa) ⟨[.ref a], []⟩) (fun r t => r = .ok (.ret (.bool true)) ∧ OldK st.heap t.heap ∧ t.os = st.os ∧ AllBare t.gens) st := by
  have hv := vals_ints whl
  obtain ⟨G, hG⟩ : ∃ G : Hp, ∀ b, G b = if b = a ∧ (K.lookup a).isNone = true then some (.frz (scriptO vs) (.lst (ns.map V.int))) else none := ⟨fun b => if b = a ∧ (K.lookup a).isNone = true then _ else none, fun _ => rfl⟩
  have only : ∀ b u, G b = some u → b = a ∧ K.lookup a = none ∧ u = .frz (scriptO vs) (.lst (ns.map V.int)) := fun b u q => by
    rw [hG] at q
    by_cases c : b = a ∧ (K.lookup a).isNone = true
    · rw [if_pos c] at q
      exact ⟨c.1, by simpa using c.2, (Option.some.inj q).symm⟩
    · rw [if_neg c] at q
      cases q
  have row : SqL K G a (ns.map V.int) := by
    cases q : K.lookup a with
    | none => exact .inl (.inr ⟨scriptO vs, by rw [hG, if_pos ⟨rfl, by rw [q]; rfl⟩]⟩)
    | some o =>
      have q2 := kin a o q
      rw [at_] at q2
      have q3 : o = scriptO vs := (Option.some.inj q2).symm
      subst q3
      exact .inr ⟨_, vs.toArray, _, q, rfl, rfl, rfl, by rw [List.size_toArray, whl.length]; exact short, by simpa using hv⟩
  have sound : HOk P w G st.heap := fun b u q => by
    obtain ⟨rfl, _, rfl⟩ := only b u q
    exact ⟨at_, by rw [List.length_map]; exact short, vs, 0, hv, at_⟩
  have stays : ∀ {b : Addr} {o : Obj}, st.heap.get? b = some o → (b = a → o ≠ scriptO vs ∨ ∃ u, K.lookup a = some u) → (hidT st.heap G).get? b = some o := fun {b o} q c => by
    refine hidT_get q ?_
    cases g : G b with
    | none => rfl
    | some u =>
      obtain ⟨e1, e2, _⟩ := only b u g
      rcases c e1 with z | ⟨u', z⟩
      · rw [e1, at_] at q
        exact absurd (Option.some.inj q).symm z
      · rw [e2] at z
        cases z
  have names : ∀ {b : Addr} {f : Str → Option Value}, st.heap.Ns b f → (hidT st.heap G).Ns b f := fun {b f} h => by
    obtain ⟨o, es, ep, q, d, r⟩ := h
    refine ⟨o, es, ep, stays q fun _ => .inl fun z => ?_, d, r⟩
    rw [z] at d
    have d : Data.seq vs.toArray _ = Data.dict es ep := d
    cases d
  have kin' : K.In (hidT st.heap G) := fun b o q => stays (kin b o q) fun e => .inr ⟨o, by rw [← e]; exact q⟩
  have md : Mod K mg (hidT st.heap G) := ⟨kin', names gl, ⟨mb, names bl, bb⟩, by obtain ⟨mc, n1, n2⟩ := nl; exact ⟨mc, names n1, n2⟩⟩
  have none_in : ∀ {b : Addr}, b ∉ ([] : List Addr) := fun {b} z => by cases z
  have e0 : Env0 P w K mg (hidT st.heap G) callerA [] st G := { frames := rfl, mod := md, bs := fun _ _ q => of_hidT q, bsz := Nat.le_of_eq (hidT_size _ _), funs := trivial, frf := fun b z => absurd (show b ∈ ([] : List Addr) from z) none_in, hok := sound, bare := .of_eq ge }
  have ran := (prom _ kin' (names gl)).goes (A := callerA) (outer := []) (Q := fun v _ => v = .bl true) (E := fun _ _ _ => False) (args := ⟨[.ref a], []⟩) (us := [.ref a]) (vs := [.ref a]) rfl room e0 (bnd st (.ref a)) (.cons (show Value.ref a = Value.ref a from rfl) .nil) (holds G row)
  refine codeAny_mono ran ?_
  intro r t q
  match r, q with
  | .ok (.ret u), q =>
    obtain ⟨v, G', e1, e2, un, ok', rv, ev⟩ := q
    have ev : v = .bl true := ev
    subst ev
    have eu : u = Value.bool true := rv
    rw [eu]
    refine ⟨rfl, OldK.of_keep fun b o hb => ?_, e1, e2⟩
    cases g : G b with
    | none => exact un.keep b o hb g (fun z => absurd (show b ∈ ([] : List Addr) from z) none_in) none_in
    | some y =>
      obtain ⟨_, _, rfl⟩ := only b y g
      have c1 := (sound b _ g).1
      have c2 := (ok' b _ (un.frzs b _ _ g)).1
      rw [hb] at c1
      rw [c2, ← c1]
  | .ok .next, q => exact False.elim q
  | .ok .brk, q => exact False.elim q
  | .ok .cont, q => exact False.elim q
  | .error _, q => exact False.elim q
theorem walk_g {l : PySem.W.OpenLaw} {n k : Nat} {q : Program} {loose : List Str} {XP : (Str → Option Value) → Heap → Prop} {YP : World → Heap → Prop} {d : DefRec} {K : Params → PySem.W.Frag} {sp : PySem.W.Frag → Sp} {x : Str}
    (most : l.most = some n) (fits : n ≤ sizeLine) (plain : d.params.defaults = []) (room : Room k callerA) (inn : ∀ (w : World) (h : Heap), YP w h → (K w.params).In h)
    (prom : ∀ (w : World) (mg : Str → Option Value) (fa : Addr) (h : Heap), (K w.params).In h → h.Ns mainGlobals mg → mg d.name = some (.ref fa) →
      ∃ fd : FuncData, (∀ (s : Shared) (u : Value), BindsTo s fd ⟨[u], []⟩ [(x, u)]) ∧ ∀ base : Heap, (K w.params).In base → base.Ns mainGlobals mg → FnG l.prog w (K w.params) mg base CX0 k fa fd [x] (sp (K w.params)))
    (holds : ∀ (K : PySem.W.Frag) (H : Hp) (a : Addr) (ns : List Int), ns.length ≤ n → SqL K H a (ns.map V.int) → sp K [.ref a] H (fun v _ => v = .bl true) fun _ _ _ => False) : PySem.W.WalkO q loose XP YP l.row.toRowW d [] (fun f vs => PySem.call f vs) := by
  refine Att.attach_call most plain fun w s0 st mg mb fa o pm cd doc a vs ns gg y ho hd hcd hmg hobj hints hlen hgen => ?_
  have kin := inn w _ y
  obtain ⟨fd, b, pr⟩ := prom w mg fa _ kin gg.T.g hmg
  exact end_g kin gg.T.g gg.T.b gg.T.builtins gg.T.nolimit hgen hobj hints (Nat.le_trans hlen fits) room pr b fun H s => holds _ H a ns hlen s
/-- the same, with what the head tells of the globals beside the written part -/
theorem walk_gX {TX : (Str → Option Value) → Prop} {l : PySem.W.OpenLaw} {n k : Nat} {q : Program} {loose : List Str} {XP : (Str → Option Value) → Heap → Prop} {YP : World → Heap → Prop} {d : DefRec} {K : Params → PySem.W.Frag} {sp : PySem.W.Frag → Sp} {x : Str}
    (most : l.most = some n) (fits : n ≤ sizeLine) (plain : d.params.defaults = []) (room : Room k callerA) (told : ∀ (mg : Str → Option Value) (h : Heap), XP mg h → TX mg) (inn : ∀ (w : World) (h : Heap), YP w h → (K w.params).In h)
    (prom : ∀ (w : World) (mg : Str → Option Value) (fa : Addr) (h : Heap), (K w.params).In h → h.Ns mainGlobals mg → mg d.name = some (.ref fa) → TX mg →
      ∃ fd : FuncData, (∀ (s : Shared) (u : Value), BindsTo s fd ⟨[u], []⟩ [(x, u)]) ∧ ∀ base : Heap, (K w.params).In base → base.Ns mainGlobals mg → FnG l.prog w (K w.params) mg base CX0 k fa fd [x] (sp (K w.params)))
    (holds : ∀ (K : PySem.W.Frag) (H : Hp) (a : Addr) (ns : List Int), ns.length ≤ n → SqL K H a (ns.map V.int) → sp K [.ref a] H (fun v _ => v = .bl true) fun _ _ _ => False) : PySem.W.WalkO q loose XP YP l.row.toRowW d [] (fun f vs => PySem.call f vs) := by
  refine Att.attach_call most plain fun w s0 st mg mb fa o pm cd doc a vs ns gg y ho hd hcd hmg hobj hints hlen hgen => ?_
  have kin := inn w _ y
  obtain ⟨fd, b, pr⟩ := prom w mg fa _ kin gg.T.g hmg (told _ _ gg.X)
  exact end_g kin gg.T.g gg.T.b gg.T.builtins gg.T.nolimit hgen hobj hints (Nat.le_trans hlen fits) room pr b fun H s => holds _ H a ns hlen s
end
end XB
set_option Elab.async false
set_option linter.all false
set_option maxRecDepth 100000
namespace XB
open PySem PySem.Spec PyProof.Rows L2
theorem dn_mk {K : PySem.W.Frag} {h : Heap} {mg : Str → Option Value} {x : Str} {st : Stmt} {f : Addr} {oc : Value} {od an : Option Addr} {osl : Array (Option Value)} {kV doc pm cdv ct : Value} (X : K.In h) (G : h.Ns mainGlobals mg)
    (a : PySem.W.nsIn K mainGlobals x = some (some (.ref f))) (l : K.lookup f = some ⟨oc, od, .func (PySem.W.fnOf x x (defArgs st) (defBody st) (defScope st) .none kV doc pm an cdv ct), osl⟩)
    (c : PySem.W.codeIn K cdv x = true) (k : PySem.W.keepIn K (.ref f) = true) : Dn K mg x st := ⟨f, _, fun_mk l c k, PySem.W.mg_of X G a⟩
theorem int_mk {K : PySem.W.Frag} {h : Heap} {mg : Str → Option Value} {x : Str} {z n : Int} {t : Tok} (X : K.In h) (G : h.Ns mainGlobals mg) (a : PySem.W.nsIn K mainGlobals x = some (some (.int z t))) (e : z = n) : ∃ t, mg x = some (.int n t) :=
  ⟨t, by rw [← e]; exact PySem.W.mg_of X G a⟩
theorem loose_int {p : Program} {n : Str} {z : Int} {mg : Str → Option Value} {h : Heap} (x : PySem.W.XL p [(n, PySem.W.WData.int z)] mg h) : ∃ t, mg n = some (.int z t) := by
  obtain ⟨v, a, b⟩ := x.2.val _ List.mem_cons_self
  cases b
  exact ⟨_, a⟩
theorem law_mk {P : Program} {w : World} {K : PySem.W.Frag} {h : Heap} {mg : Str → Option Value} {fa f : Addr} {oc : Value} {od an : Option Addr} {osl : Array (Option Value)} {kV doc pm cdv ct : Value} (X : K.In h) (G : h.Ns mainGlobals mg) (hfa : mg "law" = some (.ref fa)) (T : Tx K mg)
    (a : PySem.W.nsIn K mainGlobals "law" = some (some (.ref f))) (l : K.lookup f = some ⟨oc, od, .func (PySem.W.fnOf "law" "law" (defArgs s_law) (defBody s_law) (defScope s_law) .none kV doc pm an cdv ct), osl⟩)
    (c : PySem.W.codeIn K cdv "law" = true) (k : PySem.W.keepIn K (.ref f) = true) :
    ∃ fd : FuncData, (∀ (s : Shared) (v : Value), BindsTo s fd ⟨[v], []⟩ [("script", v)]) ∧ ∀ base : Heap, K.In base → base.Ns mainGlobals mg → FnG P w K mg base CX0 8 fa fd ["script"] (spLaw K) := by
  have e := hfa.symm.trans (PySem.W.mg_of X G a)
  cases e
  exact ⟨_, fun s v => .of_eq rfl, fun base _ _ => fg_law T (fun_mk (st := s_law) l c k)⟩
end XB
open PySem PySem.W PyProof.Rows in
set_option maxRecDepth 100000 in
set_option maxHeartbeats 0 in
theorem PySem.Challenge.cw_deedpiles_k86_whole_middles_holds : PySem.Challenge.rw_deedpiles_k86_whole_middles.Holds := by
  w_on; o_law; k_head; (case hw => w_witness2)
  k_fill
  refine XB.walk_gX (TX := fun mg => (∃ t, mg "MOST_TIMES" = some (.int (10 ^ 30) t))) (l := PySem.Challenge.rw_deedpiles_k86_whole_middles) (n := 63) (k := 8) (x := "script") (sp := XB.spLaw) rfl (by decide) rfl ⟨rfl, by decide, by decide⟩ ?told (fun w h Y => PySem.W.kIn_of Y) ?F (fun _ _ a ns hl s => ⟨a, ns, rfl, s, Nat.le_trans hl (by decide), fun _ => rfl⟩)
  case told =>
    intro mg h x
    exact XB.loose_int x
  case F =>
    intro w mg fa h KX G hmg hMT
    refine' XB.law_mk KX G hmg ?T ?la ?ll ?lc ?lk
    case T =>
      constructor
      case b_ValueError =>
        refine' PySem.W.mg_none_of KX G ?z1a
        (case z1a => k_is)
      case b_abs =>
        refine' PySem.W.mg_none_of KX G ?z2a
        (case z2a => k_is)
      case b_all =>
        refine' PySem.W.mg_none_of KX G ?z3a
        (case z3a => k_is)
      case b_bool =>
        refine' PySem.W.mg_none_of KX G ?z4a
        (case z4a => k_is)
      case b_enumerate =>
        refine' PySem.W.mg_none_of KX G ?z5a
        (case z5a => k_is)
      case b_int =>
        refine' PySem.W.mg_none_of KX G ?z6a
        (case z6a => k_is)
      case b_isinstance =>
        refine' PySem.W.mg_none_of KX G ?z7a
        (case z7a => k_is)
      case b_len =>
        refine' PySem.W.mg_none_of KX G ?z8a
        (case z8a => k_is)
      case b_list =>
        refine' PySem.W.mg_none_of KX G ?z9a
        (case z9a => k_is)
      case b_max =>
        refine' PySem.W.mg_none_of KX G ?z10a
        (case z10a => k_is)
      case b_min =>
        refine' PySem.W.mg_none_of KX G ?z11a
        (case z11a => k_is)
      case b_range =>
        refine' PySem.W.mg_none_of KX G ?z12a
        (case z12a => k_is)
      case b_repr =>
        refine' PySem.W.mg_none_of KX G ?z13a
        (case z13a => k_is)
      case b_str =>
        refine' PySem.W.mg_none_of KX G ?z14a
        (case z14a => k_is)
      case b_sum =>
        refine' PySem.W.mg_none_of KX G ?z15a
        (case z15a => k_is)
      case b_tuple =>
        refine' PySem.W.mg_none_of KX G ?z16a
        (case z16a => k_is)
      case b_zip =>
        refine' PySem.W.mg_none_of KX G ?z17a
        (case z17a => k_is)
      case g_MOST_NAMES =>
        refine' XB.int_mk KX G ?z18a ?z18q
        (case z18a => k_is)
        (case z18q => rfl)
      case g_MOST_LETTERS =>
        refine' XB.int_mk KX G ?z19a ?z19q
        (case z19a => k_is)
        (case z19q => rfl)
      case g_MOST_STEPS =>
        refine' XB.int_mk KX G ?z20a ?z20q
        (case z20a => k_is)
        (case z20q => rfl)
      case g_MOST_TIMES => exact hMT
      case d_is_whole =>
        refine' XB.dn_mk KX G ?z22a ?z22l ?z22c ?z22k
        (case z22a => k_is)
        (case z22l => k_is)
        (case z22c => k_is)
        (case z22k => k_is)
      case d_is_pair =>
        refine' XB.dn_mk KX G ?z23a ?z23l ?z23c ?z23k
        (case z23a => k_is)
        (case z23l => k_is)
        (case z23c => k_is)
        (case z23k => k_is)
      case d_is_ascending =>
        refine' XB.dn_mk KX G ?z24a ?z24l ?z24c ?z24k
        (case z24a => k_is)
        (case z24l => k_is)
        (case z24c => k_is)
        (case z24k => k_is)
      case d_need_field =>
        refine' XB.dn_mk KX G ?z25a ?z25l ?z25c ?z25k
        (case z25a => k_is)
        (case z25l => k_is)
        (case z25c => k_is)
        (case z25k => k_is)
      case d_touch_table =>
        refine' XB.dn_mk KX G ?z26a ?z26l ?z26c ?z26k
        (case z26a => k_is)
        (case z26l => k_is)
        (case z26c => k_is)
        (case z26k => k_is)
      case d_names_touching =>
        refine' XB.dn_mk KX G ?z27a ?z27l ?z27c ?z27k
        (case z27a => k_is)
        (case z27l => k_is)
        (case z27c => k_is)
        (case z27k => k_is)
      case d_are_apart =>
        refine' XB.dn_mk KX G ?z28a ?z28l ?z28c ?z28k
        (case z28a => k_is)
        (case z28l => k_is)
        (case z28c => k_is)
        (case z28k => k_is)
      case d_are_names =>
        refine' XB.dn_mk KX G ?z29a ?z29l ?z29c ?z29k
        (case z29a => k_is)
        (case z29l => k_is)
        (case z29c => k_is)
        (case z29k => k_is)
      case d_is_name =>
        refine' XB.dn_mk KX G ?z30a ?z30l ?z30c ?z30k
        (case z30a => k_is)
        (case z30l => k_is)
        (case z30c => k_is)
        (case z30k => k_is)
      case d_are_pairs =>
        refine' XB.dn_mk KX G ?z31a ?z31l ?z31c ?z31k
        (case z31a => k_is)
        (case z31l => k_is)
        (case z31c => k_is)
        (case z31k => k_is)
      case d_is_pair_of =>
        refine' XB.dn_mk KX G ?z32a ?z32l ?z32c ?z32k
        (case z32a => k_is)
        (case z32l => k_is)
        (case z32c => k_is)
        (case z32k => k_is)
      case d_need_script =>
        refine' XB.dn_mk KX G ?z33a ?z33l ?z33c ?z33k
        (case z33a => k_is)
        (case z33l => k_is)
        (case z33c => k_is)
        (case z33k => k_is)
      case d_is_step =>
        refine' XB.dn_mk KX G ?z34a ?z34l ?z34c ?z34k
        (case z34a => k_is)
        (case z34l => k_is)
        (case z34c => k_is)
        (case z34k => k_is)
      case d_is_great_step =>
        refine' XB.dn_mk KX G ?z35a ?z35l ?z35c ?z35k
        (case z35a => k_is)
        (case z35l => k_is)
        (case z35c => k_is)
        (case z35k => k_is)
      case d_is_times =>
        refine' XB.dn_mk KX G ?z36a ?z36l ?z36c ?z36k
        (case z36a => k_is)
        (case z36l => k_is)
        (case z36c => k_is)
        (case z36k => k_is)
      case d_least_pile =>
        refine' XB.dn_mk KX G ?z37a ?z37l ?z37c ?z37k
        (case z37a => k_is)
        (case z37l => k_is)
        (case z37c => k_is)
        (case z37k => k_is)
      case d_piled =>
        refine' XB.dn_mk KX G ?z38a ?z38l ?z38c ?z38k
        (case z38a => k_is)
        (case z38l => k_is)
        (case z38c => k_is)
        (case z38k => k_is)
      case d_last_touched =>
        refine' XB.dn_mk KX G ?z39a ?z39l ?z39c ?z39k
        (case z39a => k_is)
        (case z39l => k_is)
        (case z39c => k_is)
        (case z39k => k_is)
      case d_place_behind =>
        refine' XB.dn_mk KX G ?z40a ?z40l ?z40c ?z40k
        (case z40a => k_is)
        (case z40l => k_is)
        (case z40c => k_is)
        (case z40k => k_is)
      case d_back =>
        refine' XB.dn_mk KX G ?z41a ?z41l ?z41c ?z41k
        (case z41a => k_is)
        (case z41l => k_is)
        (case z41c => k_is)
        (case z41k => k_is)
      case d_common_of =>
        refine' XB.dn_mk KX G ?z42a ?z42l ?z42c ?z42k
        (case z42a => k_is)
        (case z42l => k_is)
        (case z42c => k_is)
        (case z42k => k_is)
      case d_front_times =>
        refine' XB.dn_mk KX G ?z43a ?z43l ?z43c ?z43k
        (case z43a => k_is)
        (case z43l => k_is)
        (case z43c => k_is)
        (case z43k => k_is)
      case d_shared_times =>
        refine' XB.dn_mk KX G ?z44a ?z44l ?z44c ?z44k
        (case z44a => k_is)
        (case z44l => k_is)
        (case z44c => k_is)
        (case z44k => k_is)
      case d_middle_of =>
        refine' XB.dn_mk KX G ?z45a ?z45l ?z45c ?z45k
        (case z45a => k_is)
        (case z45l => k_is)
        (case z45c => k_is)
        (case z45k => k_is)
      case d_leading =>
        refine' XB.dn_mk KX G ?z46a ?z46l ?z46c ?z46k
        (case z46a => k_is)
        (case z46l => k_is)
        (case z46c => k_is)
        (case z46k => k_is)
      case d_middle_pile =>
        refine' XB.dn_mk KX G ?z47a ?z47l ?z47c ?z47k
        (case z47a => k_is)
        (case z47l => k_is)
        (case z47c => k_is)
        (case z47k => k_is)
      case d__law_mixed =>
        refine' XB.dn_mk KX G ?z48a ?z48l ?z48c ?z48k
        (case z48a => k_is)
        (case z48l => k_is)
        (case z48c => k_is)
        (case z48k => k_is)
      case d__law_folded =>
        refine' XB.dn_mk KX G ?z49a ?z49l ?z49c ?z49k
        (case z49a => k_is)
        (case z49l => k_is)
        (case z49c => k_is)
        (case z49k => k_is)
      case d__law_draw =>
        refine' XB.dn_mk KX G ?z50a ?z50l ?z50c ?z50k
        (case z50a => k_is)
        (case z50l => k_is)
        (case z50c => k_is)
        (case z50k => k_is)
      case d__law_begun =>
        refine' XB.dn_mk KX G ?z51a ?z51l ?z51c ?z51k
        (case z51a => k_is)
        (case z51l => k_is)
        (case z51c => k_is)
        (case z51k => k_is)
      case d__law_like =>
        refine' XB.dn_mk KX G ?z52a ?z52l ?z52c ?z52k
        (case z52a => k_is)
        (case z52l => k_is)
        (case z52c => k_is)
        (case z52k => k_is)
      case d__law_field =>
        refine' XB.dn_mk KX G ?z53a ?z53l ?z53c ?z53k
        (case z53a => k_is)
        (case z53l => k_is)
        (case z53c => k_is)
        (case z53k => k_is)
      case d__law_steps =>
        refine' XB.dn_mk KX G ?z54a ?z54l ?z54c ?z54k
        (case z54a => k_is)
        (case z54l => k_is)
        (case z54c => k_is)
        (case z54k => k_is)
      case d__law_apart =>
        refine' XB.dn_mk KX G ?z55a ?z55l ?z55c ?z55k
        (case z55a => k_is)
        (case z55l => k_is)
        (case z55c => k_is)
        (case z55k => k_is)
      case d__law_meet =>
        refine' XB.dn_mk KX G ?z56a ?z56l ?z56c ?z56k
        (case z56a => k_is)
        (case z56l => k_is)
        (case z56c => k_is)
        (case z56k => k_is)
      case d__law_pile =>
        refine' XB.dn_mk KX G ?z57a ?z57l ?z57c ?z57k
        (case z57a => k_is)
        (case z57l => k_is)
        (case z57c => k_is)
        (case z57k => k_is)
      case d__law_firsts =>
        refine' XB.dn_mk KX G ?z58a ?z58l ?z58c ?z58k
        (case z58a => k_is)
        (case z58l => k_is)
        (case z58c => k_is)
        (case z58k => k_is)
      case d__law_least =>
        refine' XB.dn_mk KX G ?z59a ?z59l ?z59c ?z59k
        (case z59a => k_is)
        (case z59l => k_is)
        (case z59c => k_is)
        (case z59k => k_is)
      case d__law_back =>
        refine' XB.dn_mk KX G ?z60a ?z60l ?z60c ?z60k
        (case z60a => k_is)
        (case z60l => k_is)
        (case z60c => k_is)
        (case z60k => k_is)
      case d__law_length =>
        refine' XB.dn_mk KX G ?z61a ?z61l ?z61c ?z61k
        (case z61a => k_is)
        (case z61l => k_is)
        (case z61c => k_is)
        (case z61k => k_is)
      case d__law_far =>
        refine' XB.dn_mk KX G ?z62a ?z62l ?z62c ?z62k
        (case z62a => k_is)
        (case z62l => k_is)
        (case z62c => k_is)
        (case z62k => k_is)
      case d__law_units =>
        refine' XB.dn_mk KX G ?z63a ?z63l ?z63c ?z63k
        (case z63a => k_is)
        (case z63l => k_is)
        (case z63c => k_is)
        (case z63k => k_is)
      case d__law_lowers =>
        refine' XB.dn_mk KX G ?z64a ?z64l ?z64c ?z64k
        (case z64a => k_is)
        (case z64l => k_is)
        (case z64c => k_is)
        (case z64k => k_is)
      case d__law_lies =>
        refine' XB.dn_mk KX G ?z65a ?z65l ?z65c ?z65k
        (case z65a => k_is)
        (case z65l => k_is)
        (case z65c => k_is)
        (case z65k => k_is)
      case d__law_small =>
        refine' XB.dn_mk KX G ?z66a ?z66l ?z66c ?z66k
        (case z66a => k_is)
        (case z66l => k_is)
        (case z66c => k_is)
        (case z66k => k_is)
      case d_law =>
        refine' XB.dn_mk KX G ?z67a ?z67l ?z67c ?z67k
        (case z67a => k_is)
        (case z67l => k_is)
        (case z67c => k_is)
        (case z67k => k_is)
    (case la => k_is)
    (case ll => k_is)
    (case lc => k_is)
    (case lk => k_is)
