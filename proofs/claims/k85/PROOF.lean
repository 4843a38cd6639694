import PyProof.Rows.All
import HandS.ForMost
import HandS.Wide
import HandS.Walk
import HandS.WordsExc
import HandS.Codes
import PySem.Challenge.RW_deedpiles_k85_whole_distances
import PyProof.ReprRoads
import PyProof.CallFns
import HandS.TupLe
import HandS.Zip
import HandS.Deep
import HandS.DictComp
import HandS.TupAny
import KE.GoesMore
import KE.GoesEnum
import PyProof.EnumMake
import PyProof.Draws
import HandS.IsInst
import HandS.Conv
import HandS.More
import HandS.Style
import KE.KRevSl
import HandS.Flow
import HandS.Strs
import PyProof.ReprBulk
import KE.DataMinMax
import HandS.NoneIn
import HandS.Ends
set_option Elab.async false
set_option linter.all false
set_option maxRecDepth 100000
set_option maxHeartbeats 4000000
namespace XB
open PySem PySem.Spec PyProof.Rows L2
/-! ### defs of the text, called by their names -/
structure Cl (P : Program) (w : World) (K : PySem.W.Frag) (mg : Str → Option Value) (base : Heap) (CX : CXT) (k : Nat) (x : Str) (sp : Sp) : Prop where
  ex : ∃ (f : Addr) (fd : FuncData) (ps : List Str), FnOk P w K mg base CX k f fd ps sp ∧ mg x = some (.ref f) ∧ PySem.W.keepIn K (.ref f) = true ∧ Binds K fd ps []
/-- a def that stands in the module under its own name -/
structure Dn (K : PySem.W.Frag) (mg : Str → Option Value) (x : Str) (st : Stmt) : Prop where
  ex : ∃ (f : Addr) (fd : FuncData), Fun K x x st f fd ∧ mg x = some (.ref f)
section
variable {P : Program} {w : World} {K : PySem.W.Frag} {mg : Str → Option Value} {base : Heap}
theorem cl0 {x : Str} {st : Stmt} {N ps : List Str} {k : Nat} {sp : Sp} (D : Dn K mg x st)
    (hb : ∀ (kV doc pm : Value) (an : Option Addr) (cdv ct : Value) (us : List Value), us.length = ps.length → bindArgs (PySem.W.fnOf x x (defArgs st) (defBody st) (defScope st) .none kV doc pm an cdv ct) ⟨us, []⟩ = pure (ps.zip us))
    (S : FnScope N ps (defScope st)) (len : ∀ vs H Q E, sp vs H Q E → vs.length = ps.length)
    (hbody : ∀ (f : Addr) (cdv : Value) (A : Around) (outer : List Env) (s : Shared) (H : Hp) (vs : List V) (Q : VK) (E : XK), Room k (A.deeper (envOfC x (defScope st) s.heap.objs.size f cdv)) → sp vs H Q E →
      ∃ t, PSs (cxOf CX0 P w K mg base N x (defScope st) f cdv A outer s H E).nox (defBody st) t ∧ t { nx := fun _ H' => Q .non H', rt := Q } (start N vs) H) : Cl P w K mg base CX0 (k + 1) x sp := by
  obtain ⟨f, fd, F, hm⟩ := D.ex
  exact ⟨f, fd, ps, F.ok S len (fun cdv A outer s H vs Q E hr h => hbody f cdv A outer s H vs Q E hr h), hm, F.kp, F.binds hb⟩
end
section
variable {X : Cx} {k j : Nat} {x : Str} {sp : Sp} {p pos : Pos} {e : Expr} {es : List Expr} {t : TA}
theorem pe_k (c : Cl X.prog X.w X.K X.mg X.base CX0 k x sp) (hr : Room j X.A) (hk : k ≤ j) (hg : Gl X x) (ha : PA X (e :: es) t)
    (hdb : (x == ("__debug__" : Str)) = false := by decide) (he : starEach (e :: es) X.env = (false, eval e X.env) :: starEach es X.env := by rfl) (hpl : (backTo pos (starEach es X.env)).any (·.1) = false := by rfl) :
    PE X (.Call (.Name x p) (e :: es) [] pos) (tCall sp [] E0 t) := by
  obtain ⟨f, fd, ps, F, hm, kp, b⟩ := c.ex
  exact pe_call F (hr.mono hk) hg hm kp b .nil pass0 ha hdb he hpl
end
/-! ### heaps -/
theorem same_upd {H : Hp} {p : Addr} {o : HO} (h : H p = none) : Same H (upd H p o) := fun b x e => by
  rw [upd_ne (ne_of_none e h)]
  exact e
theorem Same.put {H H1 : Hp} {D : Addr} {o : HO} (s : Same H H1) (hD : H D = none) : Same H (upd H1 D o) := fun b x e => by
  rw [upd_ne (ne_of_none e hD)]
  exact s b x e
theorem Same.new {H H1 : Hp} {D : Addr} {o : HO} (s : Same H H1) (hD : H1 D = none) : Same H (upd H1 D o) := fun b x e => by
  rw [upd_ne (ne_of_none (s b x e) hD)]
  exact s b x e
theorem same_put {H H1 : Hp} {D : Addr} {o : HO} (s : Same H H1) (hD : H D = none) : Same H (upd H1 D o) := Same.put s hD
theorem same_new {H H1 : Hp} {D : Addr} {o : HO} (s : Same H H1) (hD : H1 D = none) : Same H (upd H1 D o) := Same.new s hD
theorem yes_ {σ : L2.St} {H : Hp} {A B : Hp → Prop} (h : A H) : tYes σ H (fun b H3 => if b = true then A H3 else B H3) := by
  show if true = true then A H else B H
  rw [if_pos rfl]
  exact h
/-- the int that stands at a place of a row of ints -/
theorem int_at {ns : List Int} {i : Nat} {x : V} (h : (ns.map V.int)[i]? = some x) : ∃ z, ns[i]? = some z ∧ x = V.int z := by
  rw [List.getElem?_map] at h
  cases e : ns[i]? with
  | none =>
    rw [e] at h
    cases h
  | some z =>
    rw [e] at h
    exact ⟨z, rfl, (Option.some.inj h).symm⟩
theorem str_at {ns : List Str} {i : Nat} {x : V} (h : (ns.map V.str)[i]? = some x) : ∃ z, ns[i]? = some z ∧ x = V.str z := by
  rw [List.getElem?_map] at h
  obtain ⟨z, e, rfl⟩ := Option.map_eq_some_iff.mp h
  exact ⟨z, e, rfl⟩
theorem map_set {xs : List Int} (k : Nat) (z : Int) : (xs.map V.int).set k (.int z) = (xs.set k z).map V.int := by
  rw [List.map_set]
theorem ixN_of {n : Nat} {z : Int} {k : Nat} (e : z = (k : Int)) (h : k < n) : ixN n z = some k := by
  unfold ixN
  rw [if_pos (by omega), if_pos (by omega), e]
  rfl
theorem atI_of {xs : List Int} {z : Int} {k : Nat} {v : Int} (e : z = (k : Int)) (h : xs[k]? = some v) : atI (xs.map V.int) z = some (V.int v) := by
  refine at_of e ?_
  rw [List.getElem?_map, h]
  rfl
end XB
set_option Elab.async false
set_option linter.all false
set_option maxRecDepth 100000
set_option maxHeartbeats 4000000
namespace XB
open PySem PySem.Spec PyProof.Rows L2
def topS (i : Nat) : Stmt := PySem.Challenge.pw_deedpiles_k85_whole_distances.main.body.getD i (.Pass ⟨0, 0, 0, 0⟩)
abbrev s_BadField___init__ : Stmt := inClass (topS 2) 0
theorem sc_BadField___init__ : FnScope ["self", "part"] ["self", "part"] (defScope s_BadField___init__) := ⟨rfl, rfl, rfl, by decide +kernel, rfl, by decide +kernel, by decide +kernel⟩
abbrev s_BadScript___init__ : Stmt := inClass (topS 3) 0
theorem sc_BadScript___init__ : FnScope ["self", "place"] ["self", "place"] (defScope s_BadScript___init__) := ⟨rfl, rfl, rfl, by decide +kernel, rfl, by decide +kernel, by decide +kernel⟩
abbrev s_is_whole : Stmt := topS 5
theorem sc_is_whole : FnScope ["value"] ["value"] (defScope s_is_whole) := ⟨rfl, rfl, rfl, by decide +kernel, rfl, by decide +kernel, by decide +kernel⟩
abbrev s_is_pair : Stmt := topS 6
theorem sc_is_pair : FnScope ["value"] ["value"] (defScope s_is_pair) := ⟨rfl, rfl, rfl, by decide +kernel, rfl, by decide +kernel, by decide +kernel⟩
abbrev s_is_ascending : Stmt := topS 7
theorem sc_is_ascending : FnScope ["items", "one", "other"] ["items"] (defScope s_is_ascending) := ⟨rfl, rfl, rfl, by decide +kernel, rfl, by decide +kernel, by decide +kernel⟩
abbrev s_need_field : Stmt := topS 11
theorem sc_need_field : FnScope ["field", "names", "pairs"] ["field"] (defScope s_need_field) := ⟨rfl, rfl, rfl, by decide +kernel, rfl, by decide +kernel, by decide +kernel⟩
abbrev s_touch_table : Stmt := topS 12
theorem sc_touch_table : FnScope ["field", "names", "_", "name"] ["field"] (defScope s_touch_table) := ⟨rfl, rfl, rfl, by decide +kernel, rfl, by decide +kernel, by decide +kernel⟩
abbrev s_names_touching : Stmt := topS 13
theorem sc_names_touching : FnScope ["field", "name", "names", "pairs", "other"] ["field", "name"] (defScope s_names_touching) := ⟨rfl, rfl, rfl, by decide +kernel, rfl, by decide +kernel, by decide +kernel⟩
abbrev s_are_apart : Stmt := topS 14
theorem sc_are_apart : FnScope ["pairs", "one", "other"] ["pairs", "one", "other"] (defScope s_are_apart) := ⟨rfl, rfl, rfl, by decide +kernel, rfl, by decide +kernel, by decide +kernel⟩
abbrev s_are_names : Stmt := topS 15
theorem sc_are_names : FnScope ["value", "item"] ["value"] (defScope s_are_names) := ⟨rfl, rfl, rfl, by decide +kernel, rfl, by decide +kernel, by decide +kernel⟩
abbrev s_is_name : Stmt := topS 16
theorem sc_is_name : FnScope ["value", "letter"] ["value"] (defScope s_is_name) := ⟨rfl, rfl, rfl, by decide +kernel, rfl, by decide +kernel, by decide +kernel⟩
abbrev s_are_pairs : Stmt := topS 17
theorem sc_are_pairs : FnScope ["names", "value", "item"] ["names", "value"] (defScope s_are_pairs) := ⟨rfl, rfl, rfl, by decide +kernel, rfl, by decide +kernel, by decide +kernel⟩
abbrev s_is_pair_of : Stmt := topS 18
theorem sc_is_pair_of : FnScope ["names", "value", "one", "other"] ["names", "value"] (defScope s_is_pair_of) := ⟨rfl, rfl, rfl, by decide +kernel, rfl, by decide +kernel, by decide +kernel⟩
abbrev s_need_script : Stmt := topS 22
theorem sc_need_script : FnScope ["field", "deeds", "names", "_", "place", "item"] ["field", "deeds"] (defScope s_need_script) := ⟨rfl, rfl, rfl, by decide +kernel, rfl, by decide +kernel, by decide +kernel⟩
abbrev s_is_step : Stmt := topS 23
theorem sc_is_step : FnScope ["names", "value"] ["names", "value"] (defScope s_is_step) := ⟨rfl, rfl, rfl, by decide +kernel, rfl, by decide +kernel, by decide +kernel⟩
abbrev s_is_great_step : Stmt := topS 24
theorem sc_is_great_step : FnScope ["names", "value", "name", "times"] ["names", "value"] (defScope s_is_great_step) := ⟨rfl, rfl, rfl, by decide +kernel, rfl, by decide +kernel, by decide +kernel⟩
abbrev s_is_times : Stmt := topS 25
theorem sc_is_times : FnScope ["value"] ["value"] (defScope s_is_times) := ⟨rfl, rfl, rfl, by decide +kernel, rfl, by decide +kernel, by decide +kernel⟩
abbrev s_least_pile : Stmt := topS 26
theorem sc_least_pile : FnScope ["field", "deeds"] ["field", "deeds"] (defScope s_least_pile) := ⟨rfl, rfl, rfl, by decide +kernel, rfl, by decide +kernel, by decide +kernel⟩
abbrev s_are_alike : Stmt := topS 27
theorem sc_are_alike : FnScope ["field", "one", "other"] ["field", "one", "other"] (defScope s_are_alike) := ⟨rfl, rfl, rfl, by decide +kernel, rfl, by decide +kernel, by decide +kernel⟩
abbrev s_piled : Stmt := topS 28
theorem sc_piled : FnScope ["touch", "steps", "pieces", "name", "times", "at"] ["touch", "steps"] (defScope s_piled) := ⟨rfl, rfl, rfl, by decide +kernel, rfl, by decide +kernel, by decide +kernel⟩
abbrev s_last_touched : Stmt := topS 29
theorem sc_last_touched : FnScope ["names", "pieces", "at"] ["names", "pieces"] (defScope s_last_touched) := ⟨rfl, rfl, rfl, by decide +kernel, rfl, by decide +kernel, by decide +kernel⟩
abbrev s_place_behind : Stmt := topS 30
theorem sc_place_behind : FnScope ["pieces", "at", "name", "place"] ["pieces", "at", "name"] (defScope s_place_behind) := ⟨rfl, rfl, rfl, by decide +kernel, rfl, by decide +kernel, by decide +kernel⟩
abbrev s_length_of : Stmt := topS 31
theorem sc_length_of : FnScope ["pieces", "_", "times"] ["pieces"] (defScope s_length_of) := ⟨rfl, rfl, rfl, by decide +kernel, rfl, by decide +kernel, by decide +kernel⟩
abbrev s_back : Stmt := topS 32
theorem sc_back : FnScope ["steps", "name", "times"] ["steps"] (defScope s_back) := ⟨rfl, rfl, rfl, by decide +kernel, rfl, by decide +kernel, by decide +kernel⟩
abbrev s_distance : Stmt := topS 34
theorem sc_distance : FnScope ["field", "one", "other", "pieces", "others"] ["field", "one", "other"] (defScope s_distance) := ⟨rfl, rfl, rfl, by decide +kernel, rfl, by decide +kernel, by decide +kernel⟩
abbrev s_is_between : Stmt := topS 35
theorem sc_is_between : FnScope ["field", "one", "other", "far", "near", "middle", "end", "touch"] ["field", "one", "other", "far"] (defScope s_is_between) := ⟨rfl, rfl, rfl, by decide +kernel, rfl, by decide +kernel, by decide +kernel⟩
abbrev s_leading : Stmt := topS 36
theorem sc_leading : FnScope ["touch", "one", "other"] ["touch", "one", "other"] (defScope s_leading) := ⟨rfl, rfl, rfl, by decide +kernel, rfl, by decide +kernel, by decide +kernel⟩
abbrev s_distance_of : Stmt := topS 37
theorem sc_distance_of : FnScope ["touch", "one", "other"] ["touch", "one", "other"] (defScope s_distance_of) := ⟨rfl, rfl, rfl, by decide +kernel, rfl, by decide +kernel, by decide +kernel⟩
abbrev s__law_mixed : Stmt := topS 39
theorem sc__law_mixed : FnScope ["cell", "n", "blend"] ["cell", "n"] (defScope s__law_mixed) := ⟨rfl, rfl, rfl, by decide +kernel, rfl, by decide +kernel, by decide +kernel⟩
abbrev s__law_folded : Stmt := topS 40
theorem sc__law_folded : FnScope ["script", "found", "n", "cell"] ["script"] (defScope s__law_folded) := ⟨rfl, rfl, rfl, by decide +kernel, rfl, by decide +kernel, by decide +kernel⟩
abbrev s__law_draw : Stmt := topS 41
theorem sc__law_draw : FnScope ["m", "limit", "n", "lot", "here", "cell"] ["m", "limit"] (defScope s__law_draw) := ⟨rfl, rfl, rfl, by decide +kernel, rfl, by decide +kernel, by decide +kernel⟩
abbrev s__law_begun : Stmt := topS 42
theorem sc__law_begun : FnScope ["script", "m", "cell"] ["script"] (defScope s__law_begun) := ⟨rfl, rfl, rfl, by decide +kernel, rfl, by decide +kernel, by decide +kernel⟩
abbrev s__law_like : Stmt := topS 43
theorem sc__law_like : FnScope ["answer", "due"] ["answer", "due"] (defScope s__law_like) := ⟨rfl, rfl, rfl, by decide +kernel, rfl, by decide +kernel, by decide +kernel⟩
abbrev s__law_field : Stmt := topS 44
theorem sc__law_field : FnScope ["m", "most", "names", "some", "k", "other", "pair"] ["m", "most"] (defScope s__law_field) := ⟨rfl, rfl, rfl, by decide +kernel, rfl, by decide +kernel, by decide +kernel⟩
abbrev s__law_steps : Stmt := topS 45
theorem sc__law_steps : FnScope ["m", "field", "most", "great", "found", "k", "times"] ["m", "field", "most", "great"] (defScope s__law_steps) := ⟨rfl, rfl, rfl, by decide +kernel, rfl, by decide +kernel, by decide +kernel⟩
abbrev s__law_apart : Stmt := topS 46
theorem sc__law_apart : FnScope ["field", "one", "other"] ["field", "one", "other"] (defScope s__law_apart) := ⟨rfl, rfl, rfl, by decide +kernel, rfl, by decide +kernel, by decide +kernel⟩
abbrev s__law_meet : Stmt := topS 47
theorem sc__law_meet : FnScope ["field", "steps", "k", "far"] ["field", "steps"] (defScope s__law_meet) := ⟨rfl, rfl, rfl, by decide +kernel, rfl, by decide +kernel, by decide +kernel⟩
abbrev s__law_pile : Stmt := topS 48
theorem sc__law_pile : FnScope ["field", "steps", "found", "pair", "name", "times"] ["field", "steps"] (defScope s__law_pile) := ⟨rfl, rfl, rfl, by decide +kernel, rfl, by decide +kernel, by decide +kernel⟩
abbrev s__law_firsts : Stmt := topS 49
theorem sc__law_firsts : FnScope ["field", "steps", "found", "k", "step"] ["field", "steps"] (defScope s__law_firsts) := ⟨rfl, rfl, rfl, by decide +kernel, rfl, by decide +kernel, by decide +kernel⟩
abbrev s__law_least : Stmt := topS 50
theorem sc__law_least : FnScope ["field", "steps", "left", "found", "k", "far"] ["field", "steps"] (defScope s__law_least) := ⟨rfl, rfl, rfl, by decide +kernel, rfl, by decide +kernel, by decide +kernel⟩
abbrev s__law_back : Stmt := topS 51
theorem sc__law_back : FnScope ["steps", "name", "times"] ["steps"] (defScope s__law_back) := ⟨rfl, rfl, rfl, by decide +kernel, rfl, by decide +kernel, by decide +kernel⟩
abbrev s__law_length : Stmt := topS 52
theorem sc__law_length : FnScope ["field", "steps", "name", "times"] ["field", "steps"] (defScope s__law_length) := ⟨rfl, rfl, rfl, by decide +kernel, rfl, by decide +kernel, by decide +kernel⟩
abbrev s__law_far : Stmt := topS 53
theorem sc__law_far : FnScope ["field", "one", "other"] ["field", "one", "other"] (defScope s__law_far) := ⟨rfl, rfl, rfl, by decide +kernel, rfl, by decide +kernel, by decide +kernel⟩
abbrev s_law : Stmt := topS 54
theorem sc_law : FnScope ["script", "m", "turn", "field", "one", "two", "three", "far", "near", "rest", "told_so", "part", "k", "name", "times"] ["script"] (defScope s_law) := ⟨rfl, rfl, rfl, by decide +kernel, rfl, by decide +kernel, by decide +kernel⟩
structure Tx (K : PySem.W.Frag) (mg : Str → Option Value) : Prop where
  b_ValueError : mg "ValueError" = none
  b_abs : mg "abs" = none
  b_all : mg "all" = none
  b_bool : mg "bool" = none
  b_enumerate : mg "enumerate" = none
  b_int : mg "int" = none
  b_isinstance : mg "isinstance" = none
  b_len : mg "len" = none
  b_list : mg "list" = none
  b_max : mg "max" = none
  b_min : mg "min" = none
  b_range : mg "range" = none
  b_repr : mg "repr" = none
  b_str : mg "str" = none
  b_sum : mg "sum" = none
  b_tuple : mg "tuple" = none
  b_zip : mg "zip" = none
  g_MOST_NAMES : ∃ t, mg "MOST_NAMES" = some (.int (6) t)
  g_MOST_LETTERS : ∃ t, mg "MOST_LETTERS" = some (.int (6) t)
  g_MOST_STEPS : ∃ t, mg "MOST_STEPS" = some (.int (60) t)
  g_MOST_TIMES : ∃ t, mg "MOST_TIMES" = some (.int (10 ^ 30) t)
  d_is_whole : Dn K mg "is_whole" s_is_whole
  d_is_pair : Dn K mg "is_pair" s_is_pair
  d_is_ascending : Dn K mg "is_ascending" s_is_ascending
  d_need_field : Dn K mg "need_field" s_need_field
  d_touch_table : Dn K mg "touch_table" s_touch_table
  d_names_touching : Dn K mg "names_touching" s_names_touching
  d_are_apart : Dn K mg "are_apart" s_are_apart
  d_are_names : Dn K mg "are_names" s_are_names
  d_is_name : Dn K mg "is_name" s_is_name
  d_are_pairs : Dn K mg "are_pairs" s_are_pairs
  d_is_pair_of : Dn K mg "is_pair_of" s_is_pair_of
  d_need_script : Dn K mg "need_script" s_need_script
  d_is_step : Dn K mg "is_step" s_is_step
  d_is_great_step : Dn K mg "is_great_step" s_is_great_step
  d_is_times : Dn K mg "is_times" s_is_times
  d_least_pile : Dn K mg "least_pile" s_least_pile
  d_are_alike : Dn K mg "are_alike" s_are_alike
  d_piled : Dn K mg "piled" s_piled
  d_last_touched : Dn K mg "last_touched" s_last_touched
  d_place_behind : Dn K mg "place_behind" s_place_behind
  d_length_of : Dn K mg "length_of" s_length_of
  d_back : Dn K mg "back" s_back
  d_distance : Dn K mg "distance" s_distance
  d_is_between : Dn K mg "is_between" s_is_between
  d_leading : Dn K mg "leading" s_leading
  d_distance_of : Dn K mg "distance_of" s_distance_of
  d__law_mixed : Dn K mg "_law_mixed" s__law_mixed
  d__law_folded : Dn K mg "_law_folded" s__law_folded
  d__law_draw : Dn K mg "_law_draw" s__law_draw
  d__law_begun : Dn K mg "_law_begun" s__law_begun
  d__law_like : Dn K mg "_law_like" s__law_like
  d__law_field : Dn K mg "_law_field" s__law_field
  d__law_steps : Dn K mg "_law_steps" s__law_steps
  d__law_apart : Dn K mg "_law_apart" s__law_apart
  d__law_meet : Dn K mg "_law_meet" s__law_meet
  d__law_pile : Dn K mg "_law_pile" s__law_pile
  d__law_firsts : Dn K mg "_law_firsts" s__law_firsts
  d__law_least : Dn K mg "_law_least" s__law_least
  d__law_back : Dn K mg "_law_back" s__law_back
  d__law_length : Dn K mg "_law_length" s__law_length
  d__law_far : Dn K mg "_law_far" s__law_far
  d_law : Dn K mg "law" s_law
end XB
set_option Elab.async false
set_option linter.all false
set_option maxRecDepth 100000
set_option maxHeartbeats 4000000
namespace XB
open PySem PySem.Spec PyProof.Rows L2
section
variable {P : Program} {w : World} {K : PySem.W.Frag} {mg : Str → Option Value} {base : Heap}
def spMixed : Sp := fun vs H Q _ => ∃ c n : Int, vs = [.int c, .int n] ∧ 0 ≤ c ∧ c < 1099511627776 ∧ 0 ≤ n ∧ n < 1099511627776 ∧ ∀ r : Int, 0 ≤ r → r < 1099511627 → Q (.int r) H
theorem c_mixed (T : Tx K mg) : Cl P w K mg base CX0 1 "_law_mixed" spMixed := by
  refine cl0 T.d__law_mixed (ps := ["cell", "n"]) (fun _ _ _ _ _ _ us hl => match us, hl with | [_, _], _ => rfl) sc__law_mixed (fun vs H Q E h => ?_) (fun f cdv A outer s H vs Q E hr h => ?_)
  · obtain ⟨c, n, rfl, _⟩ := h
    rfl
  · obtain ⟨c, n, rfl, c0, c1, n0, n1, q⟩ := h
    have nd := sc__law_mixed.nd
    refine ⟨_, pss_cons (ps_set (i := 2) nd rfl (.inl rfl) (pe_op op_add (pe_op op_add
        (pe_op op_mod (pe_callTy call_int1 (by rfl) T.b_int (by decide +kernel) (pa_cons (pe_op op_mul (pe_op op_mul (pv 0) (pe_op op_add pe_int (pe_op op_mul pe_int (pv 1)))) pe_int) pa_nil)) pe_int)
        (pe_op op_mul (pe_op op_mul pe_int (pv 1)) (pv 1))) (pe_op op_mul pe_int (pv 1))))
      (pss_one (ps_ret (pe_op op_fdiv (pe_op op_mod (pe_callTy call_int1 (by rfl) T.b_int (by decide +kernel) (pa_cons (pe_op op_mul (pv 2) pe_int) pa_nil)) pe_int) pe_int))), ?_⟩
    refine ⟨_, rfl, _, rfl, _, _, rfl, rfl, .inl (by constructor <;> omega), _, _, rfl, rfl, _, _, rfl, rfl, .inl (by constructor <;> omega), ?_⟩
    refine ⟨_, _, rfl, rfl, .inr (by decide), .inl ⟨_, rfl, ?_⟩⟩
    refine ⟨_, _, rfl, rfl, (show (0 : Int) < 2147483647 by decide), ?_⟩
    refine ⟨_, rfl, _, _, rfl, rfl, .inl (by decide), _, rfl, _, _, rfl, rfl, .inl (by constructor <;> omega), ?_⟩
    refine ⟨_, _, rfl, rfl, _, rfl, _, _, rfl, rfl, .inl (by decide), _, _, rfl, rfl, ?_⟩
    refine ⟨_, rfl, _, _, rfl, rfl, .inr (by decide), .inl ⟨_, rfl, ?_⟩⟩
    refine ⟨_, _, rfl, rfl, (show (0 : Int) < 2147483629 by decide), _, _, rfl, rfl, ⟨by decide, by decide⟩, ?_⟩
    refine q _ ?_ ?_
    · exact Int.ediv_nonneg (Int.emod_nonneg _ (by decide)) (by decide)
    · have h1 := Int.emod_lt_of_pos (c * (1 + 2 * n) * 48271 % 2147483647 + 7919 * n * n + 104729 * n) (b := 2147483629) (by decide)
      generalize (c * (1 + 2 * n) * 48271 % 2147483647 + 7919 * n * n + 104729 * n) = z
      have h1 := Int.emod_lt_of_pos (z * 69621) (b := 2147483629) (by decide)
      generalize (z * 69621) % 2147483629 = y at h1 ⊢
      show y / 7 < 1099511627
      omega
/-- what a row of numbers is that draws come from -/
structure Good (xs : List Int) : Prop where
  len : xs.length = 64
  bd : ∀ v ∈ xs, 0 ≤ v ∧ v < 2147483647
theorem Good.set {xs : List Int} (g : Good xs) (k : Nat) (z : Int) : Good (xs.set k (z % 2147483647)) := by
  refine ⟨by rw [List.length_set]; exact g.len, fun v hv => ?_⟩
  rcases List.mem_or_eq_of_mem_set hv with h | h
  · exact g.bd v h
  · rw [h]
    exact ⟨Int.emod_nonneg _ (by decide), Int.emod_lt_of_pos _ (by decide)⟩
theorem Good.at (xs : List Int) (g : Good xs) {k : Nat} (h : k < 64) : ∃ v, xs[k]? = some v ∧ 0 ≤ v ∧ v < 2147483647 := by
  have h' : k < xs.length := by rw [g.len]; exact h
  exact ⟨xs[k], List.getElem?_eq_getElem h', g.bd _ (List.getElem_mem h')⟩
theorem mod_nat {z : Int} : ∃ k : Nat, z % 64 = (k : Int) ∧ k < 64 := by
  have h0 := Int.emod_nonneg z (b := 64) (by decide)
  have h1 := Int.emod_lt_of_pos z (b := 64) (by decide)
  exact ⟨(z % 64).toNat, by omega, by omega⟩
def spFolded (K : PySem.W.Frag) : Sp := fun vs H Q _ => ∃ (a : Addr) (ns : List Int), vs = [.ref a] ∧ SqL K H a (ns.map V.int) ∧ ns.length ≤ 1000 ∧
  ∀ H' p xs, Same H H' → H p = none → H' p = some (.lst (xs.map V.int)) → Good xs → Q (.ref p) H'
theorem c_folded (T : Tx K mg) : Cl P w K mg base CX0 1 "_law_folded" (spFolded K) := by
  refine cl0 T.d__law_folded (ps := ["script"]) (fun _ _ _ _ _ _ us hl => match us, hl with | [_], _ => rfl) sc__law_folded (fun vs H Q E h => ?_) (fun f cdv A outer s H vs Q E hr h => ?_)
  · obtain ⟨a, ns, rfl, _⟩ := h
    rfl
  · obtain ⟨a, ns, rfl, hS, hlen, q⟩ := h
    have nd := sc__law_folded.nd
    refine ⟨_, pss_cons (ps_setLc (i := 1) (own := [("n", 2)]) (g := gName 2) (tt := tYes) rfl nd rfl rfl (sw_true rfl rfl rfl (by decide +kernel)) (pi_range1 (by rfl) T.b_range (pa_cons pe_int pa_nil)) (blkOk_by (own := [("n", 2)]) (N := ["script", "found", "n", "cell"]) (sc := defScope s__law_folded) (by decide +kernel))
          (fun _ _ _ _ _ => pg_name (i := 2) nd rfl (Or.inl rfl)) (fun _ _ _ _ _ => pts_nil) (fun _ _ _ _ _ => pe_op op_add pe_int (pv 2)))
      (pss_cons (ps_for PassesOwn.never rfl (pi_enum (by rfl) T.b_enumerate (pa_cons (pv 0) pa_nil)) (pg_tup rfl (pgs_cons (pg_name (i := 2) nd rfl (.inl rfl)) (pgs_cons (pg_name (i := 3) nd rfl (.inl rfl)) pgs_nil)))
        (pss_one (ps_asg (pe_op op_mod (pe_callTy call_int1 (by rfl) T.b_int (by decide +kernel) (pa_cons (pe_op op_add (pe_op op_mul (pe_ix ix_list (pv 1) (pe_op op_mod (pe_callTy call_int1 (by rfl) T.b_int (by decide +kernel) (pa_cons (pv 2) pa_nil)) pe_int) (fun _ _ => rfl)) pe_int) (pv 3)) pa_nil)) pe_int)
          (pg_sub (pv 1) (pe_op op_mod (pe_callTy call_int1 (by rfl) T.b_int (by decide +kernel) (pa_cons (pv 2) pa_nil)) pe_int) set_list))))
      (pss_cons (ps_for PassesOwn.never rfl (pi_range2 (by rfl) T.b_range (pa_cons pe_int (pa_cons pe_int pa_nil))) (pg_name (i := 2) nd rfl (.inl rfl))
        (pss_one (ps_asg (pe_op op_mod (pe_callTy call_int1 (by rfl) T.b_int (by decide +kernel) (pa_cons (pe_op op_add (pe_ix ix_list (pv 1) (pv 2) (fun _ _ => rfl)) (pe_op op_mul (pe_ix ix_list (pv 1) (pe_op op_sub (pv 2) pe_int) (fun _ _ => rfl)) pe_int)) pa_nil)) pe_int)
          (pg_sub (pv 1) (pv 2) set_list))))
      (pss_one (ps_ret (pv 1))))), ?_⟩
    refine ⟨64, rfl, by decide, by decide, fun D hD => ?_⟩
    refine lc_range (lo := 0) (n := 64) (fun i H' => ∃ acc : List Int, H' D = some (.lst (acc.map V.int)) ∧ acc.length = i ∧ (∀ v ∈ acc, 0 ≤ v ∧ v < 2147483647) ∧ Same H H')
      ⟨[], upd_same, rfl, (fun _ h => nomatch h), same_upd hD⟩ (fun i H' hi ⟨acc, eD, el, eb, sm⟩ => ?_) (fun H' ⟨acc, eD, el, eb, sm⟩ => ?_)
    · refine ⟨rfl, yes_ ?_⟩
      refine ⟨_, rfl, _, _, rfl, rfl, _, eD, by rw [List.length_map]; exact small1000 (by omega), acc ++ [17 + (0 + (i : Int))], ?_, by rw [List.length_append, el]; rfl, fun v hv => ?_, same_put sm hD⟩
      · rw [upd_same, List.map_append]
        rfl
      · rcases List.mem_append.mp hv with h | h
        · exact eb v h
        · rw [List.mem_singleton.mp h]
          omega
    · refine ⟨_, rfl, a, ns.map V.int, rfl, sm.seq hS, for_it (walk_enum (xs := ns.map V.int)) (fun i σ H2 => ∃ (xs : List Int) (y2 y3 : Option V), σ = [some (.ref a), some (.ref D), y2, y3] ∧ Same H H2 ∧ H2 D = some (.lst (xs.map V.int)) ∧ Good xs)
        ⟨acc, none, none, rfl, sm, eD, ⟨el, eb⟩⟩ (fun i σ H2 _ ⟨xs, y2, y3, _, s2, _⟩ => s2.seq hS) (fun i x σ H2 H3 hi ⟨xs, y2, y3, eσ, s2, e2, g⟩ hy => ?_) (fun σ H2 ⟨xs, y2, y3, eσ, s2, e2, g⟩ => ?_)⟩
      · obtain ⟨Tt, x1, x2, rfl, nT, rfl, f1, f2⟩ := hy
        subst eσ
        obtain ⟨k, hk, k64⟩ := mod_nat (z := (i : Int))
        obtain ⟨v, hv, v0, v1⟩ := g.at xs k64
        have e1 : x1 = V.int (i : Int) := (Option.some.inj f1).symm
        obtain ⟨z, _, rfl⟩ := int_at f2
        subst e1
        have nDT : D ≠ Tt := ne_of_none e2 nT
        have e3 : upd H2 Tt (.tup [.int (i : Int), .int z]) D = some (.lst (xs.map V.int)) := by
          rw [upd_ne nDT]
          exact e2
        refine ⟨Tt, _, rfl, SqT.of upd_same, rfl, _, _, rfl, _, _, rfl, rfl, ?_⟩
        refine ⟨_, rfl, _, rfl, .inl ⟨_, rfl, _, _, rfl, rfl, (show (0 : Int) < 64 by decide), _, _, _, _, rfl, rfl, SqL.of e3, atI_of hk hv, ?_⟩⟩
        refine ⟨_, _, rfl, rfl, .inr (by decide), _, rfl, _, _, rfl, rfl, .inl ⟨_, rfl, _, _, rfl, rfl, (show (0 : Int) < 2147483647 by decide), ?_⟩⟩
        refine ⟨_, rfl, _, rfl, .inl ⟨_, rfl, _, _, rfl, rfl, (show (0 : Int) < 64 by decide), _, _, _, k, rfl, rfl, e3, ?_, ?_⟩⟩
        · rw [List.length_map, g.len]
          exact ixN_of hk k64
        · refine ⟨_, _, _, rfl, same_put (same_new s2 nT) hD, by rw [upd_same, map_set], g.set k _⟩
      · subst eσ
        refine ⟨1, 64, rfl, by decide, for_range (lo := 1) (n := 63) (fun i σ H3 => ∃ (xs : List Int) (y2 y3 : Option V), σ = [some (.ref a), some (.ref D), y2, y3] ∧ Same H H3 ∧ H3 D = some (.lst (xs.map V.int)) ∧ Good xs)
          ⟨xs, y2, y3, rfl, s2, e2, g⟩ (fun i σ H3 hi ⟨xs, y2, y3, eσ, s3, e3, g⟩ => ?_) (fun σ H3 ⟨xs, y2, y3, eσ, s3, e3, g⟩ => ?_)⟩
        · subst eσ
          obtain ⟨v, hv, v0, v1⟩ := g.at xs (k := i + 1) (by omega)
          obtain ⟨u, hu, u0, u1⟩ := g.at xs (k := i) (by omega)
          refine ⟨_, rfl, _, rfl, _, _, _, _, rfl, rfl, SqL.of e3, atI_of (k := i + 1) (by omega) hv, ?_⟩
          refine ⟨_, rfl, _, rfl, _, _, rfl, rfl, _, _, _, _, rfl, rfl, SqL.of e3, atI_of (k := i) (by omega) hu, ?_⟩
          refine ⟨_, _, rfl, rfl, .inr (by decide), _, _, rfl, rfl, .inl ⟨_, rfl, _, _, rfl, rfl, (show (0 : Int) < 2147483647 by decide), ?_⟩⟩
          refine ⟨_, rfl, _, rfl, _, _, _, i + 1, rfl, rfl, e3, ?_, ?_⟩
          · rw [List.length_map, g.len]
            exact ixN_of (by omega) (by omega)
          · exact ⟨_, _, _, rfl, same_put s3 hD, by rw [upd_same, map_set], g.set _ _⟩
        · subst eσ
          exact ⟨_, rfl, q _ _ _ s3 hD e3 g⟩
end
end XB
set_option Elab.async false
set_option linter.all false
set_option maxRecDepth 100000
set_option maxHeartbeats 4000000
namespace XB
open PySem PySem.Spec PyProof.Rows L2
/-! ### the draws' state: a dict of two rows and a number -/
abbrev kCells : Key := .inr "cells"
abbrev kGreat : Key := .inr "great"
abbrev kSpot : Key := .inr "spot"
def drawn (c g : Addr) (s : Int) : List (Key × V) := [(kCells, .ref c), (kGreat, .ref g), (kSpot, .int s)]
theorem drawn_spot (c g : Addr) (s : Int) : valV (drawn c g s) kSpot = some (.int s) := by rfl
theorem drawn_great (c g : Addr) (s : Int) : valV (drawn c g s) kGreat = some (.ref g) := by rfl
theorem drawn_cells (c g : Addr) (s : Int) : valV (drawn c g s) kCells = some (.ref c) := by rfl
theorem drawn_put (c g : Addr) (s z : Int) : putK (drawn c g s) kSpot (.int z) = drawn c g z := by rfl
structure Dr (H : Hp) (m c g : Addr) (s : Int) : Prop where
  ex : ∃ cs gs : List Int, H m = some (.dK (drawn c g s)) ∧ H c = some (.lst (cs.map V.int)) ∧ H g = some (.lst (gs.map V.int)) ∧ Good cs ∧ gs.length ≤ 1000
  ne : c ≠ g
  s0 : 0 ≤ s
/-- all but the draws' state stands -/
def Kp (m g : Addr) (H H' : Hp) : Prop := ∀ b o, b ≠ m → b ≠ g → H b = some o → H' b = some o
theorem Kp.refl {m g : Addr} {H : Hp} : Kp m g H H := fun _ _ _ _ e => e
theorem Kp.trans {m g : Addr} {H H1 H2 : Hp} (a : Kp m g H H1) (b : Kp m g H1 H2) : Kp m g H H2 := fun x o h1 h2 e => b x o h1 h2 (a x o h1 h2 e)
theorem Kp.of {m g : Addr} {H H1 : Hp} (a : Same H H1) : Kp m g H H1 := fun x o _ _ e => a x o e
theorem Kp.putM {m g : Addr} {H H1 : Hp} {o : HO} (a : Kp m g H H1) : Kp m g H (upd H1 m o) := fun x u h1 h2 e => by
  rw [upd_ne h1]
  exact a x u h1 h2 e
theorem Kp.putG {m g : Addr} {H H1 : Hp} {o : HO} (a : Kp m g H H1) : Kp m g H (upd H1 g o) := fun x u h1 h2 e => by
  rw [upd_ne h2]
  exact a x u h1 h2 e
theorem Kp.new {m g p : Addr} {H H1 : Hp} {o : HO} (a : Kp m g H H1) (hp : H1 p = none) : Kp m g H (upd H1 p o) := fun x u h1 h2 e => by
  rw [upd_ne (ne_of_none (a x u h1 h2 e) hp)]
  exact a x u h1 h2 e
theorem dpInts {K : PySem.W.Frag} {H : Hp} : ∀ gs : List Int, DpAll K H (gs.map V.int) (gs.map PyData.int)
  | [] => .nil
  | x :: r => .cons (.int x) (dpInts r)
theorem layInts : ∀ gs : List Int, PyData.canLayAll0 (gs.map PyData.int) = true
  | [] => rfl
  | x :: r => by
    show (PyData.canLay0 (.int x) && PyData.canLayAll0 (r.map PyData.int)) = true
    rw [layInts r]
    rfl
theorem deepInts : ∀ gs : List Int, PyData.depthAll (gs.map PyData.int) = 0
  | [] => rfl
  | x :: r => by
    show max (PyData.depth (.int x)) (PyData.depthAll (r.map PyData.int)) = 0
    rw [deepInts r]
    rfl
theorem shInts (gs : List Int) : SeqAt.shaped (.list (gs.map PyData.int)) = true := by
  show (PyData.canLayAll0 (gs.map PyData.int) && decide (PyData.depthAll (gs.map PyData.int) + 1 ≤ 64)) = true
  rw [layInts, deepInts]
  rfl
theorem neInts (gs : List Int) : PyData.eqv (.list (gs.map .int)) (.list []) = gs.isEmpty := by
  cases gs <;> rfl
section
variable {P : Program} {w : World} {K : PySem.W.Frag} {mg : Str → Option Value} {base : Heap}
def spDraw : Sp := fun vs H Q _ => ∃ (m c g : Addr) (s lim : Int), vs = [.ref m, .int lim] ∧ Dr H m c g s ∧ 0 < lim ∧ lim < 1073741824 ∧ s < 1073741824 ∧
  ∀ r H', 0 ≤ r → r < lim → Dr H' m c g (s + 1) → Kp m g H H' → Q (.int r) H'
theorem c_draw (T : Tx K mg) : Cl P w K mg base CX0 2 "_law_draw" spDraw := by
  refine cl0 T.d__law_draw (ps := ["m", "limit"]) (fun _ _ _ _ _ _ us hl => match us, hl with | [_, _], _ => rfl) sc__law_draw (fun vs H Q E h => ?_) (fun f cdv A outer st H vs Q E hr h => ?_)
  · obtain ⟨m, c, g, s, lim, rfl, _⟩ := h
    rfl
  · obtain ⟨m, c, g, s, lim, rfl, D, l0, l1, s1, q⟩ := h
    obtain ⟨⟨cs, gs, em, ec, eg, gc, gl⟩, ncg, s0⟩ := D
    have nd := sc__law_draw.nd
    have hu := hu_of hr
    refine ⟨_, pss_cons (ps_set (i := 2) nd rfl (.inl rfl) (pe_dget hu (pv 0) pe_str (fun _ _ => rfl)))
      (pss_cons (ps_dput hu (pv 0) pe_str (pe_op op_add (pv 2) pe_int) rfl)
      (C8.pss_cut (ps_if (pt_cmpR (op_neD hr.units) (pe_dget hu (pv 0) pe_str (fun _ _ => rfl)) (pe_lst pa_nil) (nomark _))
        (pss_cons (ps_set (i := 3) nd rfl (.inl rfl) (pe_dget hu (pv 0) pe_str (fun _ _ => rfl)))
        (pss_cons (ps_set (i := 4) nd rfl (.inl rfl) (pe_op op_mod (pe_callTy call_int1 (by rfl) T.b_int (by decide +kernel) (pa_cons (pv 2) pa_nil)) (pe_callB call_len_seq (by rfl) T.b_len PySem.boot_len (pa_cons (pv 3) pa_nil))))
        (pss_cons (ps_set (i := 5) nd rfl (.inl rfl) (pe_ix ix_list (pv 3) (pv 4) (fun _ _ => rfl)))
        (pss_one (ps_if (pt_cmpR op_gt (pv 5) pe_int (nomark _))
          (pss_cons (ps_asg (pe_op op_fdivW (pv 5) (pv 1)) (pg_sub (pv 3) (pv 4) set_list))
          (pss_one (ps_ret (pe_op op_mod (pe_callTy call_int1 (by rfl) T.b_int (by decide +kernel) (pa_cons (pv 5) pa_nil)) (pv 1))))) pss_nil)))))
        pss_nil)
      (pss_cons (ps_set (i := 3) nd rfl (.inl rfl) (pe_dget hu (pv 0) pe_str (fun _ _ => rfl)))
      (pss_one (ps_ret (pe_op op_mod (pe_callTy call_int1 (by rfl) T.b_int (by decide +kernel) (pa_cons
        (pe_k (c_mixed T) hr (by decide) (by rfl) (pa_cons
          (pe_k (c_mixed T) hr (by decide) (by rfl) (pa_cons (pe_op op_add (pe_ix ix_list (pv 3) (pe_op op_mod (pe_callTy call_int1 (by rfl) T.b_int (by decide +kernel) (pa_cons (pv 2) pa_nil)) pe_int) (fun _ _ => rfl)) (pe_op op_mul pe_int (pe_op op_fdiv (pv 2) pe_int))) (pa_cons (pv 2) pa_nil)))
          (pa_cons (pe_op op_add (pv 2) pe_int) pa_nil))) pa_nil)) (pv 1))))))), ?_⟩
    have nmc : m ≠ c := ne_of em ec (by intro z; cases z)
    have nmg : m ≠ g := ne_of em eg (by intro z; cases z)
    refine ⟨_, rfl, m, _, rfl, DGet.k (k := kSpot) em, ?_⟩
    refine ⟨_, rfl, _, _, rfl, rfl, _, rfl, m, _, rfl, DPut.k (k := kSpot) em (by show 3 < sizeLine; decide), ?_⟩
    have em1 : upd H m (.dK (putK (drawn c g s) kSpot (.int (s + 1)))) m = some (.dK (drawn c g (s + 1))) := upd_same
    generalize hH1 : upd H m (.dK (putK (drawn c g s) kSpot (.int (s + 1)))) = H1 at em1
    have ec1 : H1 c = some (.lst (cs.map V.int)) := by
      rw [← hH1, upd_ne nmc.symm]
      exact ec
    have eg1 : H1 g = some (.lst (gs.map V.int)) := by
      rw [← hH1, upd_ne nmg.symm]
      exact eg
    have k1 : Kp m g H H1 := by
      rw [← hH1]
      exact Kp.refl.putM
    refine ⟨fun σ H' => ∃ y3 y4 y5, σ = [some (.ref m), some (.int lim), some (.int s), y3, y4, y5] ∧ Dr H' m c g (s + 1) ∧ Kp m g H H', ?_, ?_⟩
    · refine ⟨_, rfl, m, _, rfl, DGet.k (k := kGreat) em1, Nat.zero_le _, fun p hp => ?_⟩
      have em2 := (same_upd (o := .lst []) hp) m _ em1
      have ec2 := (same_upd (o := .lst []) hp) c _ ec1
      have eg2 := (same_upd (o := .lst []) hp) g _ eg1
      have k2 : Kp m g H (upd H1 p (.lst [])) := k1.new hp
      have ep2 : upd H1 p (.lst []) p = some (.lst []) := upd_same
      generalize upd H1 p (.lst []) = H2 at em2 ec2 eg2 k2 ep2 ⊢
      refine ⟨.list (gs.map .int), .list [], .lst (SqL.of eg2) (dpInts gs), .lst (SqL.of ep2) .nil, shInts gs, rfl, _, rfl, ?_⟩
      refine ite2 (fun hne => ?_) (fun _ => ⟨_, _, _, rfl, ⟨⟨cs, gs, em2, ec2, eg2, gc, gl⟩, ncg, by omega⟩, k2⟩)
      have hpos : 0 < gs.length := by
        rw [neInts] at hne
        cases gs with
        | nil => exact absurd hne (by decide)
        | cons _ _ => exact Nat.succ_pos _
      refine ⟨_, rfl, m, _, rfl, DGet.k (k := kGreat) em2, ?_⟩
      refine ⟨_, rfl, .inl ⟨_, rfl, _, rfl, g, _, rfl, .inl (SqL.of eg2), _, _, rfl, rfl, ?_, ?_⟩⟩
      · show (0 : Int) < ((gs.map V.int).length : Int)
        rw [List.length_map]
        omega
      have h0 := Int.emod_nonneg s (b := ((gs.map V.int).length : Int)) (by rw [List.length_map]; omega)
      have h1 := Int.emod_lt_of_pos s (b := ((gs.map V.int).length : Int)) (by rw [List.length_map]; omega)
      rw [List.length_map] at h0 h1
      obtain ⟨k, hk⟩ : ∃ k : Nat, s % (gs.length : Int) = (k : Int) := ⟨(s % (gs.length : Int)).toNat, by omega⟩
      have hkl : k < gs.length := by omega
      have hk' : s % ((gs.map V.int).length : Int) = (k : Int) := by
        rw [List.length_map]
        exact hk
      refine ⟨_, rfl, _, rfl, _, _, _, _, rfl, rfl, SqL.of eg2, atI_of hk' (List.getElem?_eq_getElem hkl), ?_⟩
      refine ⟨_, rfl, _, _, rfl, rfl, _, rfl, ?_⟩
      refine ite2 (fun hp => ?_) (fun _ => ⟨_, _, _, rfl, ⟨⟨cs, gs, em2, ec2, eg2, gc, gl⟩, ncg, by omega⟩, k2⟩)
      refine ⟨_, rfl, _, rfl, _, _, rfl, rfl, wide_div l0 (b := 31) (by omega) (by decide) (by decide), ?_⟩
      refine ⟨_, rfl, _, rfl, _, _, _, k, rfl, rfl, eg2, ixN_of hk' (by rw [List.length_map]; exact hkl), ?_⟩
      refine ⟨_, rfl, .inl ⟨_, rfl, _, rfl, _, _, rfl, rfl, l0, ?_⟩⟩
      refine q _ _ (Int.emod_nonneg _ (by omega)) (Int.emod_lt_of_pos _ l0) ⟨⟨cs, _, ?_, ?_, by rw [upd_same, map_set], gc, by rw [List.length_set]; exact gl⟩, ncg, by omega⟩ k2.putG
      · rw [upd_ne nmg]
        exact em2
      · rw [upd_ne ncg]
        exact ec2
    · rintro σ H3 ⟨y3, y4, y5, rfl, ⟨⟨cs, gs, em3, ec3, eg3, gc3, gl3⟩, _, _⟩, k3⟩
      obtain ⟨k, hk, k64⟩ := mod_nat (z := s)
      obtain ⟨v, hv, v0, v1⟩ := gc3.at cs k64
      refine ⟨_, rfl, m, _, rfl, DGet.k (k := kCells) em3, ?_⟩
      refine ⟨_, rfl, _, rfl, .inl ⟨_, rfl, _, _, rfl, rfl, (show (0 : Int) < 64 by decide), _, _, _, _, rfl, rfl, SqL.of ec3, atI_of hk hv, ?_⟩⟩
      refine ⟨_, rfl, _, _, rfl, rfl, ⟨by decide, by decide⟩, _, _, rfl, rfl, .inl (by decide), _, _, rfl, rfl, ?_⟩
      refine ⟨_, rfl, _, _, rfl, by omega, by omega, s0, by omega, fun r1 a0 a1 => ?_⟩
      refine ⟨_, rfl, _, _, rfl, rfl, _, _, rfl, a0, by omega, by omega, by omega, fun r2 b0 b1 => ?_⟩
      refine .inl ⟨_, rfl, _, rfl, _, _, rfl, rfl, l0, ?_⟩
      exact q _ _ (Int.emod_nonneg _ (by omega)) (Int.emod_lt_of_pos _ l0) ⟨⟨cs, gs, em3, ec3, eg3, gc3, gl3⟩, ncg, by omega⟩ k3
end
end XB
set_option Elab.async false
set_option linter.all false
set_option maxRecDepth 100000
set_option maxHeartbeats 4000000
namespace XB
open PySem PySem.Spec PyProof.Rows L2
section
variable {P : Program} {w : World} {K : PySem.W.Frag} {mg : Str → Option Value} {base : Heap}
def spBegun (K : PySem.W.Frag) : Sp := fun vs H Q _ => ∃ (a : Addr) (ns : List Int), vs = [.ref a] ∧ SqL K H a (ns.map V.int) ∧ ns.length ≤ 1000 ∧
  ∀ H' m c g, Same H H' → H m = none → H c = none → H g = none → Dr H' m c g 0 → Q (.ref m) H'
theorem c_begun (T : Tx K mg) : Cl P w K mg base CX0 2 "_law_begun" (spBegun K) := by
  refine cl0 T.d__law_begun (ps := ["script"]) (fun _ _ _ _ _ _ us hl => match us, hl with | [_], _ => rfl) sc__law_begun (fun vs H Q E h => ?_) (fun f cdv A outer st H vs Q E hr h => ?_)
  · obtain ⟨a, ns, rfl, _⟩ := h
    rfl
  · obtain ⟨a, ns, rfl, hS, hlen, q⟩ := h
    have nd := sc__law_begun.nd
    have hu := hu_of hr
    refine ⟨_, pss_cons (ps_set (i := 1) nd rfl (.inl rfl) (pe_disp (pps_cons pe_str (pe_k (c_folded T) hr (by decide) (by rfl) (pa_cons (pv 0) pa_nil)) (pps_cons pe_str (pe_lst pa_nil) (pps_cons pe_str pe_int pps_nil))) (by rfl) (by rfl) (fun z => by cases z) (by decide)))
      (pss_cons (ps_dput hu (pv 1) pe_str (pe_lc (own := [("cell", 2)]) (g := gName 2) (tt := tYes) (by rfl) nd (pi_list (pv 0)) (blkOk_by (own := [("cell", 2)]) (N := ["script", "m", "cell"]) (sc := defScope s__law_begun) (by decide +kernel))
          (fun _ _ _ _ _ => pg_name (i := 2) nd rfl (Or.inl rfl)) (fun _ _ _ _ _ => pts_nil) (fun _ _ _ _ _ => pe_ifExp (pt_cmpR op_ge (pv 2) (pe_op op_pow pe_int pe_int) (nomark _)) (pv 2) pe_int)) rfl)
      (pss_one (ps_ret (pv 1)))), ?_⟩
    refine fun m hm => ?_
    have s1 : Same H (upd H m (.dK [])) := same_upd hm
    refine ⟨_, rfl, a, ns, rfl, s1.seq hS, hlen, fun H1 c cs sm nc ec gc => ?_⟩
    have hc0 : H c = none := s1.free nc
    have nmc : m ≠ c := fun e => by
      rw [← e, upd_same] at nc
      cases nc
    have em1 : H1 m = some (.dK []) := sm _ _ upd_same
    refine ⟨Nat.zero_le _, fun g0 hg0 => ?_⟩
    have em2 : upd H1 g0 (.lst []) m = some (.dK []) := (same_upd (o := .lst []) hg0) _ _ em1
    have ec2 : upd H1 g0 (.lst []) c = some (.lst (cs.map V.int)) := (same_upd (o := .lst []) hg0) _ _ ec
    have s2 : Same H (upd H1 g0 (.lst [])) := (s1.trans sm).trans (same_upd hg0)
    generalize upd H1 g0 (.lst []) = H2 at em2 ec2 s2 ⊢
    refine ⟨em2, [(kCells, .ref c), (kGreat, .ref g0), (kSpot, .int 0)], rfl, by show 3 ≤ 15; decide, ?_⟩
    have em3 : upd H2 m (.dK (mergeK [] [(kCells, .ref c), (kGreat, .ref g0), (kSpot, .int 0)])) m = some (.dK (drawn c g0 0)) := by
      rw [upd_same]
      rfl
    have ec3 : upd H2 m (.dK (mergeK [] [(kCells, .ref c), (kGreat, .ref g0), (kSpot, .int 0)])) c = some (.lst (cs.map V.int)) := by
      rw [upd_ne nmc.symm]
      exact ec2
    have s3 : Same H (upd H2 m (.dK (mergeK [] [(kCells, .ref c), (kGreat, .ref g0), (kSpot, .int 0)]))) := same_put s2 hm
    generalize upd H2 m (.dK (mergeK [] [(kCells, .ref c), (kGreat, .ref g0), (kSpot, .int 0)])) = H3 at em3 ec3 s3 ⊢
    refine ⟨_, rfl, a, rfl, ⟨_, s3.seq hS⟩, fun g hg => ?_⟩
    have hgH : H g = none := s3.free hg
    refine lc_list (K := K) (a := a) (xs := ns.map V.int) (fun i H' => ∃ acc : List Int, H' g = some (.lst (acc.map V.int)) ∧ acc.length = i ∧ Same H H' ∧ H' m = some (.dK (drawn c g0 0)) ∧ H' c = some (.lst (cs.map V.int)))
      ⟨[], upd_same, rfl, same_new s3 hg, (same_upd hg) _ _ em3, (same_upd hg) _ _ ec3⟩ (fun i H' _ ⟨_, _, _, s', _⟩ => s'.seq hS) (fun i x H' hi ⟨acc, eg, el, s', em', ec'⟩ => ?_) (fun H' ⟨acc, eg, el, s', em', ec'⟩ => ?_)
    · obtain ⟨z, hz, rfl⟩ := int_at hi
      have hil : i < ns.length := (List.getElem?_eq_some_iff.mp hz).1
      have nmg : m ≠ g := ne_of em' eg (by intro z; cases z)
      have ncg : c ≠ g := fun e => by
        rw [← e, ec3] at hg
        cases hg
      refine ⟨rfl, yes_ ?_⟩
      refine ⟨_, rfl, _, _, rfl, rfl, ⟨by decide, by decide, by decide⟩, _, _, rfl, rfl, _, rfl, ?_⟩
      have fin : ∀ y : Int, ∃ acc_1, H' g = some (.lst acc_1) ∧ acc_1.length < sizeLine ∧ ∃ acc2 : List Int, upd H' g (.lst (acc_1 ++ [V.int y])) g = some (.lst (acc2.map V.int)) ∧ acc2.length = i + 1 ∧ Same H (upd H' g (.lst (acc_1 ++ [V.int y]))) ∧
          upd H' g (.lst (acc_1 ++ [V.int y])) m = some (.dK (drawn c g0 0)) ∧ upd H' g (.lst (acc_1 ++ [V.int y])) c = some (.lst (cs.map V.int)) := fun y => by
        refine ⟨_, eg, by rw [List.length_map, el]; exact small1000 (by omega), acc ++ [y], ?_, by rw [List.length_append, el]; rfl, same_put s' hgH, ?_, ?_⟩
        · rw [upd_same, List.map_append]
          rfl
        · rw [upd_ne nmg]
          exact em'
        · rw [upd_ne ncg]
          exact ec'
      refine ite2 (fun _ => ?_) (fun _ => ?_)
      · exact ⟨_, rfl, fin z⟩
      · exact fin 0
    · have nmg : m ≠ g := ne_of em' eg (by intro z; cases z)
      have ncg : c ≠ g := fun e => by
        rw [← e, ec3] at hg
        cases hg
      refine ⟨_, rfl, m, _, rfl, DPut.k (k := kGreat) em' (by show 3 < sizeLine; decide), _, rfl, ?_⟩
      refine q _ m c g (same_put s' hm) hm hc0 hgH ⟨⟨cs, acc, ?_, ?_, ?_, gc, ?_⟩, ncg, Int.le_refl _⟩
      · rw [upd_same]
        rfl
      · rw [upd_ne nmc.symm]
        exact ec'
      · rw [upd_ne nmg.symm]
        exact eg
      · rw [el, List.length_map]
        exact hlen
end
end XB
set_option Elab.async false
set_option linter.all false
set_option maxRecDepth 100000
set_option maxHeartbeats 4000000
/-! promises of defs that may ask for repr: no repr runs around them -/
namespace XB
open PySem PySem.Spec PyProof.Rows L2
section
variable {P : Program} {w : World} {K : PySem.W.Frag} {mg : Str → Option Value} {base : Heap} {CX : CXT}
/-- a promise that is kept where no repr runs around -/
structure FnG (P : Program) (w : World) (K : PySem.W.Frag) (mg : Str → Option Value) (base : Heap) (CX : CXT) (lev : Nat) (at_ : Addr) (fdat : FuncData) (pars : List Str) (sp : Sp) : Prop where
  many : ∀ vs H Q E, sp vs H Q E → vs.length = pars.length
  goes : ∀ {A : Around} {outer : List Env} {s : Shared} {H : Hp} {args : Args} {us : List Value} {vs : List V} {Q : VK} {E : XK}, A.guards = some [] → Room lev A → Env0 P w K mg base A outer s H →
    BindsTo s fdat args (pars.zip us) → Vals vs us → sp vs H Q E → codeAny (model P w) A (.call (.ref at_) args) (CR CX outer P w H s Q E) s
theorem FnOk.toG {k : Nat} {f : Addr} {fd : FuncData} {ps : List Str} {sp : Sp} (F : FnOk P w K mg base CX k f fd ps sp) : FnG P w K mg base CX k f fd ps sp :=
  ⟨F.len, fun _ hr e0 hb r h => F.run _ _ _ _ _ _ _ _ _ hr e0 hb r h⟩
theorem FnG.mono {j k : Nat} {f : Addr} {fd : FuncData} {ps : List Str} {sp : Sp} (F : FnG P w K mg base CX j f fd ps sp) (h : j ≤ k) : FnG P w K mg base CX k f fd ps sp :=
  ⟨F.many, fun hg hr => F.goes hg (hr.mono h)⟩
/-- the def's body, where no repr runs around -/
theorem fng_of {k : Nat} {f : Addr} {nm ql : Str} {pars : Arguments} {bd : List Stmt} {sc : Scope} {d1 d2 d3 d4 cdv d5 d6 : Value} {o1 o2 : Option Addr} {osl : Array (Option Value)} {N ps : List Str} {sp : Sp}
    (lk : K.lookup f = some ⟨d6, o2, .func (PySem.W.fnOf nm ql pars bd sc d1 d2 d3 d4 o1 cdv d5), osl⟩) (hcd : PySem.W.codeIn K cdv ql = true) (S : FnScope N ps sc) (len : ∀ vs H Q E, sp vs H Q E → vs.length = ps.length)
    (hbody : ∀ (A : Around) (outer : List Env) (s : Shared) (H : Hp) (vs : List V) (Q : VK) (E : XK), A.guards = some [] → Room k (A.deeper (envOfC ql sc s.heap.objs.size f cdv)) → sp vs H Q E →
      ∃ t, PSs (cxOf CX P w K mg base N ql sc f cdv A outer s H E) bd t ∧ t { nx := fun _ H' => Q .non H', rt := Q } (start N vs) H) :
    FnG P w K mg base CX (k + 1) f (PySem.W.fnOf nm ql pars bd sc d1 d2 d3 d4 o1 cdv d5) ps sp := by
  constructor
  · exact len
  · intro A outer s H args us vs Q E hgu hr e0 hbd rel hsp
    have stays : ∀ b o, base.get? b = some o → s.heap.get? b = some o := fun b o e => (e0.bs b o e).1
    have KX : K.In s.heap := e0.mod.kin.keeps stays
    have kinds : ∀ y ∈ ps.zip us, sc.names.lookup y.1 = some .local ∨ (sc.names.lookup y.1 = some .cell ∧ ((cellsFrom (s.heap.objs.size + 1) sc.names []).lookup y.1).isSome = true) := by
      rintro ⟨x, v⟩ hy
      exact (S.par x (List.of_mem_zip hy).1).imp id fun q => ⟨q, PySem.W.cellsFrom_some _ _ _ (.inl q)⟩
    refine codeAny_call_function hr.depth (KX _ _ lk) rfl S.co S.gen rfl (PySem.W.codeRec_of KX hcd) (hbd _ _ _ _ ?_)
    refine wpAny_newFunctionEnv_cells S.kind kinds (fun env he s1 x => ?_)
    cases he
    refine ⟨(e0.mod.nolimit.keeps stays).keeps x.toInCall.keep, codeAny_func ?_⟩
    obtain ⟨t, ht, hq⟩ := hbody A outer s H vs Q E hgu (hr.deeper _) hsp
    have I := inv_start (CX := CX) (mg := mg) (base := base) (P := P) (w := w) (E := E) (cd := cdv) (f := f) (qual := ql) S hr.hd e0 (len _ _ _ _ hsp) rel x
    refine wpAny_mono (ht.run [] s1 _ H _ I hq) ?_ (fun _ _ z => z)
    rintro fl s' hs
    rcases fl with u | _ | _ | _ <;> first
      | (obtain ⟨v, σ', H', J, rv, q⟩ := hs; exact ⟨v, H', J.os, J.bare, J.base, J.hok, rv, q⟩)
      | (obtain ⟨σ', H', J, q⟩ := hs; first | exact ⟨V.non, H', J.os, J.bare, J.base, J.hok, rfl, q⟩ | exact False.elim q)
/-- a def that asks for repr, by its name -/
structure Cg (P : Program) (w : World) (K : PySem.W.Frag) (mg : Str → Option Value) (base : Heap) (CX : CXT) (k : Nat) (x : Str) (sp : Sp) : Prop where
  ex : ∃ (f : Addr) (fd : FuncData) (ps : List Str), FnG P w K mg base CX k f fd ps sp ∧ mg x = some (.ref f) ∧ PySem.W.keepIn K (.ref f) = true ∧ Binds K fd ps []
theorem Cl.toG {k : Nat} {x : Str} {sp : Sp} (c : Cl P w K mg base CX k x sp) : Cg P w K mg base CX k x sp := by
  obtain ⟨f, fd, ps, F, r⟩ := c.ex
  exact ⟨f, fd, ps, FnOk.toG F, r⟩
theorem cg0 {x : Str} {st : Stmt} {N ps : List Str} {k : Nat} {sp : Sp} (D : Dn K mg x st)
    (hb : ∀ (kV doc pm : Value) (an : Option Addr) (cdv ct : Value) (us : List Value), us.length = ps.length → bindArgs (PySem.W.fnOf x x (defArgs st) (defBody st) (defScope st) .none kV doc pm an cdv ct) ⟨us, []⟩ = pure (ps.zip us))
    (S : FnScope N ps (defScope st)) (len : ∀ vs H Q E, sp vs H Q E → vs.length = ps.length)
    (hbody : ∀ (f : Addr) (cdv : Value) (A : Around) (outer : List Env) (s : Shared) (H : Hp) (vs : List V) (Q : VK) (E : XK), (A.deeper (envOfC x (defScope st) s.heap.objs.size f cdv)).guards = some [] → Room k (A.deeper (envOfC x (defScope st) s.heap.objs.size f cdv)) → sp vs H Q E →
      ∃ t, PSs (cxOf CX0 P w K mg base N x (defScope st) f cdv A outer s H E).nox (defBody st) t ∧ t { nx := fun _ H' => Q .non H', rt := Q } (start N vs) H) : Cg P w K mg base CX0 (k + 1) x sp := by
  obtain ⟨f, fd, F, hm⟩ := D.ex
  obtain ⟨oc, od, kV, doc, pm, an, cdv, ct, osl, rfl, lk, hcd⟩ := id F.ex
  refine ⟨f, _, ps, fng_of lk hcd S len (fun A outer s H vs Q E hg hr h => ?_), hm, F.kp, F.binds hb⟩
  obtain ⟨t, ht, q⟩ := hbody f cdv A outer s H vs Q E hg hr h
  exact ⟨t, ht.nox, q⟩
end
section
variable {X : Cx} {k j : Nat} {x : Str} {sp : Sp} {p pos : Pos} {e : Expr} {es : List Expr} {t : TA}
theorem pe_g (c : Cg X.prog X.w X.K X.mg X.base CX0 k x sp) (hgu : X.A.guards = some []) (hr : Room j X.A) (hk : k ≤ j) (hg : Gl X x) (ha : PA X (e :: es) t)
    (hdb : (x == ("__debug__" : Str)) = false := by decide) (he : starEach (e :: es) X.env = (false, eval e X.env) :: starEach es X.env := by rfl) (hpl : (backTo pos (starEach es X.env)).any (·.1) = false := by rfl) :
    PE X (.Call (.Name x p) (e :: es) [] pos) (tCall sp [] E0 t) := by
  obtain ⟨f, fd, ps, F, hm, kp, b⟩ := c.ex
  constructor
  intro pins s σ H Q I h
  refine wpAny_Call_Name_kw (ld_glob I hg hm ?_ hdb)
  refine PySem.W.callWith_K (h₀ := X.base) I.ok.mod.kin kp (thn (ha.run pos pins s σ H _ I h) ?_) he hpl
  rintro us s1 ⟨vs, H1, I1, r, q⟩
  have q' : sp vs H1 Q E0 := by
    rw [List.append_nil] at q
    exact q
  have hl : us.length = ps.length := by
    rw [← r.length]
    exact F.many _ _ _ _ q'
  have bb := b s1 us I1.kIn (by rw [List.append_nil]; exact hl)
  rw [List.append_nil] at bb
  refine ⟨I1.kIn, wpAny_call (codeAny_mono (F.goes (outer := X.stack) (Q := Q) (E := E0) hgu (hr.mono hk) I1.env0 bb r q') ?_)⟩
  rintro (er | fl) s' hq
  · exact hq.elim
  · rcases fl with u | _ | _ | _ <;> first
      | exact I1.after hq
      | exact False.elim hq
/-- repr of data -/
theorem call_reprD (hgu : X.A.guards = some []) (hu : X.A.units + 70 < cLine) : CallR X (.builtin "repr") (fun xs H Q => ∃ x d, xs = [x] ∧ Dp X.K H x d ∧ d.showable = true ∧ d.hasDict = false ∧ d.depth ≤ 64 ∧ d.shown.length ≤ sizeLine ∧ Q (.str d.shown) H) := by
  intro pins s σ H xs us Q I r h
  obtain ⟨x, d, rfl, hd, hs, hnd, hdp, hz, q⟩ := h
  cases r with
  | cons rx rr =>
    cases rr
    obtain ⟨as, hr⟩ := Dp.reads I d x _ hd rx
    cases hr with
    | none => exact PySem.P.repr_of_none ⟨.str _, H, I.tok _, ⟨_, rfl⟩, q⟩
    | bool b => exact PySem.P.repr_of_bool ⟨.str _, H, I.tok _, ⟨_, rfl⟩, q⟩
    | int i t => exact PySem.P.repr_of_int (of_decide_eq_true hs) ⟨.str _, H, I.tok _, ⟨_, rfl⟩, q⟩
    | str z t => exact PySem.P.repr_of_str ⟨.str _, H, I.tok _, ⟨_, rfl⟩, q⟩ hz
    | list h1 h2 h3 h4 => exact repr_of_reads' (.list h1 h2 h3 h4) hs (fun z => by rw [hnd] at z; cases z) hgu (by omega) (fun _ _ e => e) (fun h' u tk k => ⟨.str _, H, I.kept k, ⟨_, rfl⟩, q⟩) hz
    | tuple h1 h2 h3 h4 => exact repr_of_reads' (.tuple h1 h2 h3 h4) hs (fun z => by rw [hnd] at z; cases z) hgu (by omega) (fun _ _ e => e) (fun h' u tk k => ⟨.str _, H, I.kept k, ⟨_, rfl⟩, q⟩) hz
    | dict h1 h2 h3 h4 h5 => cases hnd
end
end XB
set_option Elab.async false
set_option linter.all false
set_option maxRecDepth 100000
set_option maxHeartbeats 4000000
/-! further rules: enumerate of a tuple, min and max of two texts, the order of pairs of texts -/
namespace PySem
open Sem (wp)
open AutoSeq1 (wpAny_loadPart')
theorem XBmeets_enumT (l : Addr) (items : Array Value) :
    Meets (Builtin.«enumerate.__new__» ⟨[.type "enumerate", .ref l], []⟩) (fun _ R s => s.heap.IsTuple l items ∧
      R (.ok (.ret (.ref (s.heap.push { cls := .type "tuple_iterator", data := .fields #[.ref l, .int 0 0] }).objs.size)))
        { s with heap := (s.heap.push { cls := .type "tuple_iterator", data := .fields #[.ref l, .int 0 0] }).push { cls := .type "enumerate", data := .fields #[.none, .bool false, .ref s.heap.objs.size, rawInt 0, .none, .none] } }) :=
  .of_wp fun prog w A R s ⟨hT, hR⟩ => by
    obtain ⟨hp, gg, dd, tk, os⟩ := s
    have subE := sub_enumerate
    have hT' : Heap.IsTuple (Shared.heap ⟨hp, gg, dd, tk, os⟩) l items := hT
    have it_ : ∀ {A' : Around} {E : Value → Shared → Prop} {Q : Value → Shared → Prop}, Q (.ref hp.objs.size) ⟨hp.push { cls := .type "tuple_iterator", data := .fields #[.ref l, .int 0 0] }, gg, dd, tk, os⟩ → wpAny (model prog w) A' (pyIter (.ref l)) Q E ⟨hp, gg, dd, tk, os⟩ :=
      fun q => wpAny_pyIter_tuple hT' q
    wp_walk using it_
    refine wpAny_stack_any fun st => wpAny_pure ?_
    split
    · rename_i c _ _ _ _ _
      cases (c == Value.type "enumerate") <;> (wp_walk using it_; exact ⟨_, rfl, hR⟩)
    · wp_walk using it_
      exact ⟨_, rfl, hR⟩
section
variable {prog : Program} {w : World} {A : Around} {E : Value → Shared → Prop} {s : Shared}
theorem XBcall_enumT {l : Addr} {items : Array Value} {Q : Value → Shared → Prop} (hT : s.heap.IsTuple l items)
    (h : ∀ h', IsEnum h' (s.heap.objs.size + 1) s.heap.objs.size 0 .none → h'.IsTupleIter s.heap.objs.size l 0 → (∀ b o, s.heap.get? b = some o → h'.get? b = some o) → Q (.ref (s.heap.objs.size + 1)) { s with heap := h' }) :
    wpAny (model prog w) A (call (.type "enumerate") [.ref l]) Q E s := by
  refine callType_new F.called_enumerate (by decide) (F.typeCall_enumerate_1 _) (F.newCall_enumerate_1 _) (fun obj => F.args_object_init_2 obj _) F.entry_enumerate_new (XBmeets_enumT l items) ⟨hT, ?_⟩
  have hz : (s.heap.push { cls := .type "tuple_iterator", data := .fields #[.ref l, .int 0 0] }).objs.size = s.heap.objs.size + 1 := Heap.size_push ..
  show _ ∧ _
  rw [hz]
  have he := Heap.get?_push_size (s.heap.push { cls := .type "tuple_iterator", data := .fields #[.ref l, .int 0 0] }) (o := { cls := .type "enumerate", data := .fields #[.none, .bool false, .ref s.heap.objs.size, rawInt 0, .none, .none] }) rfl
  rw [hz] at he
  exact ⟨⟨_, he, rfl⟩, h _ he ⟨_, Heap.get?_push_of_some _ (Heap.get?_push_size _ rfl), rfl, rfl⟩ fun b o x => Heap.get?_push_of_some _ (Heap.get?_push_of_some _ x)⟩
end
end PySem
namespace XB
open PySem PySem.Spec PyProof.Rows L2
/-- the tuple at a, each item in a new pair with its number -/
def IeT (K : PySem.W.Frag) (a : Addr) : It where
  go := fun i H => ∃ (xs : List V) (x : V), SqT K H a xs ∧ xs[i]? = some x
  yld := fun i H v H' => ∃ T x, v = .ref T ∧ H T = none ∧ H' = upd H T (.tup [.int (i : Nat), x]) ∧ ∀ xs, SqT K H a xs → xs[i]? = some x
  stop := fun i H => ∃ xs : List V, SqT K H a xs ∧ xs.length = i
theorem turn_IeT {P : Program} {w : World} {K : PySem.W.Frag} {elts : List Expr} {kk : Nat} {tpos : Pos} (a e it : Addr) :
    Turn P w K (.Tuple elts kk tpos) (IeT K a) [e, it] e (fun i h => (∃ old, IsEnum h e it ((i : Nat) : Int) old) ∧ h.IsTupleIter it a i ∧ e ≠ it ∧ a ≠ it ∧ a ≠ e) where
  mem := List.mem_cons_self
  obj := fun i h st b hb => by
    obtain ⟨⟨old, he⟩, ⟨o, ho, hc, hd⟩, _⟩ := st
    rcases List.mem_cons.mp hb with rfl | hb
    · exact ⟨_, he, fun v q => nomatch q⟩
    · rw [List.mem_singleton.mp hb]
      exact ⟨o, ho, fun v q => by rw [hd] at q; cases q⟩
  keep := fun i h h' ⟨⟨old, he⟩, hi, r⟩ k => ⟨⟨old, k e List.mem_cons_self _ he⟩, hi.at fun o q => k it (by simp) o q, r⟩
  item := by
    intro X hP hw hK hc i pins s σ H E I hf st hg
    subst hP hw hK
    obtain ⟨⟨old, he⟩, hit, hne, nai, nae⟩ := st
    obtain ⟨xs, x, hq, hx⟩ := hg
    obtain ⟨its, rv, p, hz⟩ := I.tuple hq
    obtain ⟨u, hu, ru⟩ := rv.get hx
    have hel : e < s.heap.objs.size := Heap.lt_size he
    have hil : it < s.heap.objs.size := by
      obtain ⟨_, q, _⟩ := hit
      exact Heap.lt_size q
    have hlen : i < its.toArray.size := by
      rw [List.size_toArray]
      exact (List.getElem?_eq_some_iff.mp hu).1
    refine wpAny_pyNext_enum_itemD (Draws.tuple (prog := X.prog) (w := X.w) (A := X.A.in1) (I.ok.hd hc) it a nai its.toArray) he ⟨hit, p⟩ hlen hne (by simp [hne]; exact fun z => nae z.symm) fun v h' tk hv ho hs hT hsz hk => ?_
    have hv' : v = u := by
      rw [List.getElem?_toArray, hu] at hv
      exact (Option.some.inj hv).symm
    subst hv'
    refine ⟨_, rfl, wpAny_letOwnedTupleGo_enum (s := { s with heap := h', toks := tk + 1 }) ho fun h'' he' sb => ?_⟩
    have hT2 : h''.get? s.heap.objs.size = some { cls := .type "tuple", data := .seq #[.int i tk, v] } := (sb.2 _ (Nat.ne_of_gt hel)).trans hT
    have new : ObjOk X.prog X.w (upd H s.heap.objs.size (.tup [.int (i : Nat), x])) h'' s.heap.objs.size (.tup [.int (i : Nat), x]) :=
      ⟨by show 2 ≤ sizeLine; decide, [.int i tk, v], .cons ⟨_, rfl⟩ (.cons ru .nil), ⟨_, hT2, rfl, _, rfl⟩⟩
    have I1 := I.turnedNew (t' := tk + 1) (ch := [e, it]) (fun b ob hb q => (sb.2 b (fun z => hb (by simp [z]))).trans (hk b ob (fun z => hb (by simp [z])) (fun z => hb (by simp [z])) q)) hf (Nat.le_refl _) new
    refine ⟨.ref s.heap.objs.size, _, I1, rfl, ⟨_, x, rfl, I.hok.fresh (Nat.le_refl _), rfl, fun ys hy => by rw [I.tuple_inj hy hq]; exact hx⟩, ⟨⟨v, ?_⟩, hs.1.at fun o q => (sb.2 it (Ne.symm hne)).trans q, hne, nai, nae⟩, fun b hb => ?_⟩
    · rw [show ((i + 1 : Nat) : Int) = (i : Int) + 1 by omega]
      exact he'
    · have hb' : b < s.heap.objs.size := by
        rcases List.mem_cons.mp hb with rfl | z
        · exact hel
        · rw [List.mem_singleton.mp z]
          exact hil
      rw [upd_ne (Nat.ne_of_lt hb')]
      exact (hf b hb).1
  done := by
    intro X hP hw hK hc i pins s σ H E I hf st hg
    subst hP hw hK
    obtain ⟨⟨old, he⟩, hit, hne, nai, nae⟩ := st
    obtain ⟨xs, hq, hx⟩ := hg
    obtain ⟨its, rv, p, hz⟩ := I.tuple hq
    obtain ⟨f0, f1, f2, f3, f4, f5⟩ := hf it (by simp)
    have hsz : its.toArray.size = i := by
      rw [List.size_toArray, ← rv.length]
      exact hx
    refine wpAny_pyNext_enum_endD (Draws.tuple (prog := X.prog) (w := X.w) (A := X.A.in1) (I.ok.hd hc) it a nai its.toArray) he (by rw [hsz]; exact ⟨hit, p⟩) fun h' eb => ⟨rfl, I.turned (t' := s.toks) (fun b o hb q => eb b o hb q) f0 f1 f3 f4 f5⟩
  self := fun A i s Q E st h => let ⟨⟨_, he⟩, _⟩ := st; wpAny_pyIter_enum he h
def iEnT (K : PySem.W.Frag) (ta : TA) : TI := fun σ H R => ta σ H fun vs H1 => ∃ a xs, vs = [.ref a] ∧ SqT K H1 a xs ∧ R (IeT K a) H1
/-- enumerate(t), t a tuple, to a target of several names -/
theorem pi_enumT {X : Cx} {e : Expr} {ta : TA} {p pos tpos : Pos} {elts : List Expr} {kk : Nat} (hg : Gl X "enumerate") (hm : X.mg "enumerate" = none) (ha : PA X [e] ta) (hs : starEach [e] X.env = [(false, eval e X.env)] := by rfl) :
    PI X (.Tuple elts kk tpos) (.Call (.Name "enumerate" p) [e] [] pos) (iEnT X.K ta) := by
  constructor
  intro pins s σ H R I h
  refine Call_ (ld_blt I hg hm boot_enumerate (PyProof.Rows.callWith_type1 (thn (ha.run pos pins s σ H _ I h) ?_) hs rfl))
  rintro us s1 ⟨vs, H1, I1, r1, a, xs, rfl, hq, q⟩
  cases r1 with
  | cons r rr =>
    cases rr
    cases r
    obtain ⟨its, rv, p', hz⟩ := I1.tuple hq
    refine XBcall_enumT p' fun h' he hit hk => wpAny_pyIter_enum he ?_
    have hal : a < s1.heap.objs.size := by
      obtain ⟨o, e1, _⟩ := p'
      exact Heap.lt_size e1
    have I2 : Inv X pins σ H1 { s1 with heap := h' } := I1.kept (t' := s1.toks) hk
    refine ⟨s1.heap.objs.size + 1, [s1.heap.objs.size + 1, s1.heap.objs.size], _, _, H1, rfl, I2, turn_IeT a (s1.heap.objs.size + 1) s1.heap.objs.size, ⟨⟨.none, he⟩, hit, Nat.succ_ne_self _, Nat.ne_of_lt hal, Nat.ne_of_lt (Nat.lt_succ_of_lt hal)⟩, fun b hb => ?_, q⟩
    have hle : s1.heap.objs.size ≤ b := by
      rcases List.mem_cons.mp hb with rfl | z
      · exact Nat.le_succ _
      · rw [List.mem_singleton.mp z]
        exact Nat.le_refl _
    exact I1.fpOk hle (I1.hok.fresh hle)
theorem walk_IeT {K : PySem.W.Frag} {a : Addr} {xs : List V} : Walk (IeT K a) xs.length (fun H => SqT K H a xs) (YPair (fun i => some (.int (i : Nat))) (fun i => xs[i]?)) := by
  refine ⟨fun i _ hi q => ⟨xs, xs[i], q, by simp [hi]⟩, fun _ q => ⟨xs, q, rfl⟩, fun i H v H' _ q y => ?_⟩
  obtain ⟨T, x, h1, h2, h3, h4⟩ := y
  exact ⟨T, .int (i : Nat), x, h1, h2, h3, rfl, h4 xs q⟩
/-! ### the order of texts -/
/-- the one text ahead of the other -/
def sLt (a b : Str) : Bool := decide (a.cps.toList < b.cps.toList)
theorem cmp_gt {prog : Program} {w : World} {A : Around} {a b : Str} {t u : Tok} : CmpOf prog w A .Gt (fun i v => (#[Value.str a t, Value.str b u] : Array Value)[i]? = some v) (fun i j => sLt ([a, b].getD j a) ([a, b].getD i a)) := fun i j vi vj s Q E hi hj h => by
  rcases i with _ | _ | i <;> rcases j with _ | _ | j <;> simp at hi hj
  all_goals (subst hi; subst hj; exact PySem.P.gt_str h)
theorem cmp_lt {prog : Program} {w : World} {A : Around} {a b : Str} {t u : Tok} : CmpOf prog w A .Lt (fun i v => (#[Value.str a t, Value.str b u] : Array Value)[i]? = some v) (fun i j => sLt ([a, b].getD i a) ([a, b].getD j a)) := fun i j vi vj s Q E hi hj h => by
  rcases i with _ | _ | i <;> rcases j with _ | _ | j <;> simp at hi hj
  all_goals (subst hi; subst hj; exact PyProof.Rows.lt_str h)
section
variable {prog : Program} {w : World} {A : Around} {E : Value → Shared → Prop} {s : Shared}
/-- the pair that min and max lay, walked -/
theorem two_walk {x y : Value} (hh : A.handled = none) {op : CmpOp} {bt : Nat → Nat → Bool} {Q : Value → Shared → Prop} (cmp : CmpOf prog w A.in1 op (fun i v => (#[x, y] : Array Value)[i]? = some v) bt)
    (h : ∀ v h' tk, (#[x, y] : Array Value)[argBest bt 1]? = some v → (∀ c o, s.heap.get? c = some o → h'.get? c = some o) → Q v { s with heap := h', toks := tk }) :
    wpAny (model prog w) A.in1 (pyIter (.ref s.heap.objs.size)) (fun it s₂ => ∃ I fp wr n P St bt, it = .ref I ∧ Walks prog w A.in1 I fp wr n P St ∧ St 0 s₂.heap ∧ (∀ b ∈ fp, b < s₂.heap.objs.size) ∧ 0 < n ∧ CmpOf prog w A.in1 op P bt ∧
      ∀ v h' tk, P (argBest bt (n - 1)) v → (∀ b o, b ∉ wr → s₂.heap.get? b = some o → h'.get? b = some o) → Q v { s₂ with heap := h', toks := tk }) E
      { s with heap := s.heap.push { cls := .type "tuple", data := .seq #[x, y] } } := by
  have hT : (s.heap.push { cls := .type "tuple", data := .seq #[x, y] }).IsTuple s.heap.objs.size #[x, y] := ⟨_, Heap.get?_push_size _ rfl, rfl, 0, rfl⟩
  have hsz : (s.heap.push { cls := .type "tuple", data := .seq #[x, y] }).objs.size = s.heap.objs.size + 1 := Heap.size_push ..
  refine wpAny_pyIter_tuple hT ?_
  refine ⟨(s.heap.push { cls := .type "tuple", data := .seq #[x, y] }).objs.size, [(s.heap.push { cls := .type "tuple", data := .seq #[x, y] }).objs.size, s.heap.objs.size], [(s.heap.push { cls := .type "tuple", data := .seq #[x, y] }).objs.size], 2, _, _, bt, rfl,
    Walks.tuple (A := A.in1) hh _ s.heap.objs.size (by rw [hsz]; exact Nat.ne_of_lt (Nat.lt_succ_self _)) #[x, y], ⟨⟨_, Heap.get?_push_size _ rfl, rfl, rfl⟩, hT.push _⟩, fun c hc => ?_, by decide, cmp, fun v h' tk hP hk => ?_⟩
  · show c < ((s.heap.push _).push _).objs.size
    rw [Heap.size_push, hsz]
    rcases List.mem_cons.mp hc with rfl | hc
    · rw [hsz]
      exact Nat.lt_succ_self _
    · rw [List.mem_singleton.mp hc]
      exact Nat.lt_succ_of_lt (Nat.lt_succ_self _)
  · refine h v h' tk hP fun c o e => hk c o (fun hm => ?_) (Heap.get?_push_of_some _ (Heap.get?_push_of_some _ e))
    have e2 := Heap.lt_size e
    rw [List.mem_singleton.mp hm, hsz] at e2
    exact Nat.lt_irrefl _ (Nat.lt_of_succ_lt e2)
end
section
variable {X : Cx}
theorem call_max2S (hc : X.calm = true) : CallR X (.builtin "max") (fun xs H Q => ∃ i j, xs = [.str i, .str j] ∧ Q (.str (if sLt i j then j else i)) H) := by
  intro pins s σ H xs us Q I r h
  obtain ⟨i, j, rfl, q⟩ := h
  obtain ⟨u, w', rfl, ⟨t, rfl⟩, ⟨t', rfl⟩⟩ := vals2 r
  refine call_max_two (two_walk (I.ok.hd hc) cmp_gt fun v h' tk hv k => ?_)
  refine ⟨_, H, I.kept k, ?_, q⟩
  have e : argBest (fun a b => sLt ([i, j].getD b i) ([i, j].getD a i)) 1 = if sLt i j then 1 else 0 := rfl
  rw [e] at hv
  cases hb : sLt i j
  · rw [hb] at hv
    exact ⟨t, (Option.some.inj hv).symm⟩
  · rw [hb] at hv
    exact ⟨t', (Option.some.inj hv).symm⟩
theorem call_min2S (hc : X.calm = true) : CallR X (.builtin "min") (fun xs H Q => ∃ i j, xs = [.str i, .str j] ∧ Q (.str (if sLt j i then j else i)) H) := by
  intro pins s σ H xs us Q I r h
  obtain ⟨i, j, rfl, q⟩ := h
  obtain ⟨u, w', rfl, ⟨t, rfl⟩, ⟨t', rfl⟩⟩ := vals2 r
  refine call_min_two (two_walk (I.ok.hd hc) cmp_lt fun v h' tk hv k => ?_)
  refine ⟨_, H, I.kept k, ?_, q⟩
  have e : argBest (fun a b => sLt ([i, j].getD a i) ([i, j].getD b i)) 1 = if sLt j i then 1 else 0 := rfl
  rw [e] at hv
  cases hb : sLt j i
  · rw [hb] at hv
    exact ⟨t, (Option.some.inj hv).symm⟩
  · rw [hb] at hv
    exact ⟨t', (Option.some.inj hv).symm⟩
/-- t < u, two pairs of texts -/
theorem op_ltSS (hu : X.A.units + 64 < cLine) : OpR X (compareOp .Lt) (fun x y H Q => ∃ p q a b c d, x = .ref p ∧ y = .ref q ∧ SqT X.K H p [.str a, .str b] ∧ SqT X.K H q [.str c, .str d] ∧ Q (.bl (if a == c then (if b == d then false else sLt b d) else sLt a c)) H) := by
  intro pins s σ H x y v u Q I rx ry h
  obtain ⟨p, q, a, b, c, d, rfl, rfl, hp, hq, h⟩ := h
  cases rx
  cases ry
  obtain ⟨its, r1, t1, _⟩ := I.tuple hp
  obtain ⟨jts, r2, t2, _⟩ := I.tuple hq
  obtain ⟨_, _, rfl, ⟨ta, rfl⟩, ⟨tb, rfl⟩⟩ := vals2 r1
  obtain ⟨_, _, rfl, ⟨tc, rfl⟩, ⟨td, rfl⟩⟩ := vals2 r2
  have L := Ob.RcOp.tuples_lt (A := X.A) (s := s) (e := fun j => [a == c, b == d].getD j false) (r := fun j => [sLt a c, sLt b d].getD j false) t1 t2 (by omega)
    (fun j h1 h2 => by
      rcases j with _ | _ | j
      · exact SeqAt.EqAt.str_str _ _ _ _
      · exact SeqAt.EqAt.str_str _ _ _ _
      · exact absurd h1 (by simp))
    (fun j h1 h2 _ => by
      rcases j with _ | _ | j
      · exact fun _ _ _ _ z => PyProof.Rows.lt_str z
      · exact fun _ _ _ _ z => PyProof.Rows.lt_str z
      · exact absurd h1 (by simp))
  exact L _ _ _ _ ⟨.bl _, H, I, rfl, h⟩
end
end XB
/-! piles as rows read from the last piece on: the action of steps on least piles -/
namespace XM
/-- what is asked of names: which touch, and an order -/
structure Ord (α : Type) [DecidableEq α] where
  tc : α → α → Bool
  lt : α → α → Bool
  refl : ∀ a, tc a a = true
  symm : ∀ a b, tc a b = tc b a
  irr : ∀ a, lt a a = false
  trans : ∀ a b c, lt a b = true → lt b c = true → lt a c = true
  tot : ∀ a b, a ≠ b → lt a b = false → lt b a = true
section
variable {α : Type} [DecidableEq α] (O : Ord α)
abbrev Row (α : Type) := List (α × Int)
/-- a piece of this name comes to lie on top: no other of its name is met, all that it might pass are less -/
def top (a : α) : Row α → Bool
  | [] => true
  | y :: r => if O.tc y.1 a then decide (y.1 ≠ a) else O.lt y.1 a && top a r
def ins (x : α × Int) : Row α → Row α
  | [] => [x]
  | y :: r => if y.1 = x.1 then (if y.2 + x.2 = 0 then r else (x.1, y.2 + x.2) :: r)
    else if O.tc y.1 x.1 then x :: y :: r
    else if O.lt y.1 x.1 && top O x.1 r then x :: y :: r else y :: ins x r
/-- a least pile, from the last piece on -/
def NF : Row α → Prop
  | [] => True
  | y :: r => y.2 ≠ 0 ∧ top O y.1 r = true ∧ NF r
variable {O}
theorem lt_of_not {a b : α} (h : O.tc a b = false) (n : O.lt a b = false) : O.lt b a = true :=
  O.tot a b (fun e => by rw [e, O.refl] at h; cases h) n
theorem lt_asym {a b : α} (h : O.lt a b = true) : O.lt b a = false := by
  cases e : O.lt b a
  · rfl
  · have := O.trans a b a h e
    rw [O.irr] at this
    cases this
theorem ne_of_apart {a b : α} (h : O.tc a b = false) : a ≠ b := fun e => by
  rw [e, O.refl] at h
  cases h
theorem top_same {a : α} {s : Int} {r : Row α} : top O a ((a, s) :: r) = false := by
  unfold top
  rw [if_pos (O.refl a)]
  simp
theorem top_touch {a : α} {y : α × Int} {r : Row α} (h : O.tc y.1 a = true) (n : y.1 ≠ a) : top O a (y :: r) = true := by
  unfold top
  rw [if_pos h]
  simpa using n
theorem top_apart {a : α} {y : α × Int} {r : Row α} (h : O.tc y.1 a = false) : top O a (y :: r) = (O.lt y.1 a && top O a r) := by
  show (if O.tc y.1 a then decide (y.1 ≠ a) else O.lt y.1 a && top O a r) = _
  rw [if_neg (by rw [h]; decide)]
theorem ins_same {a : α} {s u : Int} {r : Row α} : ins O (a, s) ((a, u) :: r) = if u + s = 0 then r else (a, u + s) :: r := by
  unfold ins
  rw [if_pos rfl]
theorem ins_touch {x y : α × Int} {r : Row α} (h : O.tc y.1 x.1 = true) (n : y.1 ≠ x.1) : ins O x (y :: r) = x :: y :: r := by
  unfold ins
  rw [if_neg n, if_pos h]
theorem ins_apart {x y : α × Int} {r : Row α} (h : O.tc y.1 x.1 = false) : ins O x (y :: r) = if O.lt y.1 x.1 && top O x.1 r then x :: y :: r else y :: ins O x r := by
  show (if y.1 = x.1 then _ else if O.tc y.1 x.1 then _ else _) = _
  rw [if_neg (ne_of_apart h), if_neg (by rw [h]; decide)]
theorem ins_top {x : α × Int} : ∀ {r : Row α}, top O x.1 r = true → ins O x r = x :: r
  | [], _ => rfl
  | y :: r, h => by
    cases hc : O.tc y.1 x.1
    · rw [top_apart hc] at h
      rw [ins_apart hc, if_pos h]
    · by_cases e : y.1 = x.1
      · unfold top at h
        rw [if_pos hc] at h
        simp [e] at h
      · exact ins_touch hc e
theorem apart_symm {a b : α} (h : O.tc a b = false) : O.tc b a = false := by rw [O.symm]; exact h
/-- what is put below the top does not bar another name that lay on top -/
theorem top_ins {z : α} {x : α × Int} (hx : O.tc x.1 z = false) : ∀ {r : Row α}, top O z r = true → top O x.1 r = false → top O z (ins O x r) = true
  | [], _, h => by cases h
  | w :: r, hz, h => by
    by_cases e : w.1 = x.1
    · obtain ⟨w1, w2⟩ := w
      obtain ⟨x1, x2⟩ := x
      have e : w1 = x1 := e
      subst e
      have hw : O.tc w1 z = false := hx
      rw [top_apart (y := (w1, w2)) hw] at hz
      rw [ins_same]
      by_cases h0 : w2 + x2 = 0
      · rw [if_pos h0]
        exact (Bool.and_eq_true_iff.mp hz).2
      · rw [if_neg h0, top_apart (y := (w1, w2 + x2)) hw]
        exact hz
    · cases hc : O.tc w.1 x.1
      · rw [top_apart hc] at h
        rw [ins_apart hc, if_neg (by rw [h]; decide)]
        cases hwz : O.tc w.1 z
        · rw [top_apart hwz] at hz ⊢
          obtain ⟨z1, z2⟩ := Bool.and_eq_true_iff.mp hz
          rw [z1, Bool.true_and]
          cases ht : top O x.1 r
          · exact top_ins hx z2 ht
          · rw [ins_top ht, top_apart hx, z2, Bool.and_true]
            rw [ht, Bool.and_true] at h
            exact O.trans _ _ _ (lt_of_not hc h) z1
        · have n : w.1 ≠ z := by
            intro q
            unfold top at hz
            rw [if_pos hwz] at hz
            simp [q] at hz
          exact top_touch hwz n
      · rw [top_touch hc e] at h
        cases h
theorem nf_ins {x : α × Int} (hx : x.2 ≠ 0) : ∀ {r : Row α}, NF O r → NF O (ins O x r)
  | [], _ => ⟨hx, rfl, True.intro⟩
  | w :: r, h => by
    obtain ⟨w0, wt, wr⟩ := h
    by_cases e : w.1 = x.1
    · obtain ⟨w1, w2⟩ := w
      obtain ⟨x1, x2⟩ := x
      have e : w1 = x1 := e
      subst e
      rw [ins_same]
      by_cases h0 : w2 + x2 = 0
      · rw [if_pos h0]
        exact wr
      · rw [if_neg h0]
        exact ⟨h0, wt, wr⟩
    · cases hc : O.tc w.1 x.1
      · rw [ins_apart hc]
        cases ht : O.lt w.1 x.1 && top O x.1 r
        · rw [if_neg (by decide)]
          refine ⟨w0, ?_, nf_ins hx wr⟩
          cases h2 : top O x.1 r
          · exact top_ins (apart_symm hc) wt h2
          · rw [h2, Bool.and_true] at ht
            rw [ins_top h2, top_apart (apart_symm hc), wt, Bool.and_true]
            exact lt_of_not hc ht
        · rw [if_pos rfl]
          exact ⟨hx, by rw [top_apart hc]; exact ht, w0, wt, wr⟩
      · rw [ins_touch hc e]
        exact ⟨hx, top_touch hc e, w0, wt, wr⟩
/-- if a put step frees the top for a name, it took away the piece on the very top -/
theorem freed {b : α} {x : α × Int} (hx : O.tc x.1 b = false) : ∀ {r : Row α}, NF O r → top O x.1 r = false → top O b r = false → top O b (ins O x r) = true →
    ∃ u r', r = (x.1, u) :: r' ∧ O.lt x.1 b = false
  | [], _, h, _, _ => by cases h
  | w :: r, hN, h1, h2, h3 => by
    obtain ⟨w0, wt, wr⟩ := hN
    by_cases e : w.1 = x.1
    · obtain ⟨w1, w2⟩ := w
      obtain ⟨x1, x2⟩ := x
      have e : w1 = x1 := e
      subst e
      refine ⟨w2, r, rfl, ?_⟩
      rw [ins_same] at h3
      rw [top_apart (y := (w1, w2)) hx] at h2
      by_cases h0 : w2 + x2 = 0
      · rw [if_pos h0] at h3
        rw [h3, Bool.and_true] at h2
        exact h2
      · rw [if_neg h0, top_apart (y := (w1, w2 + x2)) hx] at h3
        have h2' : (O.lt w1 b && top O b r) = false := h2
        have h3' : (O.lt w1 b && top O b r) = true := h3
        rw [h2'] at h3'
        cases h3'
    · cases hc : O.tc w.1 x.1
      · rw [top_apart hc] at h1
        rw [ins_apart hc, if_neg (by rw [h1]; decide)] at h3
        cases hwb : O.tc w.1 b
        · rw [top_apart hwb] at h2 h3
          obtain ⟨p1, p2⟩ := Bool.and_eq_true_iff.mp h3
          rw [p1, Bool.true_and] at h2
          have h4 : top O x.1 r = false := by
            cases q : top O x.1 r
            · rfl
            · rw [ins_top q, top_apart hx, h2, Bool.and_false] at p2
              cases p2
          obtain ⟨u, r', rfl, h5⟩ := freed hx wr h4 h2 p2
          rw [top_apart (y := (x.1, u)) (apart_symm hc)] at wt
          have q1 := (Bool.and_eq_true_iff.mp wt).1
          have q2 := O.trans _ _ _ q1 p1
          have q3 : O.lt x.1 b = true := q2
          rw [h5] at q3
          cases q3
        · have n : w.1 ≠ b := by
            intro q
            unfold top at h3
            rw [if_pos hwb] at h3
            simp [q] at h3
          rw [top_touch hwb n] at h2
          cases h2
      · rw [top_touch hc e] at h1
        cases h1
theorem freed_same {x : α × Int} : ∀ {r : Row α}, NF O r → top O x.1 r = false → top O x.1 (ins O x r) = true → ∃ u r', r = (x.1, u) :: r'
  | [], _, h, _ => by cases h
  | w :: r, hN, h1, h3 => by
    obtain ⟨w0, wt, wr⟩ := hN
    by_cases e : w.1 = x.1
    · exact ⟨w.2, r, by rw [← e]⟩
    · cases hc : O.tc w.1 x.1
      · rw [top_apart hc] at h1
        rw [ins_apart hc, if_neg (by rw [h1]; decide), top_apart hc] at h3
        obtain ⟨p1, p2⟩ := Bool.and_eq_true_iff.mp h3
        rw [p1, Bool.true_and] at h1
        obtain ⟨u, r', rfl⟩ := freed_same wr h1 p2
        rw [top_apart (y := (x.1, u)) (apart_symm hc)] at wt
        have q1 := (Bool.and_eq_true_iff.mp wt).1
        have q2 := lt_asym p1
        have q3 : O.lt x.1 w.1 = true := q1
        rw [q2] at q3
        cases q3
      · rw [top_touch hc e] at h1
        cases h1
/-- steps of names that are apart may be put in either order -/
theorem ins_comm {x y : α × Int} (hxy : O.tc x.1 y.1 = false) : ∀ {r : Row α}, NF O r → ins O x (ins O y r) = ins O y (ins O x r)
  | [], _ => by
    show ins O x [y] = ins O y [x]
    rw [ins_apart (apart_symm hxy), ins_apart hxy]
    show (if O.lt y.1 x.1 && true then [x, y] else [y, x]) = if O.lt x.1 y.1 && true then [y, x] else [x, y]
    cases h : O.lt y.1 x.1
    · rw [lt_of_not (apart_symm hxy) h]
      rfl
    · rw [lt_asym h]
      rfl
  | z :: r, hN => by
    have hyx := apart_symm hxy
    have key : ∀ {x y : α × Int}, O.tc x.1 y.1 = false → z.1 = x.1 → ins O x (ins O y (z :: r)) = ins O y (ins O x (z :: r)) := by
      intro x y hxy e
      obtain ⟨z1, z2⟩ := z
      obtain ⟨x1, x2⟩ := x
      have e : z1 = x1 := e
      subst e
      obtain ⟨_, zt, zr⟩ := hN
      have hzy : O.tc z1 y.1 = false := hxy
      rw [ins_apart (x := y) (y := (z1, z2)) hzy, ins_same]
      cases hB : O.lt z1 y.1 && top O y.1 r
      · rw [if_neg (by decide), ins_same]
        by_cases h0 : z2 + x2 = 0
        · rw [if_pos h0, if_pos h0]
        · rw [if_neg h0, if_neg h0, ins_apart (x := y) (y := (z1, z2 + x2)) hzy, if_neg (by rw [hB]; decide)]
      · rw [if_pos rfl, ins_apart (x := (z1, x2)) (y := y) (apart_symm hxy), if_neg (by rw [top_same (s := z2)]; simp), ins_same]
        by_cases h0 : z2 + x2 = 0
        · rw [if_pos h0, ins_top (Bool.and_eq_true_iff.mp hB).2]
        · rw [if_neg h0, ins_apart (x := y) (y := (z1, z2 + x2)) hzy, if_pos hB]
    by_cases ex : z.1 = x.1
    · exact key hxy ex
    by_cases ey : z.1 = y.1
    · exact (key hyx ey).symm
    obtain ⟨z0, zt, zr⟩ := hN
    have ih := ins_comm hxy zr
    have topx : ∀ {x y : α × Int}, O.tc x.1 y.1 = false → z.1 ≠ x.1 → z.1 ≠ y.1 → O.tc z.1 x.1 = true → ins O x (ins O y (z :: r)) = ins O y (ins O x (z :: r)) := by
      intro x y hxy ex ey hx
      have hyx := apart_symm hxy
      rw [ins_touch hx ex, ins_apart (x := y) (y := x) hxy]
      cases hT : top O y.1 (z :: r)
      · rw [if_neg (by simp)]
        have hy : O.tc z.1 y.1 = false := by
          cases q : O.tc z.1 y.1
          · rfl
          · rw [top_touch q ey] at hT
            cases hT
        rw [top_apart hy] at hT
        rw [ins_apart (x := y) (y := z) hy, if_neg (by rw [hT]; decide), ins_touch hx ex]
      · rw [ins_top hT, ins_apart (x := x) (y := y) hyx, top_touch hx ex, ins_touch hx ex]
        cases h : O.lt x.1 y.1
        · rw [lt_of_not hxy h]
          rfl
        · rw [lt_asym h]
          rfl
    cases hx : O.tc z.1 x.1
    · cases hy : O.tc z.1 y.1
      · -- z is apart from both
        have mixed : ∀ {x y : α × Int}, O.tc x.1 y.1 = false → O.tc z.1 x.1 = false → O.tc z.1 y.1 = false → (O.lt z.1 x.1 && top O x.1 r) = true → (O.lt z.1 y.1 && top O y.1 r) = false → ins O x (ins O y (z :: r)) = ins O y (ins O x (z :: r)) := by
          intro x y hxy hx hy hA hB
          have hyx := apart_symm hxy
          obtain ⟨a1, a2⟩ := Bool.and_eq_true_iff.mp hA
          rw [ins_apart (x := y) (y := z) hy, if_neg (by rw [hB]; decide), ins_apart (x := x) (y := z) hx (r := r), if_pos hA, ins_apart (x := y) (y := x) hxy, top_apart hy, hB, Bool.and_false, if_neg (by decide)]
          rw [ins_apart (x := y) (y := z) hy, if_neg (by rw [hB]; decide), ins_apart (x := x) (y := z) hx]
          have t : top O x.1 (ins O y r) = true := by
            cases q : top O y.1 r
            · exact top_ins hyx a2 q
            · rw [q, Bool.and_true] at hB
              rw [ins_top q, top_apart hyx, a2, Bool.and_true]
              exact O.trans _ _ _ (lt_of_not hy hB) a1
          rw [a1, t]
          rfl
        cases hA : O.lt z.1 x.1 && top O x.1 r
        · cases hB : O.lt z.1 y.1 && top O y.1 r
          · rw [ins_apart (x := y) (y := z) hy, if_neg (by rw [hB]; decide), ins_apart (x := x) (y := z) hx (r := r), if_neg (by rw [hA]; decide)]
            have no : ∀ {x y : α × Int}, O.tc x.1 y.1 = false → O.tc z.1 x.1 = false → (O.lt z.1 x.1 && top O x.1 r) = false → (O.lt z.1 y.1 && top O y.1 r) = false → (O.lt z.1 y.1 && top O y.1 (ins O x r)) = false := by
              intro x y hxy hx hA hB
              cases q : O.lt z.1 y.1 && top O y.1 (ins O x r)
              · rfl
              · obtain ⟨q1, q2⟩ := Bool.and_eq_true_iff.mp q
                rw [q1, Bool.true_and] at hB
                cases t : top O x.1 r
                · obtain ⟨u, r', rfl, h5⟩ := freed hxy zr t hB q2
                  rw [top_apart (y := (x.1, u)) (apart_symm hx)] at zt
                  have w1 : O.lt x.1 z.1 = true := (Bool.and_eq_true_iff.mp zt).1
                  rw [O.trans _ _ _ w1 q1] at h5
                  cases h5
                · rw [ins_top t, top_apart hxy, hB, Bool.and_false] at q2
                  cases q2
            rw [ins_apart (x := x) (y := z) hx, if_neg (by rw [no hyx hy hB hA]; decide), ins_apart (x := y) (y := z) hy, if_neg (by rw [no hxy hx hA hB]; decide), ih]
          · exact (mixed hyx hy hx hB hA).symm
        · cases hB : O.lt z.1 y.1 && top O y.1 r
          · exact mixed hxy hx hy hA hB
          · rw [ins_apart (x := y) (y := z) hy, if_pos hB, ins_apart (x := x) (y := z) hx (r := r), if_pos hA, ins_apart (x := x) (y := y) hyx, ins_apart (x := y) (y := x) hxy, top_apart hx, top_apart hy, hA, hB, ins_apart (x := x) (y := z) hx, if_pos hA, ins_apart (x := y) (y := z) hy, if_pos hB]
            cases h : O.lt x.1 y.1
            · rw [lt_of_not hxy h]
              rfl
            · rw [lt_asym h]
              rfl
      · exact (topx hyx ey ex hy).symm
    · exact topx hxy ex ey hx
/-- two steps of one name are one, or none -/
theorem ins_join {a : α} {s t : Int} (hs : s ≠ 0) (ht : t ≠ 0) : ∀ {r : Row α}, NF O r → ins O (a, t) (ins O (a, s) r) = if s + t = 0 then r else ins O (a, s + t) r
  | [], _ => by
    show ins O (a, t) [(a, s)] = _
    rw [ins_same]
    rfl
  | (c, u) :: r, hN => by
    obtain ⟨u0, zt, zr⟩ := hN
    have u0 : u ≠ 0 := u0
    by_cases e : c = a
    · subst e
      rw [ins_same, ins_same]
      by_cases h0 : u + s = 0
      · rw [if_pos h0, ins_top (x := (c, t)) zt]
        by_cases h1 : s + t = 0
        · rw [if_pos h1, show t = u by omega]
        · rw [if_neg h1, if_neg (by omega), show u + (s + t) = t by omega]
      · rw [if_neg h0, ins_same]
        by_cases h1 : s + t = 0
        · rw [if_pos h1, if_neg (by omega), show u + s + t = u by omega]
        · rw [if_neg h1]
          by_cases h2 : u + s + t = 0
          · rw [if_pos h2, if_pos (by omega)]
          · rw [if_neg h2, if_neg (by omega), Int.add_assoc]
    · cases hc : O.tc c a
      · rw [ins_apart (x := (a, s)) (y := (c, u)) hc, ins_apart (x := (a, s + t)) (y := (c, u)) hc]
        cases hA : O.lt c a && top O a r
        · rw [if_neg (by decide), ins_apart (x := (a, t)) (y := (c, u)) hc]
          have no : (O.lt c a && top O a (ins O (a, s) r)) = false := by
            cases q : O.lt c a && top O a (ins O (a, s) r)
            · rfl
            · obtain ⟨q1, q2⟩ := Bool.and_eq_true_iff.mp q
              rw [q1, Bool.true_and] at hA
              obtain ⟨v, r', rfl⟩ := freed_same (x := (a, s)) zr hA q2
              rw [top_apart (y := (a, v)) (apart_symm hc)] at zt
              have w1 : O.lt a c = true := (Bool.and_eq_true_iff.mp zt).1
              rw [lt_asym q1] at w1
              cases w1
          rw [if_neg (show ¬ ((O.lt c a && top O a (ins O (a, s) r)) = true) by rw [no]; decide), ins_join hs ht zr]
          by_cases h1 : s + t = 0
          · rw [if_pos h1, if_pos h1]
          · rw [if_neg h1, if_neg h1, if_neg Bool.false_ne_true]
        · rw [if_pos rfl, if_pos rfl, ins_same]
      · rw [ins_touch (x := (a, s)) (y := (c, u)) hc e, ins_touch (x := (a, s + t)) (y := (c, u)) hc e, ins_same]
end
end XM
set_option linter.all false
namespace XM
section
variable {α : Type} [DecidableEq α] (O : Ord α)
/-- steps put on a least pile, one after another -/
def act (l r : Row α) : Row α := l.foldl (fun r x => ins O x r) r
def NZ (l : Row α) : Prop := ∀ x ∈ l, x.2 ≠ 0
/-- the next step of this name that can come together with one ahead -/
def near (a : α) : Row α → Option Nat
  | [] => none
  | y :: r => if y.1 = a then some 0 else if O.tc y.1 a then none else (near a r).map (· + 1)
def pl : Row α → Bool
  | [] => true
  | x :: r => (near O x.1 r).isNone && pl r
def met : Row α → Option (Nat × Nat)
  | [] => none
  | x :: r => match near O x.1 r with
    | some d => some (0, d + 1)
    | none => (met r).map fun p => (p.1 + 1, p.2 + 1)
variable {O}
theorem NZ.app {l m : Row α} (h : NZ l) (g : NZ m) : NZ (l ++ m) := fun x hx => (List.mem_append.mp hx).elim (h x) (g x)
theorem NZ.left {l m : Row α} (h : NZ (l ++ m)) : NZ l := fun x hx => h x (List.mem_append_left _ hx)
theorem NZ.right {l m : Row α} (h : NZ (l ++ m)) : NZ m := fun x hx => h x (List.mem_append_right _ hx)
theorem act_nil {r : Row α} : act O [] r = r := rfl
theorem act_cons {x : α × Int} {l r : Row α} : act O (x :: l) r = act O l (ins O x r) := rfl
theorem act_app {l m r : Row α} : act O (l ++ m) r = act O m (act O l r) := List.foldl_append
theorem nf_act : ∀ {l r : Row α}, NZ l → NF O r → NF O (act O l r)
  | [], _, _, h => h
  | x :: l, r, z, h => nf_act (l := l) (fun y hy => z y (List.mem_cons_of_mem _ hy)) (nf_ins (z x List.mem_cons_self) h)
theorem nf_nz : ∀ {r : Row α}, NF O r → NZ r
  | [], _ => fun _ h => nomatch h
  | y :: r, h => fun x hx => (List.mem_cons.mp hx).elim (fun e => e ▸ h.1) (nf_nz h.2.2 x)
theorem act_swap {u v r : Row α} {x y : α × Int} (h : O.tc x.1 y.1 = false) (z : NZ u) (hN : NF O r) : act O (u ++ x :: y :: v) r = act O (u ++ y :: x :: v) r := by
  rw [act_app, act_app, act_cons, act_cons, act_cons, act_cons, ins_comm (apart_symm h) (nf_act z hN)]
/-- a step may be brought ahead of those that are apart from it -/
theorem act_move {x : α × Int} {v : Row α} : ∀ {p u r : Row α}, (∀ w ∈ p, O.tc w.1 x.1 = false) → NZ u → NZ p → NF O r → act O (u ++ (p ++ x :: v)) r = act O (u ++ (x :: (p ++ v))) r
  | [], _, _, _, _, _, _ => rfl
  | y :: p, u, r, hp, zu, zp, hN => by
    have e := act_move (x := x) (v := v) (p := p) (u := u ++ [y]) (r := r) (fun w hw => hp w (List.mem_cons_of_mem _ hw)) (zu.app fun w hw => zp w (by rw [List.mem_singleton.mp hw]; exact List.mem_cons_self)) (fun w hw => zp w (List.mem_cons_of_mem _ hw)) hN
    rw [List.append_assoc, List.append_assoc] at e
    have e2 : act O (u ++ (y :: p ++ x :: v)) r = act O (u ++ (y :: x :: (p ++ v))) r := e
    rw [e2, act_swap (hp y List.mem_cons_self) zu hN]
    rfl
/-- the two that can come together do -/
theorem act_meet {a : α} {s t : Int} {u m v r : Row α} (hm : ∀ w ∈ m, O.tc w.1 a = false) (hs : s ≠ 0) (ht : t ≠ 0) (zu : NZ u) (zm : NZ m) (hN : NF O r) :
    act O (u ++ (a, s) :: (m ++ (a, t) :: v)) r = act O (u ++ ((if s + t = 0 then [] else [(a, s + t)]) ++ (m ++ v))) r := by
  have e := act_move (x := (a, t)) (v := v) (p := m) (u := u ++ [(a, s)]) (r := r) hm (zu.app fun w hw => by rw [List.mem_singleton.mp hw]; exact hs) zm hN
  rw [List.append_assoc, List.append_assoc] at e
  have e2 : act O (u ++ (a, s) :: (m ++ (a, t) :: v)) r = act O (u ++ (a, s) :: (a, t) :: (m ++ v)) r := e
  rw [e2, act_app, act_app, act_cons, act_cons, ins_join hs ht (nf_act zu hN)]
  by_cases h : s + t = 0
  · rw [if_pos h, if_pos h, List.nil_append]
  · rw [if_neg h, if_neg h]
    rfl
theorem act_fix : ∀ {r : Row α}, NF O r → act O r.reverse [] = r
  | [], _ => rfl
  | y :: r, h => by
    rw [List.reverse_cons, act_app, act_fix h.2.2]
    exact ins_top h.2.1
/-- a least pile does what its steps did -/
theorem act_ins {x : α × Int} : ∀ {r q : Row α}, NF O r → x.2 ≠ 0 → NF O q → act O (ins O x r).reverse q = ins O x (act O r.reverse q)
  | [], _, _, _, _ => rfl
  | y :: r, q, h, hx, hq => by
    obtain ⟨y0, yt, yr⟩ := h
    have hQ : NF O (act O r.reverse q) := nf_act (fun w hw => nf_nz yr w (List.mem_reverse.mp hw)) hq
    by_cases e : y.1 = x.1
    · obtain ⟨y1, y2⟩ := y
      obtain ⟨x1, x2⟩ := x
      have e : y1 = x1 := e
      subst e
      rw [ins_same, List.reverse_cons, act_app, act_cons, act_nil, ins_join y0 hx hQ]
      by_cases h0 : y2 + x2 = 0
      · rw [if_pos h0, if_pos h0]
      · rw [if_neg h0, if_neg h0, List.reverse_cons, act_app]
        rfl
    · have stay : act O (x :: y :: r).reverse q = ins O x (act O (y :: r).reverse q) := by
        rw [List.reverse_cons, act_app]
        rfl
      cases hc : O.tc y.1 x.1
      · rw [ins_apart hc]
        cases hA : O.lt y.1 x.1 && top O x.1 r
        · rw [if_neg (by decide), List.reverse_cons, act_app, act_ins yr hx hq, List.reverse_cons, act_app]
          exact ins_comm hc hQ
        · rw [if_pos rfl]
          exact stay
      · rw [ins_touch hc e]
        exact stay
theorem act_self : ∀ {l q : Row α}, NZ l → NF O q → act O (act O l []).reverse q = act O l q := by
  intro l
  have gen : ∀ (n : Nat) (l q : Row α), l.length = n → NZ l → NF O q → act O (act O l []).reverse q = act O l q := by
    intro n
    induction n with
    | zero =>
      intro l q h _ _
      rw [List.length_eq_zero_iff.mp h]
      rfl
    | succ n ih =>
      intro l q h z hq
      obtain ⟨p, x, rfl⟩ : ∃ p x, l = p ++ [x] := ⟨l.dropLast, l.getLast (fun e => by rw [e] at h; cases h), (List.dropLast_concat_getLast _).symm⟩
      rw [act_app, act_app, act_cons, act_nil, act_cons, act_nil, act_ins (nf_act z.left (show NF O [] from True.intro)) (z x (by simp)) hq, ih p q (by rw [List.length_append] at h; simpa using h) z.left hq]
  exact fun {q} => gen _ l q rfl
/-- the steps that take steps back -/
def back (l : Row α) : Row α := (l.map fun x => (x.1, -x.2)).reverse
theorem back_nz {l : Row α} (h : NZ l) : NZ (back l) := fun x hx => by
  obtain ⟨y, hy, rfl⟩ := List.mem_map.mp (List.mem_reverse.mp hx)
  have := h y hy
  show -y.2 ≠ 0
  omega
theorem act_back : ∀ {l r : Row α}, NZ l → NF O r → act O (back l) (act O l r) = r
  | [], _, _, _ => rfl
  | x :: l, r, z, h => by
    have hx := z x List.mem_cons_self
    have zl : NZ l := fun y hy => z y (List.mem_cons_of_mem _ hy)
    unfold back
    rw [List.map_cons, List.reverse_cons, act_app, act_cons, act_cons]
    have e := act_back zl (nf_ins hx h)
    unfold back at e
    rw [e, act_nil]
    have j := ins_join (O := O) (a := x.1) (s := x.2) (t := -x.2) hx (by omega) h
    rw [if_pos (by omega)] at j
    exact j
theorem back_back (l : Row α) : back (back l) = l := by
  unfold back
  rw [List.map_reverse, List.reverse_reverse, List.map_map]
  have e : ((fun x : α × Int => (x.1, -x.2)) ∘ fun x => (x.1, -x.2)) = id := by
    funext x
    show (x.1, - -x.2) = x
    rw [Int.neg_neg]
  rw [e, List.map_id]
/-- what makes the same pile is taken back alike -/
theorem act_back_eq {l m r : Row α} (zl : NZ l) (zm : NZ m) (h : act O l [] = act O m []) (hN : NF O r) : act O (back l) r = act O (back m) r := by
  have same : ∀ {q}, NF O q → act O l q = act O m q := fun {q} hq => by rw [← act_self zl hq, h, act_self zm hq]
  have e := act_back (back_nz zl) hN
  rw [back_back] at e
  have e2 := same (nf_act (back_nz zl) hN)
  rw [e] at e2
  have e3 := act_back zm (nf_act (back_nz zl) hN)
  rw [← e2] at e3
  exact e3.symm
/-! ### coming together -/
theorem near_none {a : α} : ∀ {m v : Row α}, (∀ w ∈ m, O.tc w.1 a = false) → (near O a (m ++ v)) = (near O a v).map (· + m.length)
  | [], v, _ => by
    show near O a v = (near O a v).map (· + 0)
    cases near O a v <;> rfl
  | y :: m, v, h => by
    have hy := h y List.mem_cons_self
    show (if y.1 = a then some 0 else if O.tc y.1 a then none else (near O a (m ++ v)).map (· + 1)) = _
    rw [if_neg (ne_of_apart hy), if_neg (by rw [hy]; decide), near_none (fun w hw => h w (List.mem_cons_of_mem _ hw))]
    cases near O a v <;> rfl
theorem near_some {a : α} : ∀ {r : Row α} {d : Nat}, near O a r = some d → ∃ m t v, r = m ++ (a, t) :: v ∧ m.length = d ∧ ∀ w ∈ m, O.tc w.1 a = false
  | [], _, h => by cases h
  | y :: r, d, h => by
    unfold near at h
    by_cases e : y.1 = a
    · rw [if_pos e] at h
      cases h
      exact ⟨[], y.2, r, by rw [← e]; rfl, rfl, fun _ h => nomatch h⟩
    · rw [if_neg e] at h
      cases hc : O.tc y.1 a
      · rw [hc, if_neg (by decide)] at h
        obtain ⟨d', hd, rfl⟩ := Option.map_eq_some_iff.mp h
        obtain ⟨m, t, v, rfl, hl, hm⟩ := near_some hd
        refine ⟨y :: m, t, v, rfl, by rw [List.length_cons, hl], fun w hw => ?_⟩
        rcases List.mem_cons.mp hw with rfl | hw
        · exact hc
        · exact hm w hw
      · rw [hc, if_pos rfl] at h
        cases h
theorem met_pl : ∀ {l : Row α}, met O l = none ↔ pl O l = true
  | [] => ⟨fun _ => rfl, fun _ => rfl⟩
  | x :: r => by
    unfold met pl
    cases near O x.1 r with
    | some d => simp
    | none =>
      simp only [Option.isNone_none, Bool.true_and, Option.map_eq_none_iff]
      exact met_pl
theorem met_some : ∀ {l : Row α} {i j : Nat}, met O l = some (i, j) → ∃ u a s m t v, l = u ++ (a, s) :: (m ++ (a, t) :: v) ∧ u.length = i ∧ i + 1 + m.length = j ∧ ∀ w ∈ m, O.tc w.1 a = false
  | [], _, _, h => by cases h
  | x :: r, i, j, h => by
    unfold met at h
    cases hn : near O x.1 r with
    | some d =>
      rw [hn] at h
      cases h
      obtain ⟨m, t, v, rfl, hl, hm⟩ := near_some hn
      exact ⟨[], x.1, x.2, m, t, v, rfl, rfl, by rw [hl]; omega, hm⟩
    | none =>
      rw [hn] at h
      obtain ⟨⟨i', j'⟩, h2, e⟩ := Option.map_eq_some_iff.mp h
      cases e
      obtain ⟨u, a, s, m, t, v, rfl, h3, h4, h5⟩ := met_some h2
      exact ⟨x :: u, a, s, m, t, v, rfl, by rw [List.length_cons, h3], by omega, h5⟩
/-! ### changes of neighbours that are apart -/
theorem near_swap {a : α} {x y : α × Int} (h : O.tc x.1 y.1 = false) {v : Row α} : ∀ {u : Row α}, (near O a (u ++ x :: y :: v)).isSome = (near O a (u ++ y :: x :: v)).isSome
  | [] => by
    show (near O a (x :: y :: v)).isSome = (near O a (y :: x :: v)).isSome
    have ne := ne_of_apart h
    simp only [near]
    by_cases ex : x.1 = a
    · have ey : y.1 ≠ a := fun q => ne (ex.trans q.symm)
      have ty : O.tc y.1 a = false := by rw [← ex]; exact apart_symm h
      rw [if_pos ex, if_neg ey, ty]
      simp [ex]
    · by_cases ey : y.1 = a
      · have tx : O.tc x.1 a = false := by rw [← ey]; exact h
        simp [ex, ey, tx]
      · cases tx : O.tc x.1 a <;> cases ty : O.tc y.1 a <;> simp [ex, ey]
  | z :: u => by
    have ih := near_swap (a := a) h (v := v) (u := u)
    show (near O a (z :: (u ++ x :: y :: v))).isSome = (near O a (z :: (u ++ y :: x :: v))).isSome
    simp only [near]
    by_cases ez : z.1 = a
    · simp [ez]
    · cases tz : O.tc z.1 a
      · simp [ez, ih]
      · simp [ez]
theorem pl_swap {x y : α × Int} (h : O.tc x.1 y.1 = false) {v : Row α} : ∀ {u : Row α}, pl O (u ++ x :: y :: v) = pl O (u ++ y :: x :: v)
  | [] => by
    have ne := ne_of_apart h
    show ((near O x.1 (y :: v)).isNone && ((near O y.1 v).isNone && pl O v)) = ((near O y.1 (x :: v)).isNone && ((near O x.1 v).isNone && pl O v))
    have e1 : (near O x.1 (y :: v)).isNone = (near O x.1 v).isNone := by
      simp [near, Ne.symm ne, apart_symm h]
    have e2 : (near O y.1 (x :: v)).isNone = (near O y.1 v).isNone := by
      simp [near, ne, h]
    rw [e1, e2, ← Bool.and_assoc, ← Bool.and_assoc, Bool.and_comm (near O x.1 v).isNone]
  | z :: u => by
    have ih := pl_swap h (v := v) (u := u)
    have e := near_swap (a := z.1) h (v := v) (u := u)
    show ((near O z.1 (u ++ x :: y :: v)).isNone && pl O (u ++ x :: y :: v)) = ((near O z.1 (u ++ y :: x :: v)).isNone && pl O (u ++ y :: x :: v))
    rw [ih]
    congr 1
    cases h1 : near O z.1 (u ++ x :: y :: v) <;> cases h2 : near O z.1 (u ++ y :: x :: v) <;> rw [h1, h2] at e <;> first | rfl | cases e
theorem near_move {a : α} {x : α × Int} {v : Row α} : ∀ {p u : Row α}, (∀ w ∈ p, O.tc w.1 x.1 = false) → (near O a (u ++ (p ++ x :: v))).isSome = (near O a (u ++ (x :: (p ++ v)))).isSome
  | [], _, _ => rfl
  | y :: p, u, h => by
    have e := near_move (a := a) (x := x) (v := v) (p := p) (u := u ++ [y]) fun w hw => h w (List.mem_cons_of_mem _ hw)
    rw [List.append_assoc, List.append_assoc] at e
    exact Eq.trans e (near_swap (h y List.mem_cons_self))
theorem pl_move {x : α × Int} {v : Row α} : ∀ {p u : Row α}, (∀ w ∈ p, O.tc w.1 x.1 = false) → pl O (u ++ (p ++ x :: v)) = pl O (u ++ (x :: (p ++ v)))
  | [], _, _ => rfl
  | y :: p, u, h => by
    have e := pl_move (x := x) (v := v) (p := p) (u := u ++ [y]) fun w hw => h w (List.mem_cons_of_mem _ hw)
    rw [List.append_assoc, List.append_assoc] at e
    exact Eq.trans e (pl_swap (h y List.mem_cons_self))
theorem pl_right : ∀ {u v : Row α}, pl O (u ++ v) = true → pl O v = true
  | [], _, h => h
  | x :: u, v, h => pl_right (u := u) (Bool.and_eq_true_iff.mp (show ((near O x.1 (u ++ v)).isNone && pl O (u ++ v)) = true from h)).2
theorem pl_ne {x y : α × Int} {u v q : Row α} (h : pl O (u ++ y :: (v ++ x :: q)) = true) (hv : ∀ w ∈ v, O.tc w.1 x.1 = false) : y.1 ≠ x.1 := fun e => by
  have h1 := (Bool.and_eq_true_iff.mp (show ((near O y.1 (v ++ x :: q)).isNone && pl O (v ++ x :: q)) = true from pl_right h)).1
  rw [e, near_none hv] at h1
  simp [near] at h1
/-! ### sorting a pile -/
/-- where least names came first -/
structure Srt (O : Ord α) (found left : Row α) : Prop where
  own : ∀ u y v z q, found = u ++ y :: (v ++ z :: q) → O.tc y.1 z.1 = false → (∀ w ∈ v, O.tc w.1 z.1 = false) → O.lt y.1 z.1 = true
  out : ∀ u y v p z q, found = u ++ y :: v → left = p ++ z :: q → O.tc y.1 z.1 = false → (∀ w ∈ v, O.tc w.1 z.1 = false) → (∀ w ∈ p, O.tc w.1 z.1 = false) → O.lt y.1 z.1 = true
theorem Srt.nil (left : Row α) : Srt O [] left := ⟨fun u y v z q h => by simp at h, fun u y v p z q h => by simp at h⟩
/-- the least of those that can stand first -/
structure LeastFirst (O : Ord α) (p : Row α) (x : α × Int) (q : Row α) : Prop where
  free : ∀ w ∈ p, O.tc w.1 x.1 = false
  least : ∀ p' z q', p ++ x :: q = p' ++ z :: q' → (∀ w ∈ p', O.tc w.1 z.1 = false) → z.1 ≠ x.1 → O.lt x.1 z.1 = true
theorem split_end {u v : Row α} {y x : α × Int} {l : Row α} (h : l ++ [x] = u ++ y :: v) : (v = [] ∧ l = u ∧ x = y) ∨ ∃ v', v = v' ++ [x] ∧ l = u ++ y :: v' := by
  rcases List.eq_nil_or_concat v with rfl | ⟨v', z, rfl⟩
  · left
    have := List.append_inj' h rfl
    exact ⟨rfl, this.1, by simpa using this.2⟩
  · right
    rw [List.concat_eq_append] at h ⊢
    have h' : l ++ [x] = (u ++ y :: v') ++ [z] := by rw [h]; simp
    have := List.append_inj' h' rfl
    have e : x = z := by simpa using this.2
    exact ⟨v', by rw [e], this.1⟩
theorem Srt.step {found p q : Row α} {x : α × Int} (S : Srt O found (p ++ x :: q)) (L : LeastFirst O p x q) : Srt O (found ++ [x]) (p ++ q) := by
  constructor
  · intro u y v z r h hyz hv
    have h' : found ++ [x] = (u ++ y :: v) ++ z :: r := by rw [h]; simp
    rcases split_end h' with ⟨rfl, e1, e2⟩ | ⟨r', rfl, e1⟩
    · subst e2
      exact S.out u y v p x q e1 rfl hyz hv L.free
    · exact S.own u y v z r' (by rw [e1]; simp) hyz hv
  · intro u y v p' z q' h h2 hyz hv hp'
    -- z in the row with x
    have place : (∃ q1, p = p' ++ z :: q1) ∨ (∃ q1, q = q1 ++ z :: q' ∧ p' = p ++ q1) := by
      rcases List.append_eq_append_iff.mp h2 with ⟨as, e1, e2⟩ | ⟨bs, e1, e2⟩
      · exact .inr ⟨as, e2, e1⟩
      · cases bs with
        | nil => exact .inr ⟨[], by simpa using e2.symm, by simpa using e1.symm⟩
        | cons b bs =>
          rw [List.cons_append] at e2
          injection e2 with e3 e4
          subst e3
          exact .inl ⟨bs, e1⟩
    rcases split_end h with ⟨rfl, e1, e2⟩ | ⟨v', rfl, e1⟩
    · subst e2
      rcases place with ⟨q1, rfl⟩ | ⟨q1, rfl, rfl⟩
      · exact L.least p' z (q1 ++ x :: q) (by simp) hp' (fun e => by rw [e, O.refl] at hyz; cases hyz)
      · refine L.least (p ++ x :: q1) z q' (by simp) (fun w hw => ?_) (fun e => by rw [e, O.refl] at hyz; cases hyz)
        rcases List.mem_append.mp hw with hw | hw
        · exact hp' w (List.mem_append_left _ hw)
        · rcases List.mem_cons.mp hw with rfl | hw
          · exact hyz
          · exact hp' w (List.mem_append_right _ hw)
    · have hx : O.tc x.1 z.1 = false := hv x (by simp)
      have hv' : ∀ w ∈ v', O.tc w.1 z.1 = false := fun w hw => hv w (List.mem_append_left _ hw)
      rcases place with ⟨q1, rfl⟩ | ⟨q1, rfl, rfl⟩
      · exact S.out u y v' p' z (q1 ++ x :: q) e1 (by simp) hyz hv' hp'
      · refine S.out u y v' (p ++ x :: q1) z q' e1 (by simp) hyz hv' fun w hw => ?_
        rcases List.mem_append.mp hw with hw | hw
        · exact hp' w (List.mem_append_left _ hw)
        · rcases List.mem_cons.mp hw with rfl | hw
          · exact hx
          · exact hp' w (List.mem_append_right _ hw)
theorem top_of {a : α} : ∀ {r : Row α}, (∀ v' y u', r = v' ++ y :: u' → (∀ w ∈ v', O.tc w.1 a = false) → O.tc y.1 a = false → O.lt y.1 a = true) → (∀ v' y u', r = v' ++ y :: u' → (∀ w ∈ v', O.tc w.1 a = false) → y.1 ≠ a) → top O a r = true
  | [], _, _ => rfl
  | y :: r, h1, h2 => by
    cases hc : O.tc y.1 a
    · rw [top_apart hc, h1 [] y r rfl (fun _ h => nomatch h) hc, Bool.true_and]
      refine top_of (fun v' z u' e hv hz => h1 (y :: v') z u' (by rw [e]; rfl) (fun w hw => ?_) hz) (fun v' z u' e hv => h2 (y :: v') z u' (by rw [e]; rfl) fun w hw => ?_)
      · rcases List.mem_cons.mp hw with rfl | hw
        · exact hc
        · exact hv w hw
      · rcases List.mem_cons.mp hw with rfl | hw
        · exact hc
        · exact hv w hw
    · exact top_touch hc (h2 [] y r rfl fun _ h => nomatch h)
/-- a pile in which least names came first is a least pile -/
theorem nf_of {left : Row α} : ∀ (n : Nat) (found : Row α), found.length = n → Srt O found left → pl O (found ++ left) = true → NZ found → NF O found.reverse := by
  intro n
  have pre : ∀ (n : Nat) (found : Row α) (tail : Row α), found.length = n → (∀ u y v z q, found = u ++ y :: (v ++ z :: q) → O.tc y.1 z.1 = false → (∀ w ∈ v, O.tc w.1 z.1 = false) → O.lt y.1 z.1 = true) → pl O (found ++ tail) = true → NZ found → NF O found.reverse := by
    intro n
    induction n with
    | zero =>
      intro found tail h _ _ _
      rw [List.length_eq_zero_iff.mp h]
      exact True.intro
    | succ n ih =>
      intro found tail h hS hP hZ
      obtain ⟨f, x, rfl⟩ : ∃ f x, found = f ++ [x] := ⟨found.dropLast, found.getLast (fun e => by rw [e] at h; cases h), (List.dropLast_concat_getLast _).symm⟩
      have hl : f.length = n := by
        rw [List.length_append] at h
        simpa using h
      rw [List.reverse_append]
      refine ⟨hZ x (by simp), ?_, ih f (x :: tail) hl (fun u y v z q e => hS u y v z (q ++ [x]) (by rw [e]; simp)) (by simpa using hP) hZ.left⟩
      refine top_of (fun v' y u' e hv hy => ?_) (fun v' y u' e hv => ?_)
      · have e2 : f = u'.reverse ++ y :: v'.reverse := by
          have := congrArg List.reverse e
          simpa using this
        exact hS u'.reverse y v'.reverse x [] (by rw [e2]; simp) hy fun w hw => hv w (List.mem_reverse.mp hw)
      · have e2 : f = u'.reverse ++ y :: v'.reverse := by
          have := congrArg List.reverse e
          simpa using this
        exact pl_ne (O := O) (x := x) (y := y) (u := u'.reverse) (v := v'.reverse) (q := tail) (by rw [e2] at hP; simpa using hP) fun w hw => hv w (List.mem_reverse.mp hw)
  intro found h S hP hZ
  exact pre n found left h S.own hP hZ
end
end XM
set_option linter.all false
namespace XM
section
variable {α : Type} [DecidableEq α] {O : Ord α}
theorem ins_len {x : α × Int} : ∀ {r : Row α}, (ins O x r).length ≤ r.length + 1
  | [] => Nat.le_refl _
  | y :: r => by
    have ih := ins_len (x := x) (r := r)
    unfold ins
    split
    · split <;> simp <;> omega
    · split
      · simp
      · split
        · simp
        · simp only [List.length_cons]
          omega
theorem act_len : ∀ {l r : Row α}, (act O l r).length ≤ l.length + r.length
  | [], r => by simp [act]
  | x :: l, r => by
    have h1 := act_len (l := l) (r := ins O x r)
    have h2 := ins_len (O := O) (x := x) (r := r)
    rw [act_cons, List.length_cons]
    omega
/-! ### those that can stand first -/
/-- the first of those that can stand first -/
theorem ex_least : ∀ (n : Nat) (left : Row α), left.length = n → left ≠ [] → ∃ p x q, left = p ++ x :: q ∧ LeastFirst O p x q := by
  intro n
  -- among the splits with a free item there is one of least name
  have gen : ∀ (k : Nat) (left : Row α) (p : Row α) (x : α × Int) (q : Row α), left = p ++ x :: q → (∀ w ∈ p, O.tc w.1 x.1 = false) →
      (left.filter fun y => O.lt y.1 x.1).length ≤ k → ∃ p x q, left = p ++ x :: q ∧ LeastFirst O p x q := by
    intro k
    induction k with
    | zero =>
      intro left p x q e hp hk
      refine ⟨p, x, q, e, hp, fun p' z q' e' hp' hn => ?_⟩
      cases h : O.lt x.1 z.1
      · have hz : O.lt z.1 x.1 = true := O.tot _ _ (fun e => hn e.symm) h
        have hm : z ∈ left.filter fun y => O.lt y.1 x.1 := List.mem_filter.mpr ⟨by rw [e, e']; simp, hz⟩
        rw [List.length_eq_zero_iff.mp (Nat.le_zero.mp hk)] at hm
        cases hm
      · rfl
    | succ k ih =>
      intro left p x q e hp hk
      by_cases hex : ∃ p' z q', left = p' ++ z :: q' ∧ (∀ w ∈ p', O.tc w.1 z.1 = false) ∧ O.lt z.1 x.1 = true
      · obtain ⟨p', z, q', e', hp', hz⟩ := hex
        refine ih left p' z q' e' hp' ?_
        have hlt : (left.filter fun y => O.lt y.1 z.1).length < (left.filter fun y => O.lt y.1 x.1).length := by
          have hsub : (left.filter fun y => O.lt y.1 z.1) = (left.filter fun y => O.lt y.1 x.1).filter fun y => O.lt y.1 z.1 := by
            rw [List.filter_filter]
            congr 1
            funext y
            cases h1 : O.lt y.1 z.1
            · rfl
            · rw [O.trans _ _ _ h1 hz]
              rfl
          rw [hsub]
          have hm : z ∈ left.filter fun y => O.lt y.1 x.1 := List.mem_filter.mpr ⟨by rw [e']; simp, hz⟩
          refine Nat.lt_of_le_of_ne (List.length_filter_le _ _) fun he => ?_
          have := List.length_filter_eq_length_iff.mp he z hm
          rw [O.irr] at this
          cases this
        omega
      · refine ⟨p, x, q, e, hp, fun p' z q' e' hp' hn => ?_⟩
        cases h : O.lt x.1 z.1
        · exact absurd ⟨p', z, q', by rw [e, e'], hp', O.tot _ _ (fun e => hn e.symm) h⟩ hex
        · rfl
  intro left h hne
  cases left with
  | nil => exact absurd rfl hne
  | cons x q => exact gen _ (x :: q) [] x q rfl (fun _ h => nomatch h) (Nat.le_refl _)
/-- each pile can be sorted -/
theorem sort_ex {l : Row α} (hP : pl O l = true) (hZ : NZ l) : ∃ f : Row α, NF O f.reverse ∧ act O f [] = act O l [] ∧ f.length = l.length ∧ ∀ a, (near O a f).isSome = (near O a l).isSome := by
  have go : ∀ (n : Nat) (found left : Row α), left.length = n → Srt O found left → pl O (found ++ left) = true → NZ (found ++ left) →
      ∃ f : Row α, NF O f.reverse ∧ act O f [] = act O (found ++ left) [] ∧ f.length = (found ++ left).length ∧ ∀ a, (near O a f).isSome = (near O a (found ++ left)).isSome := by
    intro n
    induction n with
    | zero =>
      intro found left h S P Z
      have e : left = [] := List.length_eq_zero_iff.mp h
      subst e
      rw [List.append_nil] at Z ⊢
      exact ⟨found, nf_of _ found rfl S P Z, rfl, rfl, fun _ => rfl⟩
    | succ n ih =>
      intro found left h S P Z
      obtain ⟨p, x, q, rfl, L⟩ := ex_least (O := O) _ left rfl (fun e => by rw [e] at h; cases h)
      have zf := Z.left
      have zp : NZ p := Z.right.left
      have e0 : found ++ x :: (p ++ q) = found ++ [x] ++ (p ++ q) := by simp
      have P' : pl O (found ++ [x] ++ (p ++ q)) = true := by rw [← e0, ← pl_move L.free]; exact P
      have Z' : NZ (found ++ [x] ++ (p ++ q)) := fun y hy => Z y (by
        simp only [List.mem_append, List.mem_cons, List.mem_nil_iff, or_false] at hy ⊢
        rcases hy with (hy | hy) | hy | hy <;> simp [hy])
      obtain ⟨f, h1, h2, h3, h4⟩ := ih (found ++ [x]) (p ++ q) (by rw [List.length_append] at h ⊢; simp at h; omega) (S.step L) P' Z'
      refine ⟨f, h1, h2.trans ?_, h3.trans ?_, fun a => (h4 a).trans ?_⟩
      · rw [← e0, act_move L.free zf zp (show NF O [] from True.intro)]
      · simp only [List.length_append, List.length_cons, List.length_nil]
        omega
      · rw [← e0, near_move L.free]
  have := go l.length [] l rfl (Srt.nil l) (by simpa using hP) (by simpa using hZ)
  simpa using this
theorem near_pile {l : Row α} (hP : pl O l = true) (hZ : NZ l) (a : α) : (near O a (act O l []).reverse).isSome = (near O a l).isSome := by
  obtain ⟨f, h1, h2, _, h4⟩ := sort_ex hP hZ
  have e : (act O l []).reverse = f := by
    have := act_fix h1
    rw [List.reverse_reverse] at this
    rw [← h2, this, List.reverse_reverse]
  rw [e]
  exact h4 a
/-- a row is a pile exactly if its pile has as many pieces -/
theorem pile_iff {l : Row α} (hZ : NZ l) : (act O l []).length = l.length ↔ met O l = none := by
  constructor
  · intro h
    cases hm : met O l with
    | none => rfl
    | some ij =>
      obtain ⟨u, a, s, m, t, v, rfl, _, _, h5⟩ := met_some hm
      have hs : s ≠ 0 := hZ (a, s) (by simp)
      have ht : t ≠ 0 := hZ (a, t) (by simp)
      have zu : NZ u := hZ.left
      have zm : NZ m := fun w hw => hZ w (by simp [hw])
      rw [act_meet h5 hs ht zu zm (show NF O [] from True.intro)] at h
      have hl := act_len (O := O) (l := u ++ ((if s + t = 0 then [] else [(a, s + t)]) ++ (m ++ v))) (r := [])
      rw [h] at hl
      simp only [List.length_append, List.length_cons, List.length_nil] at hl
      by_cases h0 : s + t = 0
      · rw [if_pos h0] at hl
        simp at hl
        omega
      · rw [if_neg h0] at hl
        simp at hl
        omega
  · intro h
    obtain ⟨f, h1, h2, h3, _⟩ := sort_ex (O := O) (met_pl.mp h) hZ
    have := act_fix h1
    rw [List.reverse_reverse] at this
    rw [← h2, this, List.length_reverse, h3]
theorem pl_nf : ∀ {r : Row α}, NF O r → pl O r.reverse = true := fun {r} h => by
  have hz : NZ r.reverse := fun x hx => nf_nz h x (List.mem_reverse.mp hx)
  refine met_pl.mp ((pile_iff hz).mp ?_)
  rw [act_fix h, List.length_reverse]
/-! ### the other way round -/
theorem near_map {a : α} {g : α × Int → α × Int} (hg : ∀ x, (g x).1 = x.1) : ∀ {l : Row α}, near O a (l.map g) = near O a l
  | [] => rfl
  | x :: l => by
    show (if (g x).1 = a then some 0 else if O.tc (g x).1 a then none else (near O a (l.map g)).map (· + 1)) = _
    rw [near_map hg, hg]
    rfl
/-- none of one name behind one of the same that could come to it: told from the end -/
theorem pl_rev : ∀ {l : Row α}, pl O l = true → pl O l.reverse = true := by
  have key : ∀ (l : Row α), (∀ u a s m t v, l = u ++ (a, s) :: (m ++ (a, t) :: v) → ∃ w ∈ m, O.tc w.1 a = true) ↔ pl O l = true := by
    intro l
    constructor
    · intro h
      refine met_pl.mp ?_
      cases hm : met O l with
      | none => rfl
      | some ij =>
        obtain ⟨u, a, s, m, t, v, e, _, _, h5⟩ := met_some hm
        obtain ⟨w, hw, h6⟩ := h u a s m t v e
        rw [h5 w hw] at h6
        cases h6
    · intro h u a s m t v e
      by_cases hex : ∃ w ∈ m, O.tc w.1 a = true
      · exact hex
      · exact absurd rfl (pl_ne (O := O) (x := (a, t)) (y := (a, s)) (u := u) (v := m) (q := v) (by rw [← e]; exact h) fun w hw => by
          cases q : O.tc w.1 a
          · rfl
          · exact absurd ⟨w, hw, q⟩ hex)
  intro l h
  refine (key _).mp fun u a s m t v e => ?_
  have e2 : l = v.reverse ++ (a, t) :: (m.reverse ++ (a, s) :: u.reverse) := by
    have := congrArg List.reverse e
    simpa using this
  obtain ⟨w, hw, hc⟩ := (key l).mpr h _ _ _ _ _ _ e2
  exact ⟨w, List.mem_reverse.mp hw, hc⟩
theorem pl_map {g : α × Int → α × Int} (hg : ∀ x, (g x).1 = x.1) : ∀ {l : Row α}, pl O (l.map g) = pl O l
  | [] => rfl
  | x :: l => by
    show ((near O (g x).1 (l.map g)).isNone && pl O (l.map g)) = _
    rw [near_map hg, hg, pl_map hg]
    rfl
/-- what can stand last in a pile can stand first in that of what takes back -/
theorem near_back {l : Row α} (hZ : NZ l) (a : α) : (near O a (act O (back l) []).reverse).isSome = (near O a (act O l [])).isSome := by
  have hN : NF O (act O l []) := nf_act hZ (show NF O [] from True.intro)
  have hz : NZ (act O l []).reverse := fun x hx => nf_nz hN x (List.mem_reverse.mp hx)
  have e : act O (back l) [] = act O (back (act O l []).reverse) [] := act_back_eq hZ hz (act_fix hN).symm (show NF O [] from True.intro)
  have hb : back (act O l []).reverse = (act O l []).map fun x => (x.1, -x.2) := by
    unfold back
    rw [List.map_reverse, List.reverse_reverse]
  have hp : pl O ((act O l []).map fun x => (x.1, -x.2)) = true := by
    rw [pl_map (g := fun x => (x.1, -x.2)) fun _ => rfl]
    have := pl_rev (pl_nf hN)
    rwa [List.reverse_reverse] at this
  rw [e, hb, near_pile hp (by rw [← hb]; exact back_nz hz), near_map (g := fun x => (x.1, -x.2)) fun _ => rfl]
/-! ### names that can stand first, in their order -/
def frs (O : Ord α) (bar : Row α) : Row α → List α
  | [] => []
  | x :: r => if bar.all (fun w => !O.tc w.1 x.1) then x.1 :: frs O (bar ++ [x]) r else frs O (bar ++ [x]) r
theorem mem_frs {n : α} : ∀ {l bar : Row α}, n ∈ frs O bar l ↔ (∀ w ∈ bar, O.tc w.1 n = false) ∧ (near O n l).isSome = true
  | [], bar => by simp [frs, near]
  | x :: l, bar => by
    have ih := mem_frs (n := n) (l := l) (bar := bar ++ [x])
    have all_iff : (bar.all fun w => !O.tc w.1 x.1) = true ↔ ∀ w ∈ bar, O.tc w.1 x.1 = false := by simp
    have hx : (∀ w ∈ bar ++ [x], O.tc w.1 n = false) ↔ (∀ w ∈ bar, O.tc w.1 n = false) ∧ O.tc x.1 n = false := by
      constructor
      · exact fun h => ⟨fun w hw => h w (by simp [hw]), h x (by simp)⟩
      · rintro ⟨h1, h2⟩ w hw
        rcases List.mem_append.mp hw with hw | hw
        · exact h1 w hw
        · rw [List.mem_singleton.mp hw]
          exact h2
    rw [hx] at ih
    unfold frs near
    by_cases e : x.1 = n
    · subst e
      rw [if_pos rfl]
      simp only [Option.isSome_some, and_true]
      have no : x.1 ∉ frs O (bar ++ [x]) l := fun hm => by
        have := (ih.mp hm).1.2
        rw [O.refl] at this
        cases this
      split
      · rename_i h
        exact ⟨fun _ => all_iff.mp h, fun _ => List.mem_cons_self⟩
      · rename_i h
        exact ⟨fun hm => absurd hm no, fun hb => absurd (all_iff.mpr hb) h⟩
    · rw [if_neg e]
      have base : n ∈ frs O (bar ++ [x]) l ↔ (∀ w ∈ bar, O.tc w.1 n = false) ∧ (if O.tc x.1 n then none else (near O n l).map (· + 1)).isSome = true := by
        rw [ih]
        cases hc : O.tc x.1 n <;> simp
      split
      · rw [List.mem_cons]
        exact ⟨fun h => h.elim (fun q => absurd q.symm e) base.mp, fun h => .inr (base.mpr h)⟩
      · exact base
theorem nodup_frs : ∀ {l bar : Row α}, (frs O bar l).Nodup
  | [], _ => List.nodup_nil
  | x :: l, bar => by
    have ih := nodup_frs (l := l) (bar := bar ++ [x])
    unfold frs
    split
    · refine List.nodup_cons.mpr ⟨fun hm => ?_, ih⟩
      have := (mem_frs.mp hm).1 x (by simp)
      rw [O.refl] at this
      cases this
    · exact ih
end
end XM
set_option Elab.async false
set_option linter.all false
set_option maxRecDepth 100000
set_option maxHeartbeats 4000000
namespace XB
open PySem PySem.Spec PyProof.Rows L2
/-! ### the order of texts is one -/
theorem str_ext {a b : Str} (h : a.cps.toList = b.cps.toList) : a = b := by
  obtain ⟨⟨x⟩⟩ := a
  obtain ⟨⟨y⟩⟩ := b
  have h : x = y := h
  rw [h]
theorem sLt_irr (a : Str) : sLt a a = false := decide_eq_false (List.lt_irrefl _)
theorem sLt_trans (a b c : Str) (h : sLt a b = true) (g : sLt b c = true) : sLt a c = true := decide_eq_true (List.lt_trans (of_decide_eq_true h) (of_decide_eq_true g))
theorem sLt_tot (a b : Str) (n : a ≠ b) (h : sLt a b = false) : sLt b a = true := by
  have h1 : ¬ a.cps.toList < b.cps.toList := of_decide_eq_false h
  refine decide_eq_true ?_
  have h2 : b.cps.toList ≤ a.cps.toList := List.not_lt.mp h1
  rcases Classical.em (b.cps.toList < a.cps.toList) with h3 | h3
  · exact h3
  · exact absurd (str_ext (List.le_antisymm (List.not_lt.mp h3) h2)) n
/-! ### fields and rows of steps as data -/
structure Fld where
  names : List Str
  pairs : List (Str × Str)
def apart (F : Fld) (a b : Str) : Bool := F.pairs.contains (a, b) || F.pairs.contains (b, a)
def OF (F : Fld) : XM.Ord Str where
  tc := fun a b => decide (a = b) || !apart F a b
  lt := sLt
  refl := fun a => by simp
  symm := fun a b => by
    unfold apart
    rw [Bool.or_comm (F.pairs.contains (a, b))]
    congr 1
    exact decide_eq_decide.mpr ⟨Eq.symm, Eq.symm⟩
  irr := sLt_irr
  trans := sLt_trans
  tot := sLt_tot
/-- what a field keeps, as far as the functions of piles lean on it -/
structure Fld.Ok (F : Fld) : Prop where
  n0 : 0 < F.names.length
  n6 : F.names.length ≤ 6
  asc : ∀ p ∈ F.pairs, sLt p.1 p.2 = true
  inN : ∀ p ∈ F.pairs, p.1 ∈ F.names ∧ p.2 ∈ F.names
  sgn : ∀ n ∈ F.names, 1 ≤ n.length ∧ n.length ≤ 6 ∧ ∀ c ∈ n.cps.toList, 97 ≤ c ∧ c ≤ 122
  asN : F.names.Pairwise fun a b => sLt a b = true
  asP : F.pairs.Pairwise fun p q => (if p.1 == q.1 then (if p.2 == q.2 then false else sLt p.2 q.2) else sLt p.1 q.1) = true
  len : F.pairs.length ≤ 100
theorem apart_ne {F : Fld} (ok : F.Ok) {a : Str} : apart F a a = false := by
  have h : ¬ (a, a) ∈ F.pairs := fun h => by
    have := ok.asc _ h
    rw [sLt_irr] at this
    cases this
  unfold apart
  simp [h]
theorem tc_eq {F : Fld} (ok : F.Ok) (a b : Str) : (OF F).tc a b = !apart F a b := by
  show (decide (a = b) || !apart F a b) = _
  by_cases e : a = b
  · subst e
    rw [apart_ne ok]
    simp
  · simp [e]
/-- as the program asks it: the less one first -/
theorem apart_min {F : Fld} (ok : F.Ok) (a b : Str) : F.pairs.contains ((if sLt b a then b else a), (if sLt a b then b else a)) = apart F a b := by
  unfold apart
  cases h : sLt a b
  · by_cases e : a = b
    · subst e
      rw [sLt_irr]
      simp
    · have h2 := sLt_tot _ _ e h
      rw [h2]
      have n : ¬ (a, b) ∈ F.pairs := fun q => by
        have := ok.asc _ q
        rw [h] at this
        cases this
      simp [n]
  · have h2 : sLt b a = false := by
      cases q : sLt b a
      · rfl
      · have := sLt_trans _ _ _ h q
        rw [sLt_irr] at this
        cases this
    rw [h2]
    have n : ¬ (b, a) ∈ F.pairs := fun q => by
      have := ok.asc _ q
      rw [h2] at this
      cases this
    simp [n]
def touchL (F : Fld) (n : Str) : List Str := F.names.filter fun o => !apart F n o
theorem mem_touch {F : Fld} {a b : Str} (ok : F.Ok) (hb : b ∈ F.names) : (touchL F a).contains b = (OF F).tc b a := by
  rw [(OF F).symm, tc_eq ok]
  unfold touchL
  cases h : apart F a b <;> simp [hb, h]
def dPair (p : Str × Str) : PyData := .tuple [.str p.1, .str p.2]
def dNames (l : List Str) : PyData := .tuple (l.map .str)
def dField (F : Fld) : PyData := .tuple [dNames F.names, .tuple (F.pairs.map dPair)]
def dStep (s : Str × Int) : PyData := .tuple [.str s.1, .int s.2]
def dSteps (l : List (Str × Int)) : PyData := .tuple (l.map dStep)
/-! ### what stands while other things change -/
/-- tuples stand -/
structure Tk (H H' : Hp) : Prop where
  t : ∀ b xs, H b = some (.tup xs) → H' b = some (.tup xs)
  z : ∀ b o u, H b = some (.frz o u) → H' b = some (.frz o u)
theorem Tk.refl {H : Hp} : Tk H H := ⟨fun _ _ e => e, fun _ _ _ e => e⟩
theorem Tk.trans {H H1 H2 : Hp} (a : Tk H H1) (b : Tk H1 H2) : Tk H H2 := ⟨fun x xs e => b.t x xs (a.t x xs e), fun x o u e => b.z x o u (a.z x o u e)⟩
theorem Tk.of {H H1 : Hp} (a : Same H H1) : Tk H H1 := ⟨fun x xs e => a x _ e, fun x o u e => a x _ e⟩
theorem Tk.new {H H1 : Hp} {p : Addr} {o : HO} (a : Tk H H1) (hp : H1 p = none) : Tk H (upd H1 p o) := a.trans (Tk.of (same_upd hp))
theorem Tk.mut {H H1 : Hp} {p : Addr} {o u : HO} (a : Tk H H1) (hp : H1 p = some u) (h1 : ∀ xs, u ≠ .tup xs) (h2 : ∀ o' u', u ≠ .frz o' u') : Tk H (upd H1 p o) :=
  a.trans ⟨fun b xs e => by rw [upd_ne (ne_of e hp fun q => h1 xs q.symm)]; exact e, fun b o' u' e => by rw [upd_ne (ne_of e hp fun q => h2 o' u' q.symm)]; exact e⟩
theorem Tk.lst {H H1 : Hp} {p : Addr} {o : HO} {xs : List V} (a : Tk H H1) (hp : H1 p = some (.lst xs)) : Tk H (upd H1 p o) := a.mut hp (fun _ q => nomatch q) (fun _ _ q => nomatch q)
theorem Tk.sqT {K : PySem.W.Frag} {H H' : Hp} {a : Addr} {xs : List V} (k : Tk H H') (h : SqT K H a xs) : SqT K H' a xs := by
  rcases h with h | h
  · rcases h with h | ⟨o, h⟩
    · exact .inl (.inl (k.t _ _ h))
    · exact .inl (.inr ⟨o, k.z _ _ _ h⟩)
  · exact .inr h
mutual
def flatD : PyData → Bool
  | .none | .bool _ | .int _ | .str _ => true
  | .tuple xs => flatAll xs
  | .list _ | .dict _ => false
def flatAll : List PyData → Bool
  | [] => true
  | x :: xs => flatD x && flatAll xs
end
mutual
theorem Dp.tk {K : PySem.W.Frag} {H H' : Hp} (k : Tk H H') : ∀ (d : PyData) {v : V}, flatD d = true → Dp K H v d → Dp K H' v d
  | .none, _, _, h => by cases h; exact .non
  | .bool b, _, _, h => by cases h; exact .bl b
  | .int i, _, _, h => by cases h; exact .int i
  | .str x, _, _, h => by cases h; exact .str x
  | .tuple ds, _, hf, h => by
    cases h with
    | tup hs ha => exact .tup (k.sqT hs) (DpAll.tk k ds (by simpa only [flatD] using hf) ha)
  | .list _, _, hf, _ => by simp only [flatD] at hf; cases hf
  | .dict _, _, hf, _ => by simp only [flatD] at hf; cases hf
theorem DpAll.tk {K : PySem.W.Frag} {H H' : Hp} (k : Tk H H') : ∀ (ds : List PyData) {vs : List V}, flatAll ds = true → DpAll K H vs ds → DpAll K H' vs ds
  | [], _, _, h => by cases h; exact .nil
  | d :: ds, _, hf, h => by
    simp only [flatAll, Bool.and_eq_true] at hf
    cases h with
    | cons h1 h2 => exact .cons (Dp.tk k d hf.1 h1) (DpAll.tk k ds hf.2 h2)
end
theorem flatAll_of : ∀ {l : List PyData}, (∀ d ∈ l, flatD d = true) → flatAll l = true
  | [], _ => rfl
  | d :: l, h => by
    simp only [flatAll, Bool.and_eq_true]
    exact ⟨h d List.mem_cons_self, flatAll_of fun x hx => h x (List.mem_cons_of_mem _ hx)⟩
theorem flat_step (s : Str × Int) : flatD (dStep s) = true := rfl
theorem flat_all_steps (l : List (Str × Int)) : flatAll (l.map dStep) = true := flatAll_of fun d hd => by
  obtain ⟨s, _, rfl⟩ := List.mem_map.mp hd
  exact flat_step s
theorem flat_steps (l : List (Str × Int)) : flatD (dSteps l) = true := by
  show flatD (.tuple _) = true
  simp only [flatD]
  exact flat_all_steps l
theorem flat_names (l : List Str) : flatD (dNames l) = true := by
  show flatD (.tuple _) = true
  simp only [flatD]
  exact flatAll_of fun d hd => by
    obtain ⟨s, _, rfl⟩ := List.mem_map.mp hd
    rfl
theorem flat_field (F : Fld) : flatD (dField F) = true := by
  show flatD (.tuple _) = true
  simp only [flatD, flatAll, flat_names, Bool.true_and, Bool.and_true]
  exact flatAll_of fun d hd => by
    obtain ⟨s, _, rfl⟩ := List.mem_map.mp hd
    rfl
end XB
namespace L2
open PySem PySem.Spec PyProof.Rows XB
/-! ### rows of data by places -/
section
variable {K : PySem.W.Frag} {H : Hp}
theorem DpAll.len : ∀ {vs : List V} {ds : List PyData}, DpAll K H vs ds → vs.length = ds.length
  | _, _, .nil => rfl
  | _, _, .cons _ t => by rw [List.length_cons, List.length_cons, DpAll.len t]
theorem DpAll.get : ∀ {vs : List V} {ds : List PyData} {i : Nat} {v : V}, DpAll K H vs ds → vs[i]? = some v → ∃ d, ds[i]? = some d ∧ Dp K H v d
  | _, _, _, _, .nil, e => by simp at e
  | _, _, 0, _, .cons h _, e => by
    cases e
    exact ⟨_, rfl, h⟩
  | _, _, i + 1, _, .cons _ t, e => DpAll.get (i := i) t (by simpa using e)
theorem DpAll.app : ∀ {vs ws : List V} {ds es : List PyData}, DpAll K H vs ds → DpAll K H ws es → DpAll K H (vs ++ ws) (ds ++ es)
  | _, _, _, _, .nil, s => s
  | _, _, _, _, .cons h t, s => .cons h (DpAll.app t s)
theorem DpAll.take : ∀ {vs : List V} {ds : List PyData} (n : Nat), DpAll K H vs ds → DpAll K H (vs.take n) (ds.take n)
  | _, _, 0, _ => .nil
  | _, _, _ + 1, .nil => .nil
  | _, _, n + 1, .cons h t => .cons h (DpAll.take n t)
theorem DpAll.drop : ∀ {vs : List V} {ds : List PyData} (n : Nat), DpAll K H vs ds → DpAll K H (vs.drop n) (ds.drop n)
  | _, _, 0, h => h
  | _, _, _ + 1, .nil => .nil
  | _, _, n + 1, .cons _ t => DpAll.drop n t
theorem DpAll.rev : ∀ {vs : List V} {ds : List PyData}, DpAll K H vs ds → DpAll K H vs.reverse ds.reverse
  | _, _, .nil => .nil
  | _, _, .cons h t => by
    rw [List.reverse_cons, List.reverse_cons]
    exact (DpAll.rev t).app (.cons h .nil)
theorem DpAll.strs : ∀ l : List Str, DpAll K H (l.map V.str) (l.map PyData.str)
  | [] => .nil
  | x :: l => .cons (.str x) (DpAll.strs l)
theorem DpAll.of_strs : ∀ {l : List Str} {vs : List V}, DpAll K H vs (l.map PyData.str) → vs = l.map V.str
  | [], _, h => by
    cases h
    rfl
  | x :: l, _, h => by
    cases h with
    | cons h1 h2 =>
      cases h1
      rw [DpAll.of_strs h2]
      rfl
theorem Dp.step {v : V} {s : Str × Int} (h : Dp K H v (dStep s)) : ∃ a, v = .ref a ∧ SqT K H a [.str s.1, .int s.2] := by
  cases h with
  | tup hs ha =>
    cases ha with
    | cons h1 t =>
      cases t with
      | cons h2 t =>
        cases t
        cases h1
        cases h2
        exact ⟨_, rfl, hs⟩
theorem Dp.of_step {a : Addr} {s : Str × Int} (h : SqT K H a [.str s.1, .int s.2]) : Dp K H (.ref a) (dStep s) := .tup h (.cons (.str _) (.cons (.int _) .nil))
theorem Dp.pair {v : V} {s : Str × Str} (h : Dp K H v (dPair s)) : ∃ a, v = .ref a ∧ SqT K H a [.str s.1, .str s.2] := by
  cases h with
  | tup hs ha =>
    cases ha with
    | cons h1 t =>
      cases t with
      | cons h2 t =>
        cases t
        cases h1
        cases h2
        exact ⟨_, rfl, hs⟩
theorem Dp.steps {v : V} {l : List (Str × Int)} (h : Dp K H v (dSteps l)) : ∃ a vs, v = .ref a ∧ SqT K H a vs ∧ DpAll K H vs (l.map dStep) := by
  cases h with
  | tup hs ha => exact ⟨_, _, rfl, hs, ha⟩
theorem Dp.field {v : V} {F : Fld} (h : Dp K H v (dField F)) : ∃ a n p ps, v = .ref a ∧ SqT K H a [.ref n, .ref p] ∧ SqT K H n (F.names.map V.str) ∧ SqT K H p ps ∧ DpAll K H ps (F.pairs.map dPair) := by
  cases h with
  | tup hs ha =>
    cases ha with
    | cons h1 t =>
      cases t with
      | cons h2 t =>
        cases t
        cases h1 with
        | tup n1 n2 =>
          cases h2 with
          | tup p1 p2 =>
            rw [DpAll.of_strs n2] at n1
            exact ⟨_, _, _, _, rfl, hs, n1, p1, p2⟩
/-- the step at a place -/
theorem DpAll.step {vs : List V} {l : List (Str × Int)} {i : Nat} {s : Str × Int} (h : DpAll K H vs (l.map dStep)) (e : l[i]? = some s) : ∃ a, vs[i]? = some (.ref a) ∧ SqT K H a [.str s.1, .int s.2] := by
  have hl := h.len
  rw [List.length_map] at hl
  have hi : i < vs.length := by
    rw [hl]
    exact (List.getElem?_eq_some_iff.mp e).1
  obtain ⟨d, hd, hv⟩ := h.get (List.getElem?_eq_getElem hi)
  rw [List.getElem?_map, e] at hd
  cases hd
  obtain ⟨a, ha, hs⟩ := hv.step
  exact ⟨a, by rw [List.getElem?_eq_getElem hi, ha], hs⟩
end
end L2
set_option Elab.async false
set_option linter.all false
set_option maxRecDepth 100000
set_option maxHeartbeats 4000000
namespace XB
open PySem PySem.Spec PyProof.Rows L2
theorem tyx_tup {K : PySem.W.Frag} {H : Hp} {a : Addr} {xs : List V} (h : SqT K H a xs) : TyX K H (.ref a) (.type "tuple") := by
  rcases h with (h | ⟨o, h⟩) | ⟨o, its, n, hk, hc, _⟩
  · exact .base (.tup h)
  · exact .fTuple h
  · exact .kTuple hk hc
section
variable {X : Cx} {e : Expr} {te : TE} {x : Str} {p q pos : Pos}
/-- isinstance(e, T), T a built-in class -/
theorem pe_isT (T : String) (hgI : Gl X "isinstance") (hmI : X.mg "isinstance" = none) (hgT : Gl X x) (hmT : X.mg x = none) (hv : bootBuiltins x = some (.type T)) (he : PE X e te)
    (hn : x ≠ "__name__" := by decide) (hdb : (x == ("__debug__" : Str)) = false := by decide)
    (h1 : starEach [e, .Name x q] X.env = (false, eval e X.env) :: starEach [.Name x q] X.env := by rfl) (h2 : starEach [.Name x q] X.env = (false, eval (.Name x q) X.env) :: starEach [] X.env := by rfl) :
    PE X (.Call (.Name "isinstance" p) [e, .Name x q] [] pos) (tCB (rIsi X.K) (tCons te (tCons (tC (.ty T)) tNil))) :=
  pe_callB call_isi hgI hmI (by decide +kernel) (pa_cons he (pa_cons (pe_bltn (v := .ty T) hgT hmT hv rfl hn hdb) pa_nil h2) h1) (by decide) (by decide) h1 (by rw [h2]; rfl)
/-- len(e) of a list or a tuple -/
theorem pe_lenS (hg : Gl X "len") (hm : X.mg "len" = none) (he : PE X e te) (h1 : starEach [e] X.env = (false, eval e X.env) :: starEach [] X.env := by rfl) :
    PE X (.Call (.Name "len" p) [e] [] pos) (tCB (fun xs H Q => ∃ p ys, xs = [V.ref p] ∧ (SqL X.K H p ys ∨ SqT X.K H p ys) ∧ Q (.int ys.length) H) (tCons te tNil)) :=
  pe_callB call_len_seq hg hm PySem.boot_len (pa_cons he pa_nil h1) (by decide) (by decide) h1 (by rfl)
/-- len(e) of a text -/
theorem pe_lenT (hg : Gl X "len") (hm : X.mg "len" = none) (he : PE X e te) (h1 : starEach [e] X.env = (false, eval e X.env) :: starEach [] X.env := by rfl) :
    PE X (.Call (.Name "len" p) [e] [] pos) (tCB (fun xs H Q => ∃ z, xs = [V.str z] ∧ z.length ≤ sizeLine ∧ Q (.int z.length) H) (tCons te tNil)) :=
  pe_callB call_len_str hg hm PySem.boot_len (pa_cons he pa_nil h1) (by decide) (by decide) h1 (by rfl)
theorem walk_zipT {K : PySem.W.Frag} {a b : Addr} {xs ys : List V} {n : Nat} (hn : n = min xs.length ys.length) : Walk (RZ.ItzT K a b) n (fun H => SqT K H a xs ∧ SqT K H b ys) (YPair (fun i => xs[i]?) (fun i => ys[i]?)) := by
  subst hn
  constructor
  · intro i H hi q
    have h1 : i < xs.length := by omega
    have h2 : i < ys.length := by omega
    exact ⟨xs, ys, xs[i], ys[i], q.1, q.2, List.getElem?_eq_getElem h1, List.getElem?_eq_getElem h2⟩
  · intro H q
    exact ⟨xs, ys, q.1, q.2, by omega⟩
  · rintro i H v H' _ q ⟨T, x, z, h1, h2, h3, h4, h5⟩
    exact ⟨T, x, z, h1, h2, h3, h4 xs q.1, h5 ys q.2⟩
theorem cut_tail (xs : List V) : cutV xs (some 1) none = xs.drop 1 := by
  unfold cutV
  rw [show HT.sIx xs.length 0 (some 1) = min 1 xs.length from HT.sIx_nat xs.length 0 1, HT.sIx_none]
  cases xs with
  | nil => rfl
  | cons x r =>
    rw [List.length_cons, show min 1 (r.length + 1) = 1 by omega]
    show List.take (r.length + 1 - 1) r = r
    rw [Nat.add_sub_cancel]
    exact List.take_length
/-- the rules within a comprehension's block, where the written part is told by its name -/
theorem op_ltSSk {X : Cx} {K : PySem.W.Frag} (hk : X.K = K) (hu : X.A.units + 64 < cLine) : OpR X (compareOp .Lt) (fun x y H Q => ∃ p q a b c d, x = .ref p ∧ y = .ref q ∧ SqT K H p [.str a, .str b] ∧ SqT K H q [.str c, .str d] ∧ Q (.bl (if a == c then (if b == d then false else sLt b d) else sLt a c)) H) := by
  subst hk
  exact op_ltSS hu
theorem ixk_list {X : Cx} {K : PySem.W.Frag} (hk : X.K = K) : IxR X (rIxL K) := by
  subst hk
  exact ix_list
theorem ixk_tup {X : Cx} {K : PySem.W.Frag} (hk : X.K = K) : IxR X (rIxT K) := by
  subst hk
  exact ix_tup
theorem opk_in_seq {X : Cx} {K : PySem.W.Frag} (hk : X.K = K) : OpR X (compareOp .In) (rIn K false) := by
  subst hk
  exact op_in_seq
theorem opk_notIn_seq {X : Cx} {K : PySem.W.Frag} (hk : X.K = K) : OpR X (compareOp .NotIn) (rIn K true) := by
  subst hk
  exact op_notIn_seq
theorem noPart {σ : L2.St} {H : Hp} {Q : Option Int → Hp → Prop} (h : Q none H) : tNoPart σ H Q := h
/-- t[1:] of a tuple, whatever its length -/
theorem sl_tail {K : PySem.W.Frag} {H : Hp} {a : Addr} {xs : List V} {Q : VK} (h : SqT K H a xs) (q0 : xs = [] → Q (.ref a) H) (q1 : xs ≠ [] → ∀ p, H p = none → Q (.ref p) (upd H p (.tup (xs.drop 1)))) : rSlA K (.ref a) (some 1) none H Q := by
  refine ⟨a, xs, rfl, h, fun e => q0 ?_, fun hn p hp => ?_⟩
  · have e1 : HT.sIx xs.length 0 (some 1) = min 1 xs.length := HT.sIx_nat xs.length 0 1
    rw [e1] at e
    cases xs with
    | nil => rfl
    | cons x r =>
      rw [List.length_cons] at e
      omega
  · rw [cut_tail]
    refine q1 (fun e => ?_) p hp
    subst e
    exact hn ⟨rfl, rfl⟩
end
end XB
set_option Elab.async false
set_option linter.all false
set_option maxRecDepth 100000
set_option maxHeartbeats 4000000
namespace XB
open PySem PySem.Spec PyProof.Rows L2
section
variable {P : Program} {w : World} {K : PySem.W.Frag} {mg : Str → Option Value} {base : Heap}
def spIsPair (K : PySem.W.Frag) : Sp := fun vs H Q _ => ∃ (a : Addr) (xs : List V), vs = [.ref a] ∧ SqT K H a xs ∧ Q (.bl (decide (xs.length = 2))) H
theorem c_is_pair (T : Tx K mg) : Cl P w K mg base CX0 1 "is_pair" (spIsPair K) := by
  refine cl0 T.d_is_pair (ps := ["value"]) (fun _ _ _ _ _ _ us hl => match us, hl with | [_], _ => rfl) sc_is_pair (fun vs H Q E h => ?_) (fun f cdv A outer st H vs Q E hr h => ?_)
  · obtain ⟨a, xs, rfl, _⟩ := h
    rfl
  · obtain ⟨a, xs, rfl, hS, q⟩ := h
    refine ⟨_, pss_one (ps_ret (pe_and (pe_isT "tuple" (by rfl) T.b_isinstance (by rfl) T.b_tuple (by decide +kernel) (pv 0)) (pe_one (pe_cmpR op_eq (pe_lenS (by rfl) T.b_len (pv 0)) pe_int (nomark _))))), ?_⟩
    refine ⟨_, rfl, _, _, _, _, _, rfl, .ty _, tyx_tup hS, kit_ty (by decide +kernel), _, rfl, iteT ?_⟩
    refine ⟨_, rfl, a, xs, rfl, .inr hS, rfl, ?_⟩
    have e : decide (V.int (xs.length : Int) = V.int 2) = decide (xs.length = 2) := by
      refine decide_eq_decide.mpr ⟨fun h => ?_, fun h => ?_⟩
      · injection h with h
        omega
      · rw [h]
        rfl
    show Q (.bl (decide (V.int (xs.length : Int) = V.int 2))) H
    rw [e]
    exact q
/-- each text ahead of the next one -/
def spAscN (K : PySem.W.Frag) : Sp := fun vs H Q _ => (∃ (a : Addr) (l : List Str), vs = [.ref a] ∧ SqT K H a (l.map V.str) ∧ l.length ≤ 1000 ∧ l.Pairwise (fun a b => sLt a b = true) ∧ ∀ H', Same H H' → Q (.bl true) H') ∨
  (∃ (a : Addr) (vs' : List V) (l : List (Str × Str)), vs = [.ref a] ∧ SqT K H a vs' ∧ DpAll K H vs' (l.map dPair) ∧ l.length ≤ 1000 ∧ l.Pairwise (fun p q => (if p.1 == q.1 then (if p.2 == q.2 then false else sLt p.2 q.2) else sLt p.1 q.1) = true) ∧ ∀ H', Same H H' → Q (.bl true) H')
theorem all_true : ∀ n : Nat, (List.replicate n true).all id = true
  | 0 => rfl
  | n + 1 => by
    rw [List.replicate_succ, List.all_cons, all_true n]
    rfl
theorem map_rep (n : Nat) : (List.replicate n true).map V.bl = List.replicate n (V.bl true) := by
  rw [List.map_replicate]
theorem c_is_ascending (T : Tx K mg) : Cl P w K mg base CX0 1 "is_ascending" (spAscN K) := by
  refine cl0 T.d_is_ascending (ps := ["items"]) (fun _ _ _ _ _ _ us hl => match us, hl with | [_], _ => rfl) sc_is_ascending (fun vs H Q E h => ?_) (fun f cdv A outer st H vs Q E hr h => ?_)
  · rcases h with ⟨a, l, rfl, _⟩ | ⟨a, l, _, rfl, _⟩ <;> rfl
  · have nd := sc_is_ascending.nd
    have hu := hr.units
    rcases h with ⟨a, l, rfl, hS, hlen, hP, q⟩ | ⟨a, vs', l, rfl, hS, hD, hlen, hP, q⟩
    · refine ⟨_, pss_one (ps_ret (pe_callB (cr_all rfl) (by rfl) T.b_all (by decide +kernel) (pa_cons (pe_lc (own := [("one", 1), ("other", 2)]) (g := gTup K 2 (gCons (gName 1) (gCons (gName 2) gNil))) (tt := tYes) (by rfl) nd
        (RZ.pi_zipA (by rfl) T.b_zip (pa_cons (pv 0) (pa_cons (pe_slice sl_tupA (pv 0) (po_some pe_int) po_none) pa_nil)))
        (blkOk_by (own := [("one", 1), ("other", 2)]) (N := ["items", "one", "other"]) (sc := defScope s_is_ascending) (by decide +kernel))
        (fun _ _ _ _ _ => pg_tup rfl (pgs_cons (pg_name (i := 1) nd rfl (Or.inl rfl)) (pgs_cons (pg_name (i := 2) nd rfl (Or.inl rfl)) pgs_nil))) (fun _ _ _ _ _ => pts_nil) (fun _ _ _ _ _ => pe_cmpR op_lt_str (pv 1) (pv 2) (nomark _))) pa_nil))), ?_⟩
      refine ⟨_, rfl, _, rfl, 1, rfl, ?_⟩
      refine noPart ?_
      refine sl_tail hS (fun e => ?_) (fun hne b hb => ?_)
      rotate_left
      · have hB : SqT K (upd H b (.tup ((l.map V.str).drop 1))) b ((l.drop 1).map V.str) := by
          rw [List.map_drop]
          exact SqT.of upd_same
        have hA := (Tk.of (same_upd (o := .tup ((l.map V.str).drop 1)) hb)).sqT hS
        have sm := same_upd (o := .tup ((l.map V.str).drop 1)) hb
        generalize upd H b (.tup ((l.map V.str).drop 1)) = H1 at hA hB sm ⊢
        refine ⟨a, b, _, _, rfl, .inr ⟨hA, hB, fun D hD => ?_⟩⟩
        refine lc_it (walk_zipT (xs := l.map V.str) (ys := (l.drop 1).map V.str) rfl) (fun i H' => H' D = some (.lst (List.replicate i (V.bl true))) ∧ Same H1 H') ⟨upd_same, same_upd hD⟩ (fun i H' _ ⟨_, s'⟩ => ⟨(Tk.of s').sqT hA, (Tk.of s').sqT hB⟩)
          (fun i x H2 H3 hi ⟨eD, s'⟩ hy => ?_) (fun H2 ⟨eD, s'⟩ => ?_)
        · obtain ⟨Tt, x1, x2, rfl, nT, rfl, f1, f2⟩ := hy
          obtain ⟨y1, g1, rfl⟩ := str_at f1
          obtain ⟨y2, g2, rfl⟩ := str_at f2
          have nDT : D ≠ Tt := ne_of_none eD nT
          refine ⟨Tt, _, rfl, SqT.of upd_same, rfl, _, _, rfl, _, _, rfl, rfl, rfl, yes_ ?_⟩
          refine ⟨_, rfl, _, rfl, _, _, rfl, rfl, _, by rw [upd_ne nDT]; exact eD, ?_, ?_, ?_⟩
          · rw [List.length_replicate, List.length_map, List.length_map] at *
            exact small1000 (by omega)
          · rw [upd_same]
            have lt : sLt y1 y2 = true := by
              rw [List.getElem?_drop] at g2
              obtain ⟨h1, e1⟩ := List.getElem?_eq_some_iff.mp g1
              obtain ⟨h2, e2⟩ := List.getElem?_eq_some_iff.mp g2
              rw [← e1, ← e2]
              exact List.pairwise_iff_getElem.mp hP i (1 + i) h1 h2 (by omega)
            have e : decide (y1.cps.toList < y2.cps.toList) = true := lt
            rw [e, List.replicate_succ']
          · exact same_put (same_new s' nT) hD
        · refine ⟨D, List.replicate _ true, rfl, SqL.of (by rw [map_rep]; exact eD), ?_⟩
          rw [all_true]
          exact q _ (sm.trans s')
      · have e0 : l = [] := List.map_eq_nil_iff.mp e
        subst e0
        refine ⟨a, a, _, _, rfl, .inr ⟨hS, hS, fun D hD => ?_⟩⟩
        refine lc_it (walk_zipT (xs := []) (ys := []) rfl) (fun i H' => H' D = some (.lst []) ∧ Same H H') ⟨upd_same, same_upd hD⟩ (fun i H' _ ⟨_, s'⟩ => ⟨(Tk.of s').sqT hS, (Tk.of s').sqT hS⟩)
          (fun i x H2 H3 hi _ _ => absurd hi (Nat.not_lt_zero _)) (fun H2 ⟨eD, s'⟩ => ?_)
        exact ⟨D, [], rfl, SqL.of eD, q _ s'⟩
    · refine ⟨_, pss_one (ps_ret (pe_callB (cr_all rfl) (by rfl) T.b_all (by decide +kernel) (pa_cons (pe_lc (own := [("one", 1), ("other", 2)]) (g := gTup K 2 (gCons (gName 1) (gCons (gName 2) gNil))) (tt := tYes) (by rfl) nd
        (RZ.pi_zipA (by rfl) T.b_zip (pa_cons (pv 0) (pa_cons (pe_slice sl_tupA (pv 0) (po_some pe_int) po_none) pa_nil)))
        (blkOk_by (own := [("one", 1), ("other", 2)]) (N := ["items", "one", "other"]) (sc := defScope s_is_ascending) (by decide +kernel))
        (fun _ _ _ _ _ => pg_tup rfl (pgs_cons (pg_name (i := 1) nd rfl (Or.inl rfl)) (pgs_cons (pg_name (i := 2) nd rfl (Or.inl rfl)) pgs_nil))) (fun _ _ _ _ _ => pts_nil) (fun _ _ _ _ _ => pe_cmpR (op_ltSSk (K := K) rfl hu) (pv 1) (pv 2) (nomark _))) pa_nil))), ?_⟩
      refine ⟨_, rfl, _, rfl, 1, rfl, ?_⟩
      have hl := hD.len
      rw [List.length_map] at hl
      refine noPart ?_
      refine sl_tail hS (fun e => ?_) (fun hne b hb => ?_)
      rotate_left
      · have hB : SqT K (upd H b (.tup (vs'.drop 1))) b (vs'.drop 1) := SqT.of upd_same
        have hA := (Tk.of (same_upd (o := .tup (vs'.drop 1)) hb)).sqT hS
        have sm := same_upd (o := .tup (vs'.drop 1)) hb
        generalize upd H b (.tup (vs'.drop 1)) = H1 at hA hB sm ⊢
        refine ⟨a, b, _, _, rfl, .inr ⟨hA, hB, fun D hD' => ?_⟩⟩
        refine lc_it (walk_zipT (xs := vs') (ys := vs'.drop 1) rfl) (fun i H' => H' D = some (.lst (List.replicate i (V.bl true))) ∧ Same H1 H') ⟨upd_same, same_upd hD'⟩ (fun i H' _ ⟨_, s'⟩ => ⟨(Tk.of s').sqT hA, (Tk.of s').sqT hB⟩)
          (fun i x H2 H3 hi ⟨eD, s'⟩ hy => ?_) (fun H2 ⟨eD, s'⟩ => ?_)
        · obtain ⟨Tt, x1, x2, rfl, nT, rfl, f1, f2⟩ := hy
          have f1 : vs'[i]? = some x1 := f1
          have f2 : (vs'.drop 1)[i]? = some x2 := f2
          rw [List.getElem?_drop] at f2
          obtain ⟨d1, g1, p1⟩ := hD.get f1
          obtain ⟨d2, g2, p2⟩ := hD.get f2
          rw [List.getElem?_map] at g1 g2
          obtain ⟨y1, k1, rfl⟩ := Option.map_eq_some_iff.mp g1
          obtain ⟨y2, k2, rfl⟩ := Option.map_eq_some_iff.mp g2
          obtain ⟨b1, rfl, c1⟩ := p1.pair
          obtain ⟨b2, rfl, c2⟩ := p2.pair
          have kT : Tk H (upd H2 Tt (.tup [.ref b1, .ref b2])) := (Tk.of (sm.trans s')).new nT
          have nDT : D ≠ Tt := ne_of_none eD nT
          refine ⟨Tt, _, rfl, SqT.of upd_same, rfl, _, _, rfl, _, _, rfl, rfl, rfl, yes_ ?_⟩
          refine ⟨_, rfl, _, rfl, _, _, _, _, _, _, rfl, rfl, kT.sqT c1, kT.sqT c2, _, by rw [upd_ne nDT]; exact eD, ?_, ?_, ?_⟩
          · rw [List.length_replicate]
            exact small1000 (by omega)
          · rw [upd_same]
            have lt : (if y1.1 == y2.1 then (if y1.2 == y2.2 then false else sLt y1.2 y2.2) else sLt y1.1 y2.1) = true := by
              obtain ⟨h1, e1⟩ := List.getElem?_eq_some_iff.mp k1
              obtain ⟨h2, e2⟩ := List.getElem?_eq_some_iff.mp k2
              rw [← e1, ← e2]
              exact List.pairwise_iff_getElem.mp hP i (1 + i) h1 h2 (by omega)
            rw [lt, List.replicate_succ']
          · exact same_put (same_new s' nT) hD'
        · refine ⟨D, List.replicate _ true, rfl, SqL.of (by rw [map_rep]; exact eD), ?_⟩
          rw [all_true]
          exact q _ (sm.trans s')
      · subst e
        refine ⟨a, a, _, _, rfl, .inr ⟨hS, hS, fun D hD' => ?_⟩⟩
        refine lc_it (walk_zipT (xs := []) (ys := []) rfl) (fun i H' => H' D = some (.lst []) ∧ Same H H') ⟨upd_same, same_upd hD'⟩ (fun i H' _ ⟨_, s'⟩ => ⟨(Tk.of s').sqT hS, (Tk.of s').sqT hS⟩)
          (fun i x H2 H3 hi _ _ => absurd hi (Nat.not_lt_zero _)) (fun H2 ⟨eD, s'⟩ => ?_)
        exact ⟨D, [], rfl, SqL.of eD, q _ s'⟩
end
end XB
set_option Elab.async false
set_option linter.all false
set_option maxRecDepth 100000
set_option maxHeartbeats 4000000
namespace XB
open PySem PySem.Spec PyProof.Rows L2
theorem inV_strs (a : Str) : ∀ l : List Str, inV (.str a) (l.map V.str) = l.contains a
  | [] => rfl
  | x :: l => by
    have ih := inV_strs a l
    unfold inV at ih ⊢
    rw [List.map_cons, List.any_cons, ih, List.contains_cons]
    congr 1
    show decide (x = a) = (a == x)
    by_cases e : x = a
    · subst e
      simp
    · have : a ≠ x := fun q => e q.symm
      simp [e, this]
theorem flat_strs (l : List Str) : (l.map V.str).all flatV = true := by
  rw [List.all_map]
  exact List.all_eq_true.mpr fun _ _ => rfl
section
variable {P : Program} {w : World} {K : PySem.W.Frag} {mg : Str → Option Value} {base : Heap}
def GoodName (n : Str) : Prop := 1 ≤ n.length ∧ n.length ≤ 6 ∧ ∀ c ∈ n.cps.toList, 97 ≤ c ∧ c ≤ 122
def spIsName : Sp := fun vs H Q _ => ∃ n : Str, vs = [.str n] ∧ GoodName n ∧ ∀ H', Same H H' → Q (.bl true) H'
theorem c_is_name (T : Tx K mg) : Cl P w K mg base CX0 1 "is_name" spIsName := by
  refine cl0 T.d_is_name (ps := ["value"]) (fun _ _ _ _ _ _ us hl => match us, hl with | [_], _ => rfl) sc_is_name (fun vs H Q E h => ?_) (fun f cdv A outer st H vs Q E hr h => ?_)
  · obtain ⟨n, rfl, _⟩ := h
    rfl
  · obtain ⟨n, rfl, ⟨n1, n6, nc⟩, q⟩ := h
    have nd := sc_is_name.nd
    obtain ⟨tk, hML⟩ := T.g_MOST_LETTERS
    have hsz : n.length ≤ sizeLine := Nat.le_trans n6 (by decide)
    refine ⟨_, pss_cons (ps_if (PW.pt (pw_or (pt_not (pt_val (pe_isT "str" (by rfl) T.b_isinstance (by rfl) T.b_str (by decide +kernel) (pv 0)))) (pw_or1 (pt_not (pt_chain op_le op_le pe_int (pe_lenT (by rfl) T.b_len (pv 0)) (pe_glob (v := .int 6) (by rfl) hML ⟨_, rfl⟩)))))) pss_never pss_nil)
      (pss_one (ps_ret (pe_callB (cr_all rfl) (by rfl) T.b_all (by decide +kernel) (pa_cons (pe_lc (own := [("letter", 1)]) (g := gName 1) (tt := tYes) (by rfl) nd (pi_str (pv 0))
        (blkOk_by (own := [("letter", 1)]) (N := ["value", "letter"]) (sc := defScope s_is_name) (by decide +kernel)) (fun _ _ _ _ _ => pg_name (i := 1) nd rfl (Or.inl rfl)) (fun _ _ _ _ _ => pts_nil) (fun _ _ _ _ _ => pe_chain op_le_str op_le_str pe_str (pv 1) pe_str)) pa_nil)))), ?_⟩
    refine ⟨_, rfl, _, _, _, _, _, rfl, .ty _, .base (.str n), kit_ty (r := true) (by decide +kernel), _, rfl, iteF ?_⟩
    refine ⟨_, rfl, n, rfl, hsz, _, _, rfl, rfl, _, rfl, ?_⟩
    rw [decide_eq_true (show (1 : Int) ≤ (n.length : Int) by omega)]
    refine iteT ⟨_, _, rfl, rfl, _, rfl, ?_⟩
    rw [decide_eq_true (show (n.length : Int) ≤ 6 by omega)]
    refine iteF ?_
    refine ⟨_, rfl, n, rfl, fun D hD => ?_⟩
    refine lc_it walk_str (fun i H' => H' D = some (.lst (List.replicate i (V.bl true))) ∧ Same H H') ⟨upd_same, same_upd hD⟩ (fun _ _ _ _ => True.intro) (fun i x H2 H3 hi ⟨eD, s'⟩ hy => ?_) (fun H2 ⟨eD, s'⟩ => ?_)
    · obtain ⟨rfl, c, hc, rfl⟩ := hy
      have hm : c ∈ n.cps.toList := by
        rw [← Array.getElem?_toList] at hc
        exact List.mem_of_getElem? hc
      obtain ⟨c1, c2⟩ := nc c hm
      refine ⟨rfl, yes_ ?_⟩
      refine ⟨_, rfl, _, _, rfl, rfl, _, rfl, ?_⟩
      have e1 : (!decide ((⟨#[c]⟩ : Str).cps.toList < ("a" : Str).cps.toList)) = true := by
        show (!decide ([c] < [97])) = true
        simp [List.cons_lt_cons_iff]
        omega
      have e2 : (!decide (("z" : Str).cps.toList < (⟨#[c]⟩ : Str).cps.toList)) = true := by
        show (!decide ([122] < [c])) = true
        simp [List.cons_lt_cons_iff]
        omega
      rw [e1]
      refine iteT ⟨_, _, rfl, rfl, ?_⟩
      rw [e2]
      refine ⟨_, eD, ?_, ?_, same_put s' hD⟩
      · rw [List.length_replicate]
        have : n.cps.size = n.length := rfl
        exact small1000 (by omega)
      · rw [upd_same, List.replicate_succ']
    · refine ⟨D, List.replicate _ true, rfl, SqL.of (by rw [map_rep]; exact eD), ?_⟩
      rw [all_true]
      exact q _ s'
def spAreNames (K : PySem.W.Frag) : Sp := fun vs H Q _ => ∃ (a : Addr) (l : List Str), vs = [.ref a] ∧ SqT K H a (l.map V.str) ∧ 1 ≤ l.length ∧ l.length ≤ 6 ∧ (∀ n ∈ l, GoodName n) ∧ l.Pairwise (fun a b => sLt a b = true) ∧ ∀ H', Same H H' → Q (.bl true) H'
theorem c_are_names (T : Tx K mg) : Cl P w K mg base CX0 2 "are_names" (spAreNames K) := by
  refine cl0 T.d_are_names (ps := ["value"]) (fun _ _ _ _ _ _ us hl => match us, hl with | [_], _ => rfl) sc_are_names (fun vs H Q E h => ?_) (fun f cdv A outer st H vs Q E hr h => ?_)
  · obtain ⟨a, l, rfl, _⟩ := h
    rfl
  · obtain ⟨a, l, rfl, hS, l1, l6, hg, hP, q⟩ := h
    have nd := sc_are_names.nd
    obtain ⟨tk, hMN⟩ := T.g_MOST_NAMES
    refine ⟨_, pss_cons (ps_if (PW.pt (pw_or (pt_not (pt_val (pe_isT "tuple" (by rfl) T.b_isinstance (by rfl) T.b_tuple (by decide +kernel) (pv 0)))) (pw_or1 (pt_not (pt_chain op_le op_le pe_int (pe_lenS (by rfl) T.b_len (pv 0)) (pe_glob (v := .int 6) (by rfl) hMN ⟨_, rfl⟩)))))) pss_never pss_nil)
      (pss_one (ps_ret (pe_and (pe_callB (cr_all rfl) (by rfl) T.b_all (by decide +kernel) (pa_cons (pe_lc (own := [("item", 1)]) (g := gName 1) (tt := tYes) (by rfl) nd (pi_tup (pv 0))
        (blkOk_by (own := [("item", 1)]) (N := ["value", "item"]) (sc := defScope s_are_names) (by decide +kernel)) (fun _ _ _ _ _ => pg_name (i := 1) nd rfl (Or.inl rfl)) (fun _ _ _ _ _ => pts_nil) (fun _ _ _ _ _ => pe_k (c_is_name T) hr (by decide) (by rfl) (pa_cons (pv 1) pa_nil))) pa_nil))
        (pe_one (pe_k (c_is_ascending T) hr (by decide) (by rfl) (pa_cons (pv 0) pa_nil)))))), ?_⟩
    refine ⟨_, rfl, _, _, _, _, _, rfl, .ty _, tyx_tup hS, kit_ty (r := true) (by decide +kernel), _, rfl, iteF ?_⟩
    refine ⟨_, rfl, a, _, rfl, .inr hS, _, _, rfl, rfl, _, rfl, ?_⟩
    rw [List.length_map, decide_eq_true (show (1 : Int) ≤ (l.length : Int) by omega)]
    refine iteT ⟨_, _, rfl, rfl, _, rfl, ?_⟩
    rw [decide_eq_true (show (l.length : Int) ≤ 6 by omega)]
    refine iteF ?_
    refine ⟨_, rfl, a, rfl, ⟨_, hS⟩, fun D hD => ?_⟩
    refine lc_it (walk_tup (xs := l.map V.str)) (fun i H' => H' D = some (.lst (List.replicate i (V.bl true))) ∧ Same H H') ⟨upd_same, same_upd hD⟩ (fun _ _ _ ⟨_, s'⟩ => (Tk.of s').sqT hS) (fun i x H2 H3 hi ⟨eD, s'⟩ hy => ?_) (fun H2 ⟨eD, s'⟩ => ?_)
    · obtain ⟨rfl, hx⟩ := hy
      obtain ⟨n, hn, rfl⟩ := str_at hx
      refine ⟨rfl, yes_ ?_⟩
      refine ⟨_, rfl, n, rfl, hg n (List.mem_of_getElem? hn), fun H4 s4 => ⟨_, s4 _ _ eD, ?_, ?_, same_put (s'.trans s4) hD⟩⟩
      · rw [List.length_map] at hi
        rw [List.length_replicate]
        exact small1000 (by omega)
      · rw [upd_same, List.replicate_succ']
    · refine ⟨D, List.replicate _ true, rfl, SqL.of (by rw [map_rep]; exact eD), _, rfl, ?_⟩
      rw [all_true]
      refine iteT ?_
      refine ⟨_, rfl, .inl ⟨a, l, rfl, (Tk.of s').sqT hS, by omega, hP, fun H4 s4 => q _ (s'.trans s4)⟩⟩
def spIsPairOf (K : PySem.W.Frag) : Sp := fun vs H Q _ => ∃ (n v : Addr) (l : List Str) (a b : Str), vs = [.ref n, .ref v] ∧ SqT K H n (l.map V.str) ∧ SqT K H v [.str a, .str b] ∧ a ∈ l ∧ b ∈ l ∧ sLt a b = true ∧ Q (.bl true) H
theorem c_is_pair_of (T : Tx K mg) : Cl P w K mg base CX0 2 "is_pair_of" (spIsPairOf K) := by
  refine cl0 T.d_is_pair_of (ps := ["names", "value"]) (fun _ _ _ _ _ _ us hl => match us, hl with | [_, _], _ => rfl) sc_is_pair_of (fun vs H Q E h => ?_) (fun f cdv A outer st H vs Q E hr h => ?_)
  · obtain ⟨n, v, l, a, b, rfl, _⟩ := h
    rfl
  · obtain ⟨n, v, l, a, b, rfl, hN, hV, ha, hb, lt, q⟩ := h
    have nd := sc_is_pair_of.nd
    refine ⟨_, pss_cons (ps_if (pt_not (pt_val (pe_k (c_is_pair T) hr (by decide) (by rfl) (pa_cons (pv 1) pa_nil)))) pss_never pss_nil)
      (pss_cons (ps_asg (pv 1) (pg_tup rfl (pgs_cons (pg_name (i := 2) nd rfl (.inl rfl)) (pgs_cons (pg_name (i := 3) nd rfl (.inl rfl)) pgs_nil))))
      (pss_one (ps_ret (pe_and (pe_cmpR op_in_seq (pv 2) (pv 0) (by rfl)) (pe_and (pe_cmpR op_in_seq (pv 3) (pv 0) (by rfl)) (pe_one (pe_cmpR op_lt_str (pv 2) (pv 3) (nomark _)))))))), ?_⟩
    refine ⟨_, rfl, v, _, rfl, hV, _, rfl, iteF ?_⟩
    refine ⟨_, rfl, v, _, rfl, hV, rfl, _, _, rfl, _, _, rfl, rfl, ?_⟩
    refine ⟨_, rfl, _, rfl, n, _, rfl, .inr hN, rfl, flat_strs l, _, rfl, ?_⟩
    rw [if_neg Bool.false_ne_true, inV_strs, show l.contains a = true by simpa using ha]
    refine iteT ⟨_, rfl, _, rfl, n, _, rfl, .inr hN, rfl, flat_strs l, _, rfl, ?_⟩
    rw [if_neg Bool.false_ne_true, inV_strs, show l.contains b = true by simpa using hb]
    refine iteT ⟨_, rfl, _, rfl, _, _, rfl, rfl, ?_⟩
    have e : decide (a.cps.toList < b.cps.toList) = true := lt
    rw [e]
    exact q
def spArePairs (K : PySem.W.Frag) : Sp := fun vs H Q _ => ∃ (n v : Addr) (ps : List V) (F : Fld), vs = [.ref n, .ref v] ∧ SqT K H n (F.names.map V.str) ∧ SqT K H v ps ∧ DpAll K H ps (F.pairs.map dPair) ∧ F.Ok ∧ ∀ H', Same H H' → Q (.bl true) H'
theorem c_are_pairs (T : Tx K mg) : Cl P w K mg base CX0 3 "are_pairs" (spArePairs K) := by
  refine cl0 T.d_are_pairs (ps := ["names", "value"]) (fun _ _ _ _ _ _ us hl => match us, hl with | [_, _], _ => rfl) sc_are_pairs (fun vs H Q E h => ?_) (fun f cdv A outer st H vs Q E hr h => ?_)
  · obtain ⟨n, v, ps, F, rfl, _⟩ := h
    rfl
  · obtain ⟨n, v, ps, F, rfl, hN, hV, hD, ok, q⟩ := h
    have nd := sc_are_pairs.nd
    have hl := hD.len
    rw [List.length_map] at hl
    have hl2 := ok.len
    refine ⟨_, pss_cons (ps_if (pt_not (pt_val (pe_isT "tuple" (by rfl) T.b_isinstance (by rfl) T.b_tuple (by decide +kernel) (pv 1)))) pss_never pss_nil)
      (pss_one (ps_ret (pe_and (pe_callB (cr_all rfl) (by rfl) T.b_all (by decide +kernel) (pa_cons (pe_lc (own := [("item", 2)]) (g := gName 2) (tt := tYes) (by rfl) nd (pi_tup (pv 1))
        (blkOk_by (own := [("item", 2)]) (N := ["names", "value", "item"]) (sc := defScope s_are_pairs) (by decide +kernel)) (fun _ _ _ _ _ => pg_name (i := 2) nd rfl (Or.inl rfl)) (fun _ _ _ _ _ => pts_nil) (fun _ _ _ _ _ => pe_k (c_is_pair_of T) hr (by decide) (by rfl) (pa_cons (pv 0) (pa_cons (pv 2) pa_nil)))) pa_nil))
        (pe_one (pe_k (c_is_ascending T) hr (by decide) (by rfl) (pa_cons (pv 1) pa_nil)))))), ?_⟩
    refine ⟨_, rfl, _, _, _, _, _, rfl, .ty _, tyx_tup hV, kit_ty (r := true) (by decide +kernel), _, rfl, iteF ?_⟩
    refine ⟨_, rfl, v, rfl, ⟨_, hV⟩, fun D hD' => ?_⟩
    refine lc_it (walk_tup (xs := ps)) (fun i H' => H' D = some (.lst (List.replicate i (V.bl true))) ∧ Same H H') ⟨upd_same, same_upd hD'⟩ (fun _ _ _ ⟨_, s'⟩ => (Tk.of s').sqT hV) (fun i x H2 H3 hi ⟨eD, s'⟩ hy => ?_) (fun H2 ⟨eD, s'⟩ => ?_)
    · obtain ⟨rfl, hx⟩ := hy
      obtain ⟨d, g1, p1⟩ := hD.get hx
      rw [List.getElem?_map] at g1
      obtain ⟨y, k1, rfl⟩ := Option.map_eq_some_iff.mp g1
      obtain ⟨b, rfl, cb⟩ := p1.pair
      have my := List.mem_of_getElem? k1
      refine ⟨rfl, yes_ ?_⟩
      refine ⟨_, rfl, _, rfl, n, b, F.names, y.1, y.2, rfl, (Tk.of s').sqT hN, (Tk.of s').sqT cb, (ok.inN y my).1, (ok.inN y my).2, ok.asc y my, _, eD, ?_, ?_, same_put s' hD'⟩
      · rw [List.length_replicate]
        exact small1000 (by omega)
      · rw [upd_same, List.replicate_succ']
    · refine ⟨D, List.replicate _ true, rfl, SqL.of (by rw [map_rep]; exact eD), _, rfl, ?_⟩
      rw [all_true]
      refine iteT ?_
      refine ⟨_, rfl, .inr ⟨v, ps, F.pairs, rfl, (Tk.of s').sqT hV, DpAll.tk (Tk.of s') _ (flatAll_of fun d hd => ?_) hD, by omega, ok.asP, fun H4 s4 => q _ (s'.trans s4)⟩⟩
      obtain ⟨y, _, rfl⟩ := List.mem_map.mp hd
      rfl
def spNeedField (K : PySem.W.Frag) : Sp := fun vs H Q _ => ∃ (a : Addr) (F : Fld), vs = [.ref a] ∧ Dp K H (.ref a) (dField F) ∧ F.Ok ∧ ∀ H', Same H H' → Q (.ref a) H'
theorem c_need_field (T : Tx K mg) : Cl P w K mg base CX0 4 "need_field" (spNeedField K) := by
  refine cl0 T.d_need_field (ps := ["field"]) (fun _ _ _ _ _ _ us hl => match us, hl with | [_], _ => rfl) sc_need_field (fun vs H Q E h => ?_) (fun f cdv A outer st H vs Q E hr h => ?_)
  · obtain ⟨a, F, rfl, _⟩ := h
    rfl
  · obtain ⟨a, F, rfl, hF, ok, q⟩ := h
    have nd := sc_need_field.nd
    obtain ⟨_, n, p, ps, e, hA, hN, hP, hD⟩ := hF.field
    cases e
    refine ⟨_, pss_cons (ps_if (pt_not (pt_val (pe_k (c_is_pair T) hr (by decide) (by rfl) (pa_cons (pv 0) pa_nil)))) pss_never pss_nil)
      (pss_cons (ps_asg (pv 0) (pg_tup rfl (pgs_cons (pg_name (i := 1) nd rfl (.inl rfl)) (pgs_cons (pg_name (i := 2) nd rfl (.inl rfl)) pgs_nil))))
      (pss_cons (ps_if (pt_not (pt_val (pe_k (c_are_names T) hr (by decide) (by rfl) (pa_cons (pv 1) pa_nil)))) pss_never pss_nil)
      (pss_cons (ps_if (pt_not (pt_val (pe_k (c_are_pairs T) hr (by decide) (by rfl) (pa_cons (pv 1) (pa_cons (pv 2) pa_nil))))) pss_never pss_nil)
      (pss_one (ps_ret (pv 0)))))), ?_⟩
    refine ⟨_, rfl, a, _, rfl, hA, _, rfl, iteF ?_⟩
    refine ⟨_, rfl, a, _, rfl, hA, rfl, _, _, rfl, _, _, rfl, rfl, ?_⟩
    refine ⟨_, rfl, n, F.names, rfl, hN, ok.n0, ok.n6, ok.sgn, ok.asN, fun H1 s1 => ⟨_, rfl, iteF ?_⟩⟩
    refine ⟨_, rfl, _, rfl, n, p, ps, F, rfl, (Tk.of s1).sqT hN, (Tk.of s1).sqT hP, DpAll.tk (Tk.of s1) _ (flatAll_of fun d hd => ?_) hD, ok, fun H2 s2 => ⟨_, rfl, iteF ?_⟩⟩
    · obtain ⟨y, _, rfl⟩ := List.mem_map.mp hd
      rfl
    · exact ⟨_, rfl, q _ (s1.trans s2)⟩
end
end XB
set_option linter.all false
namespace XM
section
variable {α : Type} [DecidableEq α] {O : Ord α}
/-- the place of the last that touches (from the last piece on), or -1 -/
def lastIx (p : α → Bool) : Row α → Int
  | [] => -1
  | y :: r => if p y.1 then (r.length : Int) else lastIx p r
/-- a row cut where the last one touches -/
theorem last_cut {p : α → Bool} : ∀ r : Row α, (lastIx p r = -1 ∧ ∀ y ∈ r, p y.1 = false) ∨ ∃ v z r0, r = v ++ z :: r0 ∧ lastIx p r = (r0.length : Int) ∧ p z.1 = true ∧ ∀ y ∈ v, p y.1 = false
  | [] => .inl ⟨rfl, fun _ h => nomatch h⟩
  | y :: r => by
    cases h : p y.1
    · have e : lastIx p (y :: r) = lastIx p r := by
        unfold lastIx
        rw [if_neg (by rw [h]; decide)]
        cases r <;> rfl
      rcases last_cut (p := p) r with ⟨h1, h2⟩ | ⟨v, z, r0, rfl, h2, h3, h4⟩
      · exact .inl ⟨by rw [e, h1], fun w hw => (List.mem_cons.mp hw).elim (fun q => q ▸ h) (h2 w)⟩
      · exact .inr ⟨y :: v, z, r0, rfl, by rw [e, h2], h3, fun w hw => (List.mem_cons.mp hw).elim (fun q => q ▸ h) (h4 w)⟩
    · refine .inr ⟨[], y, r, rfl, ?_, h, fun _ h => nomatch h⟩
      unfold lastIx
      rw [if_pos h]
/-- how many stand at the begin that are less -/
def lead (O : Ord α) (a : α) : Row α → Nat
  | [] => 0
  | y :: r => if O.lt y.1 a then lead O a r + 1 else 0
theorem lead_le {a : α} : ∀ w : Row α, lead O a w ≤ w.length
  | [] => Nat.le_refl _
  | y :: r => by
    have := lead_le (a := a) r
    unfold lead
    split <;> simp <;> omega
theorem lead_snoc {a : α} {y : α × Int} : ∀ {w : Row α}, lead O a (w ++ [y]) = if lead O a w = w.length then (if O.lt y.1 a then w.length + 1 else w.length) else lead O a w
  | [] => by
    show (if O.lt y.1 a then 0 + 1 else 0) = _
    rw [if_pos (show lead O a [] = ([] : Row α).length from rfl)]
    rfl
  | z :: w => by
    have ih := lead_snoc (a := a) (y := y) (w := w)
    have hle := lead_le (O := O) (a := a) w
    show (if O.lt z.1 a then lead O a (w ++ [y]) + 1 else 0) = if (if O.lt z.1 a then lead O a w + 1 else 0) = (z :: w).length then _ else (if O.lt z.1 a then lead O a w + 1 else 0)
    cases h : O.lt z.1 a
    · have n : ¬ (0 = (z :: w).length) := by simp
      have q : ∀ {c d : Nat}, (if false = true then c else d) = d := fun {_ _} => rfl
      rw [q, q, if_neg n]
    · have q : ∀ {c d : Nat}, (if true = true then c else d) = c := fun {_ _} => rfl
      rw [q, q, ih, List.length_cons]
      by_cases e : lead O a w = w.length
      · rw [if_pos e, if_pos (congrArg (· + 1) e)]
        cases O.lt y.1 a <;> rfl
      · rw [if_neg e, if_neg (fun q => e (Nat.succ.inj q))]
theorem lead_all {a : α} : ∀ {w : Row α}, lead O a w = w.length ↔ ∀ y ∈ w, O.lt y.1 a = true
  | [] => by
    constructor
    · intro _ y h
      cases h
    · intro _
      rfl
  | y :: w => by
    have ih := lead_all (a := a) (w := w)
    show (if O.lt y.1 a then lead O a w + 1 else 0) = w.length + 1 ↔ _
    cases h : O.lt y.1 a
    · rw [if_neg (by decide)]
      constructor
      · intro q
        omega
      · intro q
        rw [q y List.mem_cons_self] at h
        cases h
    · rw [if_pos rfl]
      constructor
      · intro q z hz
        rcases List.mem_cons.mp hz with rfl | hz
        · exact h
        · exact ih.mp (by omega) z hz
      · intro q
        have := ih.mpr fun z hz => q z (List.mem_cons_of_mem _ hz)
        omega
/-- put among those that it may pass, ahead of the first greater one -/
def among (O : Ord α) (x : α × Int) (w : Row α) : Row α := w.take (lead O x.1 w) ++ x :: w.drop (lead O x.1 w)
theorem ins_among {x : α × Int} {r0 : Row α} (h0 : top O x.1 r0 = true) : ∀ {v : Row α}, (∀ y ∈ v, O.tc y.1 x.1 = false) → ins O x (v ++ r0) = (among O x v.reverse).reverse ++ r0 ∧ (top O x.1 (v ++ r0) = true ↔ ∀ y ∈ v, O.lt y.1 x.1 = true)
  | [], _ => ⟨by rw [List.nil_append, ins_top h0]; rfl, Iff.intro (fun _ _ h => (by cases h)) (fun _ => h0)⟩
  | y :: v, h => by
    have hy := h y List.mem_cons_self
    obtain ⟨i1, i2⟩ := ins_among h0 (v := v) fun z hz => h z (List.mem_cons_of_mem _ hz)
    have ht : top O x.1 (y :: v ++ r0) = (O.lt y.1 x.1 && top O x.1 (v ++ r0)) := top_apart hy
    have e2 : top O x.1 (y :: v ++ r0) = true ↔ ∀ z ∈ y :: v, O.lt z.1 x.1 = true := by
      rw [ht, Bool.and_eq_true, i2]
      constructor
      · rintro ⟨q1, q2⟩ z hz
        rcases List.mem_cons.mp hz with rfl | hz
        · exact q1
        · exact q2 z hz
      · exact fun q => ⟨q y List.mem_cons_self, fun z hz => q z (List.mem_cons_of_mem _ hz)⟩
    refine ⟨?_, e2⟩
    show ins O x (y :: (v ++ r0)) = _
    rw [ins_apart hy, i1, List.reverse_cons]
    have hl : lead O x.1 v.reverse = v.reverse.length ↔ top O x.1 (v ++ r0) = true := by
      rw [lead_all, i2]
      simp
    have hle := lead_le (O := O) (a := x.1) v.reverse
    unfold among
    rw [lead_snoc]
    cases hA : O.lt y.1 x.1 && top O x.1 (v ++ r0)
    · rw [if_neg (by decide)]
      have hk : (if lead O x.1 v.reverse = v.reverse.length then (if O.lt y.1 x.1 then v.reverse.length + 1 else v.reverse.length) else lead O x.1 v.reverse) = lead O x.1 v.reverse := by
        by_cases e : lead O x.1 v.reverse = v.reverse.length
        · rw [hl.mp e, Bool.and_true] at hA
          rw [if_pos e, hA, if_neg (by decide), e]
        · rw [if_neg e]
      rw [hk, List.take_append_of_le_length hle, List.drop_append_of_le_length hle]
      simp
    · obtain ⟨a1, a2⟩ := Bool.and_eq_true_iff.mp hA
      rw [if_pos rfl, if_pos (hl.mpr a2), if_pos a1]
      have e : v.reverse.length + 1 = (v.reverse ++ [y]).length := by simp
      rw [e, List.take_length, List.drop_length]
      simp
theorem ins_merge {a : α} {s t : Int} {r0 : Row α} : ∀ {v : Row α}, (∀ y ∈ v, O.tc y.1 a = false) → ins O (a, t) (v ++ (a, s) :: r0) = v ++ (if s + t = 0 then r0 else (a, s + t) :: r0) ∧ top O a (v ++ (a, s) :: r0) = false
  | [], _ => ⟨ins_same, top_same⟩
  | y :: v, h => by
    have hy := h y List.mem_cons_self
    obtain ⟨i1, i2⟩ := ins_merge (s := s) (t := t) (r0 := r0) (v := v) fun z hz => h z (List.mem_cons_of_mem _ hz)
    have ht : top O a (y :: v ++ (a, s) :: r0) = (O.lt y.1 a && top O a (v ++ (a, s) :: r0)) := top_apart hy
    refine ⟨?_, by rw [ht, i2, Bool.and_false]⟩
    show ins O (a, t) (y :: (v ++ (a, s) :: r0)) = _
    rw [ins_apart (x := (a, t)) hy, i2, Bool.and_false, if_neg (by decide), i1]
    rfl
/-- what the program does with a step, told by places of the row in its own order -/
theorem ins_code {l : Row α} {x : α × Int} {k : Int} (hk : lastIx (fun b => O.tc b x.1) l.reverse = k) :
    (k = -1 ∧ ins O x l.reverse = (among O x l).reverse) ∨
    ∃ (i : Nat) (z : α × Int), k = (i : Int) ∧ l[i]? = some z ∧
      ((z.1 ≠ x.1 ∧ ins O x l.reverse = (l.take (i + 1) ++ among O x (l.drop (i + 1))).reverse) ∨
       (z.1 = x.1 ∧ z.2 + x.2 ≠ 0 ∧ ins O x l.reverse = (l.set i (x.1, z.2 + x.2)).reverse) ∨
       (z.1 = x.1 ∧ z.2 + x.2 = 0 ∧ ins O x l.reverse = (l.eraseIdx i).reverse)) := by
  rcases last_cut (p := fun b => O.tc b x.1) l.reverse with ⟨h1, h2⟩ | ⟨v, z, r0, e, h2, h3, h4⟩
  · refine .inl ⟨by rw [← hk, h1], ?_⟩
    have := (ins_among (O := O) (x := x) (r0 := []) rfl (v := l.reverse) h2).1
    rw [List.append_nil, List.append_nil, List.reverse_reverse] at this
    exact this
  · right
    have el : l = r0.reverse ++ z :: v.reverse := by
      have := congrArg List.reverse e
      simpa using this
    have hi : l[r0.length]? = some z := by
      rw [el, List.getElem?_append_right (by simp)]
      simp
    refine ⟨r0.length, z, by rw [← hk, h2], hi, ?_⟩
    by_cases hz : z.1 = x.1
    · obtain ⟨z1, z2⟩ := z
      obtain ⟨x1, x2⟩ := x
      have hz : z1 = x1 := hz
      subst hz
      have m := (ins_merge (O := O) (a := z1) (s := z2) (t := x2) (r0 := r0) h4).1
      right
      by_cases h0 : z2 + x2 = 0
      · right
        refine ⟨rfl, h0, ?_⟩
        rw [e, m, if_pos h0, el]
        rw [List.eraseIdx_append_of_length_le (by simp)]
        simp
      · left
        refine ⟨rfl, h0, ?_⟩
        rw [e, m, if_neg h0, el]
        rw [List.set_append_right _ _ (by simp)]
        simp
    · left
      refine ⟨hz, ?_⟩
      have hc : O.tc z.1 x.1 = true := h3
      have m := (ins_among (O := O) (x := x) (r0 := z :: r0) (top_touch hc hz) h4).1
      rw [e, m]
      have t1 : l.take (r0.length + 1) = r0.reverse ++ [z] := by
        rw [el, List.take_append, List.length_reverse, Nat.add_sub_cancel_left, List.take_of_length_le (by simp)]
        rfl
      have t2 : l.drop (r0.length + 1) = v.reverse := by
        rw [el, List.drop_append, List.length_reverse, Nat.add_sub_cancel_left, List.drop_of_length_le (by simp)]
        rfl
      rw [t1, t2]
      simp
end
end XM
set_option Elab.async false
set_option linter.all false
set_option maxRecDepth 100000
set_option maxHeartbeats 4000000
namespace XB
open PySem PySem.Spec PyProof.Rows L2
theorem u65 {k : Nat} {A : Around} (r : Room k A) : A.units + 65 < cLine := by
  have := r.un
  omega
section
variable {X : Cx}
theorem op_inDTk {K : PySem.W.Frag} (hk : X.K = K) (hu : X.A.units + 65 < cLine) : OpR X (compareOp .In) (fun x y H Q => ∃ d ds, Dp K H x d ∧ Dp K H y (.tuple ds) ∧ SeqAt.shaped d = true ∧ SeqAt.shaped (.tuple ds) = true ∧ Q (.bl (ds.any fun z => PyData.eqv z d)) H) := by
  subst hk
  intro pins s σ H x y v u Q I rx ry h
  obtain ⟨d, ds, hd, he, sd, se, q⟩ := h
  obtain ⟨as, r1⟩ := Dp.reads I d x v hd rx
  obtain ⟨bs, r2⟩ := Dp.reads I (.tuple ds) y u he ry
  exact SeqAt.in_tuple_reads r2 r1 (SeqAt.canLay_of_shaped se) (SeqAt.canLay_of_shaped sd) (room_in_shaped sd hu) ⟨.bl _, H, I, rfl, q⟩
end
section
variable {P : Program} {w : World} {K : PySem.W.Frag} {mg : Str → Option Value} {base : Heap}
def spIsWhole : Sp := fun vs H Q _ => ∃ z : Int, vs = [.int z] ∧ Q (.bl true) H
theorem c_is_whole (T : Tx K mg) : Cl P w K mg base CX0 1 "is_whole" spIsWhole := by
  refine cl0 T.d_is_whole (ps := ["value"]) (fun _ _ _ _ _ _ us hl => match us, hl with | [_], _ => rfl) sc_is_whole (fun vs H Q E h => ?_) (fun f cdv A outer st H vs Q E hr h => ?_)
  · obtain ⟨z, rfl, _⟩ := h
    rfl
  · obtain ⟨z, rfl, q⟩ := h
    refine ⟨_, pss_one (ps_ret (pe_and (pe_isT "int" (by rfl) T.b_isinstance (by rfl) T.b_int (by decide +kernel) (pv 0)) (pe_one (pe_not (pe_isT "bool" (by rfl) T.b_isinstance (by rfl) T.b_bool (by decide +kernel) (pv 0)))))), ?_⟩
    refine ⟨_, rfl, _, _, _, _, _, rfl, .ty _, .base (.int z), kit_ty (r := true) (by decide +kernel), _, rfl, iteT ?_⟩
    refine ⟨_, rfl, _, _, _, _, _, rfl, .ty _, .base (.int z), kit_ty (r := false) (by decide +kernel), _, rfl, q⟩
def GoodTimes (t : Int) : Prop := t ≠ 0 ∧ -(10 ^ 30) ≤ t ∧ t ≤ 10 ^ 30
def spIsGreat (K : PySem.W.Frag) : Sp := fun vs H Q _ => ∃ (n v : Addr) (l : List Str) (s : Str × Int), vs = [.ref n, .ref v] ∧ SqT K H n (l.map V.str) ∧ SqT K H v [.str s.1, .int s.2] ∧ s.1 ∈ l ∧ s.2 ≠ 0 ∧ Q (.bl true) H
theorem c_is_great_step (T : Tx K mg) : Cl P w K mg base CX0 2 "is_great_step" (spIsGreat K) := by
  refine cl0 T.d_is_great_step (ps := ["names", "value"]) (fun _ _ _ _ _ _ us hl => match us, hl with | [_, _], _ => rfl) sc_is_great_step (fun vs H Q E h => ?_) (fun f cdv A outer st H vs Q E hr h => ?_)
  · obtain ⟨n, v, l, s, rfl, _⟩ := h
    rfl
  · obtain ⟨n, v, l, s, rfl, hN, hV, ha, t0, q⟩ := h
    have nd := sc_is_great_step.nd
    refine ⟨_, pss_cons (ps_if (pt_not (pt_val (pe_k (c_is_pair T) hr (by decide) (by rfl) (pa_cons (pv 1) pa_nil)))) pss_never pss_nil)
      (pss_cons (ps_asg (pv 1) (pg_tup rfl (pgs_cons (pg_name (i := 2) nd rfl (.inl rfl)) (pgs_cons (pg_name (i := 3) nd rfl (.inl rfl)) pgs_nil))))
      (pss_one (ps_ret (pe_and (pe_cmpR op_in_seq (pv 2) (pv 0) (by rfl)) (pe_and (pe_k (c_is_whole T) hr (by decide) (by rfl) (pa_cons (pv 3) pa_nil)) (pe_one (pe_cmpR op_ne (pv 3) pe_int (nomark _)))))))), ?_⟩
    refine ⟨_, rfl, v, _, rfl, hV, _, rfl, iteF ?_⟩
    refine ⟨_, rfl, v, _, rfl, hV, rfl, _, _, rfl, _, _, rfl, rfl, ?_⟩
    refine ⟨_, rfl, _, rfl, n, _, rfl, .inr hN, rfl, flat_strs l, _, rfl, ?_⟩
    rw [if_neg Bool.false_ne_true, inV_strs, show l.contains s.1 = true by simpa using ha]
    refine iteT ⟨_, rfl, _, rfl, _, rfl, iteT ?_⟩
    refine ⟨_, rfl, rfl, ?_⟩
    have e : (!decide (V.int s.2 = V.int 0)) = true := by
      rw [dec_int]
      simp [t0]
    rw [e]
    exact q
def spIsTimes : Sp := fun vs H Q _ => ∃ z : Int, vs = [.int z] ∧ GoodTimes z ∧ Q (.bl true) H
theorem c_is_times (T : Tx K mg) : Cl P w K mg base CX0 2 "is_times" spIsTimes := by
  refine cl0 T.d_is_times (ps := ["value"]) (fun _ _ _ _ _ _ us hl => match us, hl with | [_], _ => rfl) sc_is_times (fun vs H Q E h => ?_) (fun f cdv A outer st H vs Q E hr h => ?_)
  · obtain ⟨z, rfl, _⟩ := h
    rfl
  · obtain ⟨z, rfl, ⟨t0, t1, t2⟩, q⟩ := h
    obtain ⟨tk, hMT⟩ := T.g_MOST_TIMES
    refine ⟨_, pss_one (ps_ret (pe_and (pe_k (c_is_whole T) hr (by decide) (by rfl) (pa_cons (pv 0) pa_nil)) (pe_and (pe_cmpR op_ne (pv 0) pe_int (nomark _))
        (pe_one (pe_cmpR op_le (pe_callB call_abs (by rfl) T.b_abs (by decide +kernel) (pa_cons (pv 0) pa_nil)) (pe_glob (v := .int (10 ^ 30)) (by rfl) hMT ⟨_, rfl⟩) (nomark _)))))), ?_⟩
    refine ⟨_, rfl, _, rfl, _, rfl, iteT ?_⟩
    refine ⟨_, rfl, rfl, _, rfl, ?_⟩
    have e : (!decide (V.int z = V.int 0)) = true := by
      rw [dec_int]
      simp [t0]
    rw [e]
    refine iteT ⟨_, rfl, _, rfl, _, _, rfl, rfl, ?_⟩
    have e2 : decide ((if z < 0 then -z else z) ≤ 10 ^ 30) = true := by
      refine decide_eq_true ?_
      split <;> omega
    show Q (.bl (decide ((if z < 0 then -z else z) ≤ 10 ^ 30))) H
    rw [e2]
    exact q
def spIsStep (K : PySem.W.Frag) : Sp := fun vs H Q _ => ∃ (n v : Addr) (l : List Str) (s : Str × Int), vs = [.ref n, .ref v] ∧ SqT K H n (l.map V.str) ∧ SqT K H v [.str s.1, .int s.2] ∧ s.1 ∈ l ∧ GoodTimes s.2 ∧ Q (.bl true) H
theorem c_is_step (T : Tx K mg) : Cl P w K mg base CX0 3 "is_step" (spIsStep K) := by
  refine cl0 T.d_is_step (ps := ["names", "value"]) (fun _ _ _ _ _ _ us hl => match us, hl with | [_, _], _ => rfl) sc_is_step (fun vs H Q E h => ?_) (fun f cdv A outer st H vs Q E hr h => ?_)
  · obtain ⟨n, v, l, s, rfl, _⟩ := h
    rfl
  · obtain ⟨n, v, l, s, rfl, hN, hV, ha, gt, q⟩ := h
    refine ⟨_, pss_one (ps_ret (pe_and (pe_k (c_is_great_step T) hr (by decide) (by rfl) (pa_cons (pv 0) (pa_cons (pv 1) pa_nil)))
        (pe_one (pe_k (c_is_times T) hr (by decide) (by rfl) (pa_cons (pe_ix (ixk_tup (K := K) rfl) (pv 1) pe_int (fun _ _ => rfl)) pa_nil))))), ?_⟩
    refine ⟨_, rfl, _, rfl, n, v, l, s, rfl, hN, hV, ha, gt.1, _, rfl, iteT ?_⟩
    exact ⟨_, rfl, v, _, _, _, rfl, rfl, hV, rfl, _, rfl, gt, q⟩
def GoodScript (F : Fld) (l : List (Str × Int)) : Prop := l.length ≤ 60 ∧ ∀ s ∈ l, s.1 ∈ F.names ∧ GoodTimes s.2
def spNeedScript (K : PySem.W.Frag) : Sp := fun vs H Q _ => ∃ (a d : Addr) (F : Fld) (l : List (Str × Int)), vs = [.ref a, .ref d] ∧ Dp K H (.ref a) (dField F) ∧ F.Ok ∧ Dp K H (.ref d) (dSteps l) ∧ GoodScript F l ∧ ∀ H', Same H H' → Q (.ref d) H'
theorem c_need_script (T : Tx K mg) : Cl P w K mg base CX0 5 "need_script" (spNeedScript K) := by
  refine cl0 T.d_need_script (ps := ["field", "deeds"]) (fun _ _ _ _ _ _ us hl => match us, hl with | [_, _], _ => rfl) sc_need_script (fun vs H Q E h => ?_) (fun f cdv A outer st H vs Q E hr h => ?_)
  · obtain ⟨a, d, F, l, rfl, _⟩ := h
    rfl
  · obtain ⟨a, d, F, l, rfl, hF, ok, hL, ⟨l60, hg⟩, q⟩ := h
    have nd := sc_need_script.nd
    obtain ⟨tk, hMS⟩ := T.g_MOST_STEPS
    refine ⟨_, pss_cons (ps_asg (pe_k (c_need_field T) hr (by decide) (by rfl) (pa_cons (pv 0) pa_nil)) (pg_tup rfl (pgs_cons (pg_name (i := 2) nd rfl (.inl rfl)) (pgs_cons (pg_name (i := 3) nd rfl (.inl rfl)) pgs_nil))))
      (pss_cons (ps_if (PW.pt (pw_or (pt_not (pt_val (pe_isT "tuple" (by rfl) T.b_isinstance (by rfl) T.b_tuple (by decide +kernel) (pv 1)))) (pw_or1 (pt_cmpR op_gt (pe_lenS (by rfl) T.b_len (pv 1)) (pe_glob (v := .int 60) (by rfl) hMS ⟨_, rfl⟩) (nomark _))))) pss_never pss_nil)
      (pss_cons (ps_for PassesOwn.never rfl (pi_enumT (by rfl) T.b_enumerate (pa_cons (pv 1) pa_nil)) (pg_tup rfl (pgs_cons (pg_name (i := 4) nd rfl (.inl rfl)) (pgs_cons (pg_name (i := 5) nd rfl (.inl rfl)) pgs_nil)))
        (pss_one (ps_if (pt_not (pt_val (pe_k (c_is_step T) hr (by decide) (by rfl) (pa_cons (pv 2) (pa_cons (pv 5) pa_nil))))) pss_never pss_nil)))
      (pss_one (ps_ret (pv 1))))), ?_⟩
    refine ⟨_, rfl, a, F, rfl, hF, ok, fun H1 s1 => ?_⟩
    obtain ⟨_, n, p, ps, e, hA, hN, hP, hD⟩ := (Dp.tk (Tk.of s1) (dField F) (flat_field F) hF).field
    cases e
    obtain ⟨_, vs, e, hS, hV⟩ := (Dp.tk (Tk.of s1) (dSteps l) (flat_steps l) hL).steps
    cases e
    have hl := hV.len
    rw [List.length_map] at hl
    refine ⟨a, _, rfl, hA, rfl, _, _, rfl, _, _, rfl, rfl, ?_⟩
    refine ⟨_, rfl, _, _, _, _, _, rfl, .ty _, tyx_tup hS, kit_ty (r := true) (by decide +kernel), _, rfl, iteF ?_⟩
    refine ⟨_, rfl, d, _, rfl, .inr hS, _, _, rfl, rfl, _, rfl, ?_⟩
    rw [show decide ((60 : Int) < (vs.length : Int)) = false from decide_eq_false (by omega)]
    refine iteF ?_
    refine ⟨_, rfl, d, vs, rfl, hS, for_it (walk_IeT (xs := vs)) (fun i σ H2 => ∃ (y4 y5 : Option V), σ = [some (.ref a), some (.ref d), some (.ref n), some (.ref p), y4, y5] ∧ Same H1 H2)
      ⟨none, none, rfl, Same.refl _⟩ (fun i σ H2 _ ⟨y4, y5, _, s2⟩ => (Tk.of s2).sqT hS) (fun i x σ H2 H3 hi ⟨y4, y5, eσ, s2⟩ hy => ?_) (fun σ H2 ⟨y4, y5, eσ, s2⟩ => ?_)⟩
    · obtain ⟨Tt, x1, x2, rfl, nT, rfl, f1, f2⟩ := hy
      subst eσ
      obtain ⟨d', g1, p1⟩ := hV.get f2
      rw [List.getElem?_map] at g1
      obtain ⟨s, k1, rfl⟩ := Option.map_eq_some_iff.mp g1
      obtain ⟨b, rfl, cb⟩ := p1.step
      have ms := hg s (List.mem_of_getElem? k1)
      have s3 := same_new (o := .tup [x1, .ref b]) s2 nT
      refine ⟨Tt, _, rfl, SqT.of upd_same, rfl, _, _, rfl, _, _, rfl, rfl, ?_⟩
      refine ⟨_, rfl, _, rfl, n, b, F.names, s, rfl, (Tk.of s3).sqT hN, (Tk.of s3).sqT cb, ms.1, ms.2, _, rfl, iteF ?_⟩
      exact ⟨_, _, rfl, s3⟩
    · subst eσ
      exact ⟨_, rfl, q _ (s1.trans s2)⟩
/-! ### touching -/
theorem any_pairs (ps : List (Str × Str)) (a b : Str) : (ps.map dPair).any (fun z => PyData.eqv z (dPair (a, b))) = ps.contains (a, b) := by
  induction ps with
  | nil => rfl
  | cons p r ih =>
    rw [List.map_cons, List.any_cons, ih, List.contains_cons]
    congr 1
    obtain ⟨c, d⟩ := p
    show (PyData.eqv (.str c) (.str a) && (PyData.eqv (.str d) (.str b) && true)) = ((a, b) == (c, d))
    show ((c == a) && ((d == b) && true)) = ((a == c) && (b == d))
    rw [Bool.and_true]
    rw [show (c == a) = (a == c) from BEq.comm, show (d == b) = (b == d) from BEq.comm]
theorem strOk_of {n : Str} (h : GoodName n) : PyData.strOk n = true := by
  obtain ⟨h1, h6, hc⟩ := h
  unfold PyData.strOk
  rw [← Array.all_toList, List.all_eq_true]
  intro c m
  have := hc c m
  exact decide_eq_true (by omega)
theorem lay_pair {p : Str × Str} (h1 : GoodName p.1) (h2 : GoodName p.2) : (dPair p).canLay0 = true := by
  show PyData.canLay0 (.tuple [.str p.1, .str p.2]) = true
  simp [PyData.canLay0, PyData.canLayAll0, strOk_of h1, strOk_of h2]
theorem sh_pair {p : Str × Str} (h1 : GoodName p.1) (h2 : GoodName p.2) : SeqAt.shaped (dPair p) = true := by
  unfold SeqAt.shaped
  rw [lay_pair h1 h2]
  show (true && _) = true
  simp [dPair, PyData.depth, PyData.depthAll]
theorem layPairs : ∀ {ps : List (Str × Str)}, (∀ p ∈ ps, GoodName p.1 ∧ GoodName p.2) → PyData.canLayAll0 (ps.map dPair) = true
  | [], _ => rfl
  | p :: ps, h => by
    rw [List.map_cons, PyData.canLayAll0, layPairs fun x hx => h x (List.mem_cons_of_mem _ hx), lay_pair (h p List.mem_cons_self).1 (h p List.mem_cons_self).2]
    rfl
theorem deepPairs : ∀ ps : List (Str × Str), PyData.depthAll (ps.map dPair) ≤ 2
  | [] => by decide
  | p :: ps => by
    rw [List.map_cons, PyData.depthAll]
    have := deepPairs ps
    have e : (dPair p).depth ≤ 2 := by
      show PyData.depth (.tuple [.str p.1, .str p.2]) ≤ 2
      simp [PyData.depth, PyData.depthAll]
    omega
theorem sh_pairs {ps : List (Str × Str)} (h : ∀ p ∈ ps, GoodName p.1 ∧ GoodName p.2) : SeqAt.shaped (.tuple (ps.map dPair)) = true := by
  have h2 := deepPairs ps
  show (PyData.canLayAll0 (ps.map dPair) && decide (PyData.depthAll (ps.map dPair) + 1 ≤ 64)) = true
  rw [layPairs h, Bool.true_and]
  exact decide_eq_true (by omega)
theorem Fld.Ok.good {F : Fld} (ok : F.Ok) : ∀ p ∈ F.pairs, GoodName p.1 ∧ GoodName p.2 := fun p hp => ⟨ok.sgn _ (ok.inN p hp).1, ok.sgn _ (ok.inN p hp).2⟩
def spAreApart (K : PySem.W.Frag) : Sp := fun vs H Q _ => ∃ (p : Addr) (ps : List V) (F : Fld) (a b : Str), vs = [.ref p, .str a, .str b] ∧ SqT K H p ps ∧ DpAll K H ps (F.pairs.map dPair) ∧ F.Ok ∧ a ∈ F.names ∧ b ∈ F.names ∧ ∀ H', Same H H' → Q (.bl (apart F a b)) H'
theorem c_are_apart (T : Tx K mg) : Cl P w K mg base CX0 1 "are_apart" (spAreApart K) := by
  refine cl0 T.d_are_apart (ps := ["pairs", "one", "other"]) (fun _ _ _ _ _ _ us hl => match us, hl with | [_, _, _], _ => rfl) sc_are_apart (fun vs H Q E h => ?_) (fun f cdv A outer st H vs Q E hr h => ?_)
  · obtain ⟨p, ps, F, a, b, rfl, _⟩ := h
    rfl
  · obtain ⟨p, ps, F, a, b, rfl, hP, hD, ok, ma, mb, q⟩ := h
    have hu := u65 hr
    refine ⟨_, pss_one (ps_ret (pe_cmpR (op_inDTk (K := K) rfl hu) (pe_tup (pa_cons (pe_callB (call_min2S rfl) (by rfl) T.b_min (by decide +kernel) (pa_cons (pv 1) (pa_cons (pv 2) pa_nil)))
      (pa_cons (pe_callB (call_max2S rfl) (by rfl) T.b_max (by decide +kernel) (pa_cons (pv 1) (pa_cons (pv 2) pa_nil))) pa_nil))) (pv 0) (by rfl))), ?_⟩
    refine ⟨_, rfl, _, rfl, _, _, rfl, _, rfl, _, rfl, _, _, rfl, (show 2 ≤ sizeLine by decide), fun t ht => ⟨_, rfl, dPair ((if sLt b a then b else a), (if sLt a b then b else a)), F.pairs.map dPair, .tup (SqT.of upd_same) (.cons (.str _) (.cons (.str _) .nil)), .tup ((Tk.of (same_upd ht)).sqT hP) (DpAll.tk (Tk.of (same_upd ht)) _ (flatAll_of fun d hd => ?_) hD), sh_pair ?_ ?_, sh_pairs ok.good, ?_⟩⟩
    · obtain ⟨y, _, rfl⟩ := List.mem_map.mp hd
      rfl
    · show GoodName (if sLt b a then b else a)
      split <;> first | exact ok.sgn _ ma | exact ok.sgn _ mb
    · show GoodName (if sLt a b then b else a)
      split <;> first | exact ok.sgn _ ma | exact ok.sgn _ mb
    · rw [any_pairs, apart_min ok]
      exact q _ (same_upd ht)
def spNamesTouching (K : PySem.W.Frag) : Sp := fun vs H Q _ => ∃ (a : Addr) (F : Fld) (n : Str), vs = [.ref a, .str n] ∧ Dp K H (.ref a) (dField F) ∧ F.Ok ∧ n ∈ F.names ∧ ∀ H' q, Same H H' → SqT K H' q ((touchL F n).map V.str) → Q (.ref q) H'
theorem c_names_touching (T : Tx K mg) : Cl P w K mg base CX0 2 "names_touching" (spNamesTouching K) := by
  refine cl0 T.d_names_touching (ps := ["field", "name"]) (fun _ _ _ _ _ _ us hl => match us, hl with | [_, _], _ => rfl) sc_names_touching (fun vs H Q E h => ?_) (fun f cdv A outer st H vs Q E hr h => ?_)
  · obtain ⟨a, F, n, rfl, _⟩ := h
    rfl
  · obtain ⟨a, F, m, rfl, hF, ok, mn, q⟩ := h
    have nd := sc_names_touching.nd
    obtain ⟨_, n, p, ps, e, hA, hN, hP, hD⟩ := hF.field
    cases e
    refine ⟨_, pss_cons (ps_asg (pv 0) (pg_tup rfl (pgs_cons (pg_name (i := 2) nd rfl (by first | exact .inl rfl | exact .inr rfl)) (pgs_cons (pg_name (i := 3) nd rfl (by first | exact .inl rfl | exact .inr rfl)) pgs_nil))))
      (pss_one (ps_ret (pe_tupleOf (by rfl) T.b_tuple (pe_lc (own := [("other", 4)]) (g := gName 4) (tt := _) (by rfl) nd (pi_tup (pv 2))
        (blkOk_by (own := [("other", 4)]) (N := ["field", "name", "names", "pairs", "other"]) (sc := defScope s_names_touching) (by decide +kernel)) (fun _ _ _ _ _ => pg_name (i := 4) nd rfl (Or.inl rfl))
        (fun _ _ _ _ _ => pts_one (pt_not (pt_val (pe_k (c_are_apart T) hr (by decide) (by rfl) (pa_cons (pv 3) (pa_cons (pv 1) (pa_cons (pv 4) pa_nil))))))) (fun _ _ _ _ _ => pv 4))))), ?_⟩
    refine ⟨_, rfl, a, _, rfl, hA, rfl, _, _, rfl, _, _, rfl, rfl, ?_⟩
    refine ⟨_, rfl, n, rfl, ⟨_, hN⟩, fun D hD' => ?_⟩
    refine lc_it (walk_tup (xs := F.names.map V.str)) (fun i H' => H' D = some (.lst (((F.names.take i).filter fun o => !apart F m o).map V.str)) ∧ Same H H') ⟨upd_same, same_upd hD'⟩ (fun _ _ _ ⟨_, s'⟩ => (Tk.of s').sqT hN) (fun i x H2 H3 hi ⟨eD, s'⟩ hy => ?_) (fun H2 ⟨eD, s'⟩ => ?_)
    · obtain ⟨rfl, hx⟩ := hy
      obtain ⟨o, ho, rfl⟩ := str_at hx
      have mo := List.mem_of_getElem? ho
      refine ⟨rfl, ?_⟩
      refine ⟨_, rfl, _, rfl, _, rfl, p, ps, F, m, o, rfl, (Tk.of s').sqT hP, DpAll.tk (Tk.of s') _ (flatAll_of fun d hd => ?_) hD, ok, mn, mo, fun H4 s4 => ⟨_, rfl, ?_⟩⟩
      · obtain ⟨y, _, rfl⟩ := List.mem_map.mp hd
        rfl
      · have et : F.names.take (i + 1) = F.names.take i ++ [o] := by
          rw [List.take_add_one, ho]
          rfl
        rw [et, List.filter_append, List.map_append]
        cases ha : apart F m o
        · refine iteT ⟨_, rfl, _, s4 _ _ eD, ?_, ?_, same_put (s'.trans s4) hD'⟩
          · rw [List.length_map]
            refine small1000 (Nat.le_trans (List.length_filter_le _ _) ?_)
            have := ok.n6
            rw [List.length_take]
            omega
          · rw [upd_same]
            simp [ha]
        · refine iteF ⟨?_, s'.trans s4⟩
          rw [s4 _ _ eD]
          simp [ha]
    · rw [List.length_map, List.take_length] at eD
      exact .inl ⟨D, _, rfl, SqL.of eD, fun r hr' => q _ r (same_new s' hr') (SqT.of upd_same)⟩
def TouchAt (K : PySem.W.Frag) (H : Hp) (t : Addr) (F : Fld) : Prop := ∃ kvs : List (Key × V), H t = some (.dK kvs) ∧ ∀ n ∈ F.names, ∃ a, valV kvs (.inr n) = some (.ref a) ∧ SqT K H a ((touchL F n).map V.str)
theorem TouchAt.same {K : PySem.W.Frag} {H H' : Hp} {t : Addr} {F : Fld} (h : TouchAt K H t F) (s : Same H H') : TouchAt K H' t F := by
  obtain ⟨kvs, e, g⟩ := h
  refine ⟨kvs, s _ _ e, fun n hn => ?_⟩
  obtain ⟨a, e1, e2⟩ := g n hn
  exact ⟨a, e1, (Tk.of s).sqT e2⟩
def spTouchTable (K : PySem.W.Frag) : Sp := fun vs H Q _ => ∃ (a : Addr) (F : Fld), vs = [.ref a] ∧ Dp K H (.ref a) (dField F) ∧ F.Ok ∧ ∀ H' t, Same H H' → H t = none → TouchAt K H' t F → Q (.ref t) H'
theorem c_touch_table (T : Tx K mg) : Cl P w K mg base CX0 3 "touch_table" (spTouchTable K) := by
  refine cl0 T.d_touch_table (ps := ["field"]) (fun _ _ _ _ _ _ us hl => match us, hl with | [_], _ => rfl) sc_touch_table (fun vs H Q E h => ?_) (fun f cdv A outer st H vs Q E hr h => ?_)
  · obtain ⟨a, F, rfl, _⟩ := h
    rfl
  · obtain ⟨a, F, rfl, hF, ok, q⟩ := h
    have nd := sc_touch_table.nd
    obtain ⟨_, n, p, ps, e, hA, hN, hP, hD⟩ := hF.field
    cases e
    refine ⟨_, pss_cons (ps_asg (pv 0) (pg_tup rfl (pgs_cons (pg_name (i := 1) nd rfl (by first | exact .inl rfl | exact .inr rfl)) (pgs_cons (pg_name (i := 2) nd rfl (by first | exact .inl rfl | exact .inr rfl)) pgs_nil))))
      (pss_one (ps_ret (pe_dc (own := [("name", 3)]) (g := gName 3) (tt := tYes) (by rfl) nd (pi_tup (pv 1))
        (blkOk_by (own := [("name", 3)]) (N := ["field", "names", "_", "name"]) (sc := defScope s_touch_table) (by decide +kernel)) (fun _ _ _ _ _ => pg_name (i := 3) nd rfl (Or.inl rfl))
        (fun _ _ _ _ _ => pts_nil) (fun _ _ _ _ _ => pv 3) (fun _ _ _ _ _ => pe_k (c_names_touching T) hr (by decide) (by rfl) (pa_cons (pv 0) (pa_cons (pv 3) pa_nil)))))), ?_⟩
    refine ⟨_, rfl, a, _, rfl, hA, rfl, _, _, rfl, _, _, rfl, rfl, ?_⟩
    refine ⟨_, rfl, n, rfl, ⟨_, hN⟩, fun D hD' => ?_⟩
    refine dc_tup (xs := F.names.map V.str) (fun i H' => ∃ kvs : List (Key × V), H' D = some (.dK kvs) ∧ kvs.length ≤ i ∧ (∀ n ∈ F.names.take i, ∃ a, valV kvs (.inr n) = some (.ref a) ∧ SqT K H' a ((touchL F n).map V.str)) ∧ Same H H')
      ⟨[], upd_same, Nat.le_refl _, (fun n hn => nomatch hn), same_upd hD'⟩ (fun _ _ _ ⟨_, _, _, _, s'⟩ => (Tk.of s').sqT hN) (fun i x H2 hx ⟨kvs, eD, kl, kk, s'⟩ => ?_) (fun H2 ⟨kvs, eD, kl, kk, s'⟩ => ?_)
    · obtain ⟨o, ho, rfl⟩ := str_at hx
      have mo := List.mem_of_getElem? ho
      have hi := (List.getElem?_eq_some_iff.mp ho).1
      refine ⟨rfl, yes_ ?_⟩
      refine ⟨_, rfl, _, rfl, _, rfl, a, F, o, rfl, Dp.tk (Tk.of s') _ (flat_field F) hF, ok, mo, fun H4 r s4 hr' => ⟨kvs, .inr o, rfl, s4 _ _ eD, ?_, putK kvs (.inr o) (.ref r), upd_same, ?_, fun x hx' => ?_, same_put (s'.trans s4) hD'⟩⟩
      · have := ok.n6
        exact small1000 (by omega)
      · have := length_putK kvs (.inr o) (.ref r)
        omega
      · have k4 : Tk H4 (upd H4 D (.dK (putK kvs (.inr o) (.ref r)))) := Tk.refl.mut (s4 _ _ eD) (fun _ q => nomatch q) (fun _ _ q => nomatch q)
        rw [valV_put]
        by_cases e : x = o
        · subst e
          exact ⟨r, if_pos rfl, k4.sqT hr'⟩
        · rw [List.take_add_one, ho] at hx'
          have m : x ∈ F.names.take i := by
            rcases List.mem_append.mp hx' with h | h
            · exact h
            · exact absurd (List.mem_singleton.mp h) e
          obtain ⟨b, e1, e2⟩ := kk x m
          refine ⟨b, ?_, k4.sqT ((Tk.of s4).sqT e2)⟩
          rw [if_neg (fun q => e (Sum.inr.inj q))]
          exact e1
    · rw [List.length_map, List.take_length] at kk
      exact q _ D s' hD' ⟨kvs, eD, kk⟩
end
end XB
set_option Elab.async false
set_option linter.all false
set_option maxRecDepth 100000
set_option maxHeartbeats 4000000
/-! t[::-1] of a tuple -/
namespace HT
open PySem PySem.Spec PyProof.Rows
section
variable {prog : Program} {w : World} {A : Around} {E : Value → Shared → Prop} {s : Shared}
theorem adjust_rev (n : Nat) : Builtin.Slice.sliceAdjust none none (-1) (n : Int) = ((n : Int) - 1, -1) := by
  unfold Builtin.Slice.sliceAdjust
  rfl
theorem places_rev (n : Nat) : Builtin.Slice.slicePlaces ((n : Int) - 1) (-1) (-1) = n := by
  unfold Builtin.Slice.slicePlaces
  have h1 : ¬ ((-1 : Int) > 0) := by decide
  simp only [h1, if_false]
  rw [show (- -1 : Int) = 1 from rfl, Int.ediv_one]
  split <;> omega
theorem sliceApplied_rev {sl : Addr} {n : Nat} {u : Tok} {Q : Int × Int × Nat → Shared → Prop} (hs : s.heap.IsSliceOf sl .none .none (.int (-1) u))
    (h : Q ((n : Int) - 1, -1, n) s) : wpAny (model prog w) A (Builtin.Slice.sliceApplied (.ref sl) (pure (n : Int))) Q E s := by
  obtain ⟨os, hos, hcs, hds⟩ := id hs
  unfold Builtin.Slice.sliceApplied Builtin.Slice.sliceFields
  refine wpAny_bind (wpAny_bind (wpAny_field hos hds (x := .none) rfl (wpAny_bind (wpAny_field hos hds (x := .none) rfl (wpAny_bind (wpAny_field hos hds (x := .int (-1) u) rfl (wpAny_pure ?_)))))))
  refine wpAny_bind (slicePart_int ?_)
  show wpAny _ _ (if ((-1 : Int) == 0) = true then _ else _) _ _ s
  rw [if_neg (by decide)]
  refine wpAny_bind (slicePart_none (wpAny_bind (slicePart_none (wpAny_bind (wpAny_pure ?_)))))
  show wpAny _ _ (match Builtin.Slice.sliceAdjust none none (-1) (n : Int) with | (lo, hi) => pure (lo, (-1 : Int), Builtin.Slice.slicePlaces lo hi (-1))) _ _ s
  rw [adjust_rev n]
  show wpAny _ _ (pure ((n : Int) - 1, (-1 : Int), Builtin.Slice.slicePlaces ((n : Int) - 1) (-1) (-1))) _ _ s
  rw [places_rev]
  exact wpAny_pure h
theorem pick_rev (xs : Array Value) : ((List.range xs.size).filterMap fun (m : Nat) => xs[(((xs.size : Int) - 1) + (m : Int) * -1).toNat]?).toArray = xs.toList.reverse.toArray := by
  have e : (fun (m : Nat) => xs[(((xs.size : Int) - 1) + (m : Int) * -1).toNat]?) = (fun k => xs[k]?) ∘ fun m => xs.size - 1 - m := by
    funext m
    have : (((xs.size : Int) - 1) + (m : Int) * -1).toNat = xs.size - 1 - m := by omega
    rw [this]
    rfl
  rw [e, ← List.filterMap_map, PySem.W.krv_range, List.filterMap_reverse, PySem.W.krv_all]
theorem getItem_tuple_rev {t sl : Addr} {items : Array Value} {u : Tok} {Q : Value → Shared → Prop} (ht : IsTup s.heap t items) (hs : s.heap.IsSliceOf sl .none .none (.int (-1) u))
    (h : Q (.ref s.heap.objs.size) { s with heap := s.heap.push { cls := .type "tuple", data := .seq items.toList.reverse.toArray } })
    (hsz : items.size ≤ sizeLine) : wpAny (model prog w) A (getItem (.ref t) (.ref sl)) Q E s := by
  have htake : sizeOk (.seq items.toList.reverse.toArray) := by
    show items.toList.reverse.toArray.size ≤ sizeLine
    rw [List.size_toArray, List.length_reverse, Array.length_toList]
    exact hsz
  obtain ⟨os, hos, hcs, hds⟩ := id hs
  have hTs : s.TypeIs (.ref sl) "slice" := ⟨os, hos, hcs⟩
  unfold getItem
  try with_reducible refine wpAny_holding ?_
  first | refine wpAny_bind (wpAny_pure ?_) | skip
  refine wpAny_bind (wpAny_sequenceKey ht.typeIs (by decide) ?_)
  refine wpAny_bind (wpAny_callSpecial?_slot (name := Str.ofString "__getitem__") ht.typeIs PyProof.Rows.slot_tuple_getitem
    (wpAny_call_entry PyProof.Rows.slot_tuple_getitem ht.typeIs entry_tuple_getitem ?_ (args_tuple_getitem _ _)))
  show wpAny _ _ (Builtin.Tuple.tupleItemsOf (.ref t) >>= _) _ _ s
  refine wpAny_bind (tupleItemsOf_ ht ?_)
  refine wpAny_bind (wpAny_typeOf hTs ?_)
  rw [if_pos (by decide)]
  refine wpAny_bind (sliceApplied_rev hs ?_)
  have hno : ¬ ((((items.size : Int) - 1) == 0 && (-1 : Int) == 1 && items.size == items.size) = true) := by
    intro q
    rw [Bool.and_eq_true, Bool.and_eq_true] at q
    exact absurd q.1.2 (by decide)
  show wpAny _ _ (if ((((items.size : Int) - 1) == 0 && (-1 : Int) == 1 && items.size == items.size) = true) then _ else _) _ _ s
  rw [if_neg hno, pick_rev]
  first
    | exact wpAny_bind (m := Builtin.Tuple.tupleExact _) (wpAny_newObj_type (wpAny_pure ⟨_, rfl, wpAny_pure h⟩) htake)
    | exact wpAny_bind (m := Builtin.Tuple.tupleExact _) (wpAny_newObj_type (wpAny_bind (wpAny_pure (wpAny_pure ⟨_, rfl, wpAny_pure h⟩))) htake)
    | exact wpAny_bind (wpAny_bind (m := Builtin.Tuple.tupleExact _) (wpAny_newObj_type (wpAny_pure (wpAny_pure ⟨_, rfl, wpAny_pure h⟩)) htake))
    | exact wpAny_bind (wpAny_bind (m := Builtin.Tuple.tupleExact _) (wpAny_newObj_type (wpAny_pure ⟨_, rfl, wpAny_pure h⟩) htake))
end
end HT
namespace XB
open PySem PySem.Spec PyProof.Rows L2
section
variable {X : Cx}
def tRevT (K : PySem.W.Frag) (te : TE) : TE := fun σ H Q => te σ H fun x H1 => ∃ a xs, x = .ref a ∧ SqT K H1 a xs ∧ ∀ p, H1 p = none → Q (.ref p) (upd H1 p (.tup xs.reverse))
theorem pe_revT {e : Expr} {te : TE} {k : Nat} {p1 p2 p3 pos : Pos} (he : PE X e te) : PE X (.Subscript e (.Slice none none (some (.UnaryOp .USub (.Constant (.int 1) k p1) p2)) p3) pos) (tRevT X.K te) := by
  refine ⟨fun pins s σ H Q I h => ?_⟩
  refine Subscript_ (thn (he.run pins s σ H _ I h) fun v s1 ⟨x, H1, I1, r1, q1⟩ => ?_)
  obtain ⟨a, xs, ex, hx, q⟩ := q1
  subst ex
  cases r1
  have hst : PO X (some (.UnaryOp .USub (.Constant (.int 1) k p1) p2)) (tPart (tUn (rU fun i => .int (-i)) (tC (.int 1)))) := po_some (pe_un un_neg pe_int)
  refine wpAny_Slice (thn (po_none.run pins s1 σ H1 (fun o H2 => o = none ∧ H2 = H1) I1 ⟨rfl, rfl⟩) fun vl s2 ⟨l, H2, I2, pl, el, e2⟩ => ?_)
  subst el e2
  refine thn (po_none.run pins s2 σ H2 (fun o H3 => o = none ∧ H3 = H2) I2 ⟨rfl, rfl⟩) fun vu s3 ⟨u, H3, I3, pu, eu, e3⟩ => ?_
  subst eu e3
  refine thn (hst.run pins s3 σ H3 (fun o H4 => o = some (-1) ∧ H4 = H3) I3 ⟨1, rfl, -1, rfl, rfl, rfl⟩) fun vs s4 ⟨o, H4, I4, ps, eo, e4⟩ => ?_
  subst eo e4
  cases pl
  cases pu
  cases ps with
  | int i tk =>
    have I5 : Inv X pins σ H4 { s4 with heap := s4.heap.push { cls := .type "slice", data := .fields #[.none, .none, .int (-1) tk] } } := I4.kept (t' := s4.toks) fun b ob q => Heap.get?_push_of_some _ q
    obtain ⟨its, r, ht, hz⟩ := I5.tuple hx
    have hlen := r.length
    show wpAny (model X.prog X.w) X.A (subscriptTail e (.Slice none none (some (.UnaryOp .USub (.Constant (.int 1) k p1) p2)) p3) (.ref a) (.ref s4.heap.objs.size)) (EP X pins σ Q) X.xe { s4 with heap := s4.heap.push { cls := .type "slice", data := .fields #[.none, .none, .int (-1) tk] } }
    refine tail_any (ops := [.ref a, .ref s4.heap.objs.size]) ht.typeIs PyProof.Rows.slot_tuple_getitem.lookup ?_ (by with_unfolding_all rfl)
    refine HT.getItem_tuple_rev ht (Heap.IsSliceOf.new _ .none .none (.int (-1) tk)) ?_ (by rw [List.size_toArray]; omega)
    refine ⟨.ref _, _, I5.laid (t' := s4.toks) (o := .tup xs.reverse) (fun b ob q => Heap.get?_push_of_some _ q) (Nat.le_refl _) ?_, rfl, q _ (I5.hok.fresh (Nat.le_refl _))⟩
    exact ⟨by rw [List.length_reverse]; exact hz, _, r.reverse, ⟨_, Heap.get?_push_size _ rfl, rfl, _, rfl⟩⟩
end
end XB
set_option Elab.async false
set_option linter.all false
set_option maxRecDepth 100000
set_option maxHeartbeats 4000000
/-! rules of rows, lists or tuples -/
namespace XB
open PySem PySem.Spec PyProof.Rows L2
def SqX (K : PySem.W.Frag) (H : Hp) (p : Addr) (xs : List V) : Prop := SqL K H p xs ∨ SqT K H p xs
theorem SqX.same {K : PySem.W.Frag} {H H' : Hp} {p : Addr} {xs : List V} (s : Same H H') (h : SqX K H p xs) : SqX K H' p xs := h.elim (fun h => .inl (s.seq h)) fun h => .inr ((Tk.of s).sqT h)
def rIxX (K : PySem.W.Frag) : R2 := fun x y H Q => ∃ p xs i v, x = .ref p ∧ y = .int i ∧ SqX K H p xs ∧ atI xs i = some v ∧ Q v H
section
variable {X : Cx}
theorem ixk_row {K : PySem.W.Frag} (hk : X.K = K) : IxR X (rIxX K) := by
  subst hk
  intro value slice pins s σ H x y v u Q I rx ry h hs
  obtain ⟨p, xs, i, z, e1, e2, hq, he, q⟩ := h
  rcases hq with hq | hq
  · exact ix_list value slice pins s σ H x y v u Q I rx ry ⟨p, xs, i, z, e1, e2, hq, he, q⟩ hs
  · exact ix_tup value slice pins s σ H x y v u Q I rx ry ⟨p, xs, i, z, e1, e2, hq, he, q⟩ hs
/-- a part of a row, whatever its kind: a row of the same kind, old or new -/
def rSlX (K : PySem.W.Frag) : V → Option Int → Option Int → Hp → VK → Prop := fun x lo hi H Q => ∃ p xs, x = .ref p ∧ SqX K H p xs ∧ ∀ H' q, Same H H' → SqX K H' q (cutV xs lo hi) → Q (.ref q) H'
theorem cut_whole {xs : List V} {lo hi : Option Int} (h : HT.sIx xs.length 0 lo = 0 ∧ HT.sIx xs.length xs.length hi = xs.length) : cutV xs lo hi = xs := by
  unfold cutV
  rw [h.1, h.2]
  simp
theorem slk_row {K : PySem.W.Frag} (hk : X.K = K) : SlR X (rSlX K) := by
  subst hk
  intro pins s σ H x v vl vu lo hi sl Q I rx hs pl pu h
  obtain ⟨p, xs, e, hq, q⟩ := h
  rcases hq with hq | hq
  · exact sl_list pins s σ H x v vl vu lo hi sl Q I rx hs pl pu ⟨p, xs, e, hq, fun r hr => q _ r (same_upd hr) (.inl (SqL.of upd_same))⟩
  · exact sl_tupA pins s σ H x v vl vu lo hi sl Q I rx hs pl pu ⟨p, xs, e, hq, fun hw => q _ p (Same.refl _) (by rw [cut_whole hw]; exact .inr hq), fun _ r hr => q _ r (same_upd hr) (.inr (SqT.of upd_same))⟩
/-- a row walked through, whatever its kind -/
def iRow (K : PySem.W.Frag) (tl : TE) : TI := fun σ H R => tl σ H fun x H1 => ∃ a xs, x = .ref a ∧ SqX K H1 a xs ∧ ∀ (J : It) (G : Hp → Prop), (∀ H', Same H1 H' → G H') → Walk J xs.length G (YAt xs) → R J H1
theorem pi_row {l tg : Expr} {tl : TE} (hl : PE X l tl) : PI X tg l (iRow X.K tl) := by
  refine ⟨fun pins s σ H R I h => ?_⟩
  refine thn (hl.run pins s σ H _ I h) fun v s1 ⟨x, H1, I1, r1, q1⟩ => ?_
  obtain ⟨a, xs, e, hq, q⟩ := q1
  subst e
  cases r1
  rcases hq with hq | hq
  · obtain ⟨its, rv, p, hz⟩ := I1.list hq
    refine wpAny_pyIter_list p.isList ?_
    refine ⟨s1.heap.objs.size, [s1.heap.objs.size], _, _, H1, rfl, I1.kept (t' := s1.toks) fun b o e => Heap.get?_push_of_some _ e, turn_list a _, ⟨_, Heap.get?_push_size _ rfl, rfl, rfl⟩, fun b hb => ?_, q _ _ (fun H' s' => s'.seq hq) walk_list⟩
    have e : b = s1.heap.objs.size := by simpa using hb
    subst e
    exact I1.fpOk (Nat.le_refl _) (I1.hok.fresh (Nat.le_refl _))
  · obtain ⟨its, rv, p, hz⟩ := I1.tuple hq
    refine wpAny_pyIter_tuple (show s1.heap.IsTuple a its.toArray from p) ?_
    refine ⟨s1.heap.objs.size, [s1.heap.objs.size], _, _, H1, rfl, I1.kept (t' := s1.toks) fun b o e => Heap.get?_push_of_some _ e, turn_tuple a _, ⟨_, Heap.get?_push_size _ rfl, rfl, rfl⟩, fun b hb => ?_, q _ _ (fun H' s' => (Tk.of s').sqT hq) walk_tup⟩
    have e : b = s1.heap.objs.size := by simpa using hb
    subst e
    exact I1.fpOk (Nat.le_refl _) (I1.hok.fresh (Nat.le_refl _))
end
theorem cut_init (xs : List V) (k : Nat) : cutV xs none (some (k : Int)) = xs.take k := by
  unfold cutV
  rw [HT.sIx_none, HT.sIx_nat]
  rw [List.drop_zero, Nat.sub_zero]
  by_cases h : k ≤ xs.length
  · rw [Nat.min_eq_left h]
  · rw [Nat.min_eq_right (by omega), List.take_of_length_le (Nat.le_refl _), List.take_of_length_le (by omega)]
theorem cut_from (xs : List V) (k : Nat) : cutV xs (some (k : Int)) none = xs.drop k := by
  unfold cutV
  rw [HT.sIx_none, HT.sIx_nat]
  by_cases h : k ≤ xs.length
  · rw [Nat.min_eq_left h, List.take_of_length_le (by rw [List.length_drop]; omega)]
  · rw [Nat.min_eq_right (by omega), List.drop_of_length_le (Nat.le_refl _), List.drop_of_length_le (by omega)]
    simp
end XB
set_option Elab.async false
set_option linter.all false
set_option maxRecDepth 100000
set_option maxHeartbeats 4000000
namespace XB
open PySem PySem.Spec PyProof.Rows L2
theorem take_snoc {α : Type} {l : List α} {k : Nat} {s : α} (h : l[k]? = some s) : l.take (k + 1) = l.take k ++ [s] := by
  rw [List.take_add_one, h]
  rfl
theorem drop_at {α : Type} {l : List α} {k : Nat} {s : α} (h : l[k]? = some s) : l.drop k = s :: l.drop (k + 1) := by
  obtain ⟨h1, rfl⟩ := List.getElem?_eq_some_iff.mp h
  exact List.drop_eq_getElem_cons h1
section
variable {P : Program} {w : World} {K : PySem.W.Frag} {mg : Str → Option Value} {base : Heap}
def spLastTouched (K : PySem.W.Frag) : Sp := fun vs H Q _ => ∃ (a l : Addr) (ns : List Str) (xs : List V) (row : List (Str × Int)), vs = [.ref a, .ref l] ∧ SqT K H a (ns.map V.str) ∧ SqX K H l xs ∧ DpAll K H xs (row.map dStep) ∧ Q (.int (XM.lastIx (fun b => ns.contains b) row.reverse)) H
theorem c_last_touched (T : Tx K mg) : Cl P w K mg base CX0 1 "last_touched" (spLastTouched K) := by
  refine cl0 T.d_last_touched (ps := ["names", "pieces"]) (fun _ _ _ _ _ _ us hl => match us, hl with | [_, _], _ => rfl) sc_last_touched (fun vs H Q E h => ?_) (fun f cdv A outer st H vs Q E hr h => ?_)
  · obtain ⟨a, l, ns, xs, row, rfl, _⟩ := h
    rfl
  · obtain ⟨a, l, ns, xs, row, rfl, hA, hS, hD, q⟩ := h
    have nd := sc_last_touched.nd
    have hl := hD.len
    rw [List.length_map] at hl
    refine ⟨_, pss_cons (ps_set (i := 2) nd rfl (.inl rfl) (pe_op op_sub (pe_lenS (by rfl) T.b_len (pv 1)) pe_int))
      (pss_cons (ps_while PassesOwn.never (PW.pt (pw_and (pt_cmpR op_ge (pv 2) pe_int (nomark _)) (pw_and1 (pt_cmpR op_notIn_seq (pe_ix ix_tup (pe_ix (ixk_row (K := K) rfl) (pv 1) (pv 2) (fun _ _ => rfl)) pe_int (fun _ _ => rfl)) (pv 0) (by rfl)))))
        (pss_one (ps_aug (i := 2) nd rfl (.inl rfl) pe_int ip_sub)))
      (pss_one (ps_ret (pv 2)))), ?_⟩
    refine ⟨_, rfl, l, xs, rfl, hS, _, _, rfl, rfl, ?_⟩
    refine ⟨fun m σ H' => H' = H ∧ ∃ k : Nat, m = k ∧ k ≤ row.length ∧ σ = [some (.ref a), some (.ref l), some (.int ((k : Int) - 1))] ∧ XM.lastIx (fun b => ns.contains b) row.reverse = XM.lastIx (fun b => ns.contains b) (row.take k).reverse,
      ⟨row.length, rfl, row.length, rfl, Nat.le_refl _, by rw [hl]; rfl, by rw [List.take_length]⟩, ?_⟩
    rintro m σ H' ⟨rfl, k, rfl, hk, rfl, e⟩
    refine ⟨_, rfl, _, _, rfl, rfl, _, rfl, ?_⟩
    rcases m with _ | k
    · refine iteF (iteF ⟨_, rfl, ?_⟩)
      rw [e] at q
      exact q
    · rw [show decide ((0 : Int) ≤ ((k + 1 : Nat) : Int) - 1) = true from decide_eq_true (by omega)]
      have hs : row[k]? = some row[k] := List.getElem?_eq_getElem hk
      generalize row[k] = s at hs
      obtain ⟨b, hb, cb⟩ := hD.step hs
      refine iteT ⟨_, rfl, _, rfl, _, _, _, _, rfl, rfl, hS, at_of (j := k) (by omega) hb, _, _, _, _, rfl, rfl, cb, rfl, _, rfl, a, _, rfl, .inr hA, rfl, flat_strs ns, _, rfl, ?_⟩
      rw [if_pos rfl, inV_strs]
      rw [take_snoc hs, List.reverse_append] at e
      have e : _ = (if ns.contains s.1 then ((row.take k).reverse.length : Int) else XM.lastIx (fun b => ns.contains b) (row.take k).reverse) := e
      cases hc : ns.contains s.1
      · rw [hc] at e
        refine iteT ⟨fun σ' H'' => H'' = H' ∧ σ' = [some (.ref a), some (.ref l), some (.int ((k : Int) - 1))], fun σ' H'' h => ?_, ?_⟩
        · obtain ⟨rfl, rfl⟩ := h
          exact ⟨k, by omega, rfl, k, rfl, by omega, rfl, e⟩
        · refine ⟨_, rfl, _, _, rfl, rfl, rfl, ?_⟩
          show [some (V.ref a), some (.ref l), some (.int (((k + 1 : Nat) : Int) - 1 - 1))] = _
          rw [show ((k + 1 : Nat) : Int) - 1 - 1 = (k : Int) - 1 by omega]
      · rw [hc, if_pos rfl, List.length_reverse, List.length_take, Nat.min_eq_left (by omega)] at e
        rw [e] at q
        refine iteF ⟨_, rfl, ?_⟩
        show Q (.int (((k + 1 : Nat) : Int) - 1)) H'
        rw [show ((k + 1 : Nat) : Int) - 1 = (k : Int) by omega]
        exact q
def spPlaceBehind (K : PySem.W.Frag) (F : Fld) : Sp := fun vs H Q _ => ∃ (l : Addr) (z : Int) (i : Nat) (nm : Str) (xs : List V) (row : List (Str × Int)), vs = [.ref l, .int z, .str nm] ∧ z + 1 = (i : Int) ∧ i ≤ row.length ∧ SqX K H l xs ∧ DpAll K H xs (row.map dStep) ∧ Q (.int ((i + XM.lead (OF F) nm (row.drop i) : Nat) : Int)) H
theorem c_place_behind (T : Tx K mg) (F : Fld) : Cl P w K mg base CX0 1 "place_behind" (spPlaceBehind K F) := by
  refine cl0 T.d_place_behind (ps := ["pieces", "at", "name"]) (fun _ _ _ _ _ _ us hl => match us, hl with | [_, _, _], _ => rfl) sc_place_behind (fun vs H Q E h => ?_) (fun f cdv A outer st H vs Q E hr h => ?_)
  · obtain ⟨l, z, i, nm, xs, row, rfl, _⟩ := h
    rfl
  · obtain ⟨l, z, i, nm, xs, row, rfl, ez, hi, hS, hD, q⟩ := h
    have nd := sc_place_behind.nd
    have hl := hD.len
    rw [List.length_map] at hl
    refine ⟨_, pss_cons (ps_set (i := 3) nd rfl (.inl rfl) (pe_op op_add (pv 1) pe_int))
      (pss_cons (ps_while PassesOwn.never (PW.pt (pw_and (pt_cmpR op_lt (pv 3) (pe_lenS (by rfl) T.b_len (pv 0)) (nomark _)) (pw_and1 (pt_cmpR op_lt_str (pe_ix ix_tup (pe_ix (ixk_row (K := K) rfl) (pv 0) (pv 3) (fun _ _ => rfl)) pe_int (fun _ _ => rfl)) (pv 2) (nomark _)))))
        (pss_one (ps_aug (i := 3) nd rfl (.inl rfl) pe_int ip_add)))
      (pss_one (ps_ret (pv 3)))), ?_⟩
    have ez : (V.int (z + 1)) = V.int (i : Int) := by rw [ez]
    refine ⟨_, rfl, _, _, rfl, rfl, ?_⟩
    refine ⟨fun m σ H' => H' = H ∧ ∃ k : Nat, m = row.length - k ∧ k ≤ row.length ∧ σ = [some (.ref l), some (.int z), some (.str nm), some (.int (k : Int))] ∧ i + XM.lead (OF F) nm (row.drop i) = k + XM.lead (OF F) nm (row.drop k),
      ⟨_, rfl, i, rfl, hi, by rw [← ez]; rfl, rfl⟩, ?_⟩
    rintro m σ H' ⟨rfl, k, rfl, hk, rfl, e⟩
    refine ⟨_, rfl, _, rfl, l, xs, rfl, hS, _, _, rfl, rfl, _, rfl, ?_⟩
    rw [hl]
    by_cases hlt : k < row.length
    · rw [show decide ((k : Int) < (row.length : Int)) = true from decide_eq_true (by omega)]
      have hs : row[k]? = some row[k] := List.getElem?_eq_getElem hlt
      generalize row[k] = s at hs
      obtain ⟨b, hb, cb⟩ := hD.step hs
      refine iteT ⟨_, rfl, _, rfl, _, _, _, _, rfl, rfl, hS, at_of (j := k) rfl hb, _, _, _, _, rfl, rfl, cb, rfl, _, rfl, _, _, rfl, rfl, _, rfl, ?_⟩
      rw [drop_at hs] at e
      have e : i + XM.lead (OF F) nm (row.drop i) = k + (if sLt s.1 nm then XM.lead (OF F) nm (row.drop (k + 1)) + 1 else 0) := e
      cases hc : sLt s.1 nm
      · rw [hc] at e
        rw [show decide (s.1.cps.toList < nm.cps.toList) = false from hc]
        refine iteF ⟨_, rfl, ?_⟩
        rw [e] at q
        exact q
      · rw [hc, if_pos rfl] at e
        rw [show decide (s.1.cps.toList < nm.cps.toList) = true from hc]
        refine iteT ⟨fun σ' H'' => H'' = H' ∧ σ' = [some (.ref l), some (.int z), some (.str nm), some (.int ((k + 1 : Nat) : Int))], fun σ' H'' h => ?_, ?_⟩
        · obtain ⟨rfl, rfl⟩ := h
          exact ⟨row.length - (k + 1), by omega, rfl, k + 1, rfl, hlt, rfl, by omega⟩
        · exact ⟨_, rfl, _, _, rfl, rfl, rfl, rfl⟩
    · rw [show decide ((k : Int) < (row.length : Int)) = false from decide_eq_false (by omega)]
      refine iteF (iteF ⟨_, rfl, ?_⟩)
      rw [e, show row.drop k = [] from List.drop_eq_nil_iff.mpr (by omega)] at q
      exact q
end
end XB
set_option Elab.async false
set_option linter.all false
set_option maxRecDepth 100000
set_option maxHeartbeats 4000000
namespace XB
open PySem PySem.Spec PyProof.Rows L2
theorem DpAll.set1 {K : PySem.W.Frag} {H : Hp} {v : V} {d : PyData} (hv : Dp K H v d) : ∀ {vs : List V} {ds : List PyData} (i : Nat), DpAll K H vs ds → DpAll K H (vs.set i v) (ds.set i d)
  | _, _, _, .nil => .nil
  | _, _, 0, .cons _ t => .cons hv t
  | _, _, i + 1, .cons h t => .cons h (DpAll.set1 hv i t)
theorem DpAll.er {K : PySem.W.Frag} {H : Hp} : ∀ {vs : List V} {ds : List PyData} (i : Nat), DpAll K H vs ds → DpAll K H (vs.eraseIdx i) (ds.eraseIdx i)
  | _, _, _, .nil => .nil
  | _, _, 0, .cons _ t => t
  | _, _, i + 1, .cons h t => .cons h (DpAll.er i t)
theorem map_er {α β : Type} (f : α → β) : ∀ (l : List α) (i : Nat), (l.eraseIdx i).map f = (l.map f).eraseIdx i
  | [], _ => rfl
  | _ :: _, 0 => rfl
  | x :: l, i + 1 => by
    show f x :: (l.eraseIdx i).map f = f x :: (l.map f).eraseIdx i
    rw [map_er f l i]
/-- a list of steps put in at a place -/
theorem DpAll.inI {K : PySem.W.Frag} {H : Hp} {vs : List V} {row : List (Str × Int)} {v : V} {s : Str × Int} (hv : Dp K H v (dStep s)) (i : Nat) (h : DpAll K H vs (row.map dStep)) :
    DpAll K H (vs.take i ++ [v] ++ vs.drop i) ((row.take i ++ s :: row.drop i).map dStep) := by
  rw [List.append_assoc, List.map_append, List.map_cons, List.map_take, List.map_drop]
  exact (h.take i).app (.cons hv (h.drop i))
section
variable {P : Program} {w : World} {K : PySem.W.Frag} {mg : Str → Option Value} {base : Heap}
/-- the row as the program changes it stands in a list of its own -/
def Row1 (K : PySem.W.Frag) (H : Hp) (D : Addr) (row : List (Str × Int)) : Prop := ∃ xs, H D = some (.lst xs) ∧ DpAll K H xs (row.map dStep)
theorem Row1.put {K : PySem.W.Frag} {H : Hp} {D : Addr} {xs ys : List V} {row : List (Str × Int)} (e : H D = some (.lst xs)) (h : DpAll K H ys (row.map dStep)) : Row1 K (upd H D (.lst ys)) D row :=
  ⟨ys, upd_same, DpAll.tk (Tk.refl.lst e) _ (flat_all_steps row) h⟩
theorem TouchAt.lst {K : PySem.W.Frag} {H : Hp} {t D : Addr} {F : Fld} {xs ys : List V} (h : TouchAt K H t F) (e : H D = some (.lst xs)) : TouchAt K (upd H D (.lst ys)) t F := by
  obtain ⟨kvs, e1, g⟩ := h
  have k : Tk H (upd H D (.lst ys)) := Tk.refl.lst e
  refine ⟨kvs, by rw [upd_ne (ne_of e1 e (fun q => nomatch q))]; exact e1, fun n hn => ?_⟩
  obtain ⟨a, e1, e2⟩ := g n hn
  exact ⟨a, e1, k.sqT e2⟩
theorem lastIx_congr {p q : Str → Bool} : ∀ {r : List (Str × Int)}, (∀ y ∈ r, p y.1 = q y.1) → XM.lastIx p r = XM.lastIx q r
  | [], _ => rfl
  | y :: r, h => by
    have ih := lastIx_congr (p := p) (q := q) (r := r) fun z hz => h z (List.mem_cons_of_mem _ hz)
    have hy := h y List.mem_cons_self
    unfold XM.lastIx
    rw [hy, ih]
def Names (F : Fld) (l : List (Str × Int)) : Prop := ∀ s ∈ l, s.1 ∈ F.names
theorem names_ins {F : Fld} {x : Str × Int} (hx : x.1 ∈ F.names) : ∀ {r : List (Str × Int)}, Names F r → Names F (XM.ins (OF F) x r)
  | [], _ => fun s hs => by
    have hs : s ∈ [x] := hs
    rw [List.mem_singleton.mp hs]
    exact hx
  | y :: r, h => by
    have ih := names_ins hx (r := r) fun z hz => h z (List.mem_cons_of_mem _ hz)
    have hy := h y List.mem_cons_self
    have h0 : Names F r := fun z hz => h z (List.mem_cons_of_mem _ hz)
    have c : ∀ {a : Str × Int} {l : List (Str × Int)}, a.1 ∈ F.names → Names F l → Names F (a :: l) := fun {a l} ha hl s hs => by
      rcases List.mem_cons.mp hs with rfl | hs
      · exact ha
      · exact hl s hs
    unfold XM.ins
    by_cases e1 : y.1 = x.1
    · rw [if_pos e1]
      by_cases e2 : y.2 + x.2 = 0
      · rw [if_pos e2]
        exact h0
      · rw [if_neg e2]
        exact c hx h0
    · rw [if_neg e1]
      by_cases e2 : (OF F).tc y.1 x.1 = true
      · rw [if_pos e2]
        exact c hx h
      · rw [if_neg e2]
        by_cases e3 : ((OF F).lt y.1 x.1 && XM.top (OF F) x.1 r) = true
        · rw [if_pos e3]
          exact c hx h
        · rw [if_neg e3]
          exact c hy ih
theorem names_act {F : Fld} : ∀ {l r : List (Str × Int)}, Names F l → Names F r → Names F (XM.act (OF F) l r)
  | [], _, _, h => h
  | x :: l, r, hl, h => by
    rw [XM.act_cons]
    exact names_act (fun z hz => hl z (List.mem_cons_of_mem _ hz)) (names_ins (hl x List.mem_cons_self) h)
def spPiled (K : PySem.W.Frag) (F : Fld) : Sp := fun vs H Q _ => ∃ (t d : Addr) (xs : List V) (steps : List (Str × Int)), vs = [.ref t, .ref d] ∧ TouchAt K H t F ∧ F.Ok ∧ SqT K H d xs ∧ DpAll K H xs (steps.map dStep) ∧ steps.length ≤ 500 ∧ Names F steps ∧
  ∀ H' r, Same H H' → Dp K H' (.ref r) (dSteps (XM.act (OF F) steps []).reverse) → Q (.ref r) H'
theorem c_piled (T : Tx K mg) (F : Fld) : Cl P w K mg base CX0 2 "piled" (spPiled K F) := by
  refine cl0 T.d_piled (ps := ["touch", "steps"]) (fun _ _ _ _ _ _ us hl => match us, hl with | [_, _], _ => rfl) sc_piled (fun vs H Q E h => ?_) (fun f cdv A outer st H vs Q E hr h => ?_)
  · obtain ⟨t, d, xs, steps, rfl, _⟩ := h
    rfl
  · obtain ⟨t, d, xs, steps, rfl, hT, ok, hS, hD, hlen, hN, q⟩ := h
    have nd := sc_piled.nd
    have hu : (A.deeper (envOfC "piled" (defScope s_piled) st.heap.objs.size f cdv)).units + 1 < cLine := by
      have := hr.un
      omega
    have hl := hD.len
    rw [List.length_map] at hl
    refine ⟨_, pss_cons (ps_set (i := 2) nd rfl (.inl rfl) (pe_lst pa_nil))
      (pss_cons (ps_for PassesOwn.never rfl (pi_tup (pv 1)) (pg_tup rfl (pgs_cons (pg_name (i := 3) nd rfl (.inl rfl)) (pgs_cons (pg_name (i := 4) nd rfl (.inl rfl)) pgs_nil)))
        (pss_cons (ps_set (i := 5) nd rfl (.inl rfl) (pe_k (c_last_touched T) hr (by decide) (by rfl) (pa_cons (pe_dget hu (pv 0) (pv 3) (fun _ _ => rfl)) (pa_cons (pv 2) pa_nil))))
        (pss_one (ps_if (PW.pt (pw_or (pt_cmpR op_lt (pv 5) pe_int (nomark _)) (pw_or1 (pt_cmpR op_ne (pe_ix ix_tup (pe_ix ix_list (pv 2) (pv 5) (fun _ _ => rfl)) pe_int (fun _ _ => rfl)) (pv 3) (nomark _)))))
          (pss_one (ps_expr (pe_bm PySem.F.plainAttrs_list PySem.F.slot_list_insert PySem.F.type_list_insert mt_insert (pv 2) (pa_cons (pe_k (c_place_behind T F) hr (by decide) (by rfl) (pa_cons (pv 2) (pa_cons (pv 5) (pa_cons (pv 3) pa_nil)))) (pa_cons (pe_tup (pa_cons (pv 3) (pa_cons (pv 4) pa_nil))) pa_nil)))))
          (pss_one (ps_if (pt_cmpR op_ne (pe_op op_add (pe_ix ix_tup (pe_ix ix_list (pv 2) (pv 5) (fun _ _ => rfl)) pe_int (fun _ _ => rfl)) (pv 4)) pe_int (nomark _))
            (pss_one (ps_asg (pe_tup (pa_cons (pv 3) (pa_cons (pe_op op_add (pe_ix ix_tup (pe_ix ix_list (pv 2) (pv 5) (fun _ _ => rfl)) pe_int (fun _ _ => rfl)) (pv 4)) pa_nil))) (pg_sub (pv 2) (pv 5) set_list)))
            (pss_one (ps_delL (pv 2) (pv 5)))))))))
      (pss_one (ps_ret (pe_tupleOf (by rfl) T.b_tuple (pv 2))))), ?_⟩
    refine ⟨by decide, fun D hD0 => ?_⟩
    refine ⟨_, rfl, d, rfl, ⟨_, (Tk.of (same_upd hD0)).sqT hS⟩, for_it (walk_tup (xs := xs)) (fun i σ H2 => ∃ (row : List (Str × Int)) (y3 y4 y5 : Option V), σ = [some (.ref t), some (.ref d), some (.ref D), y3, y4, y5] ∧ Same H H2 ∧ Row1 K H2 D row ∧ row.reverse = XM.act (OF F) (steps.take i) [])
      ⟨[], none, none, none, rfl, same_upd hD0, ⟨[], upd_same, .nil⟩, rfl⟩ (fun i σ H2 _ ⟨_, _, _, _, _, s', _⟩ => (Tk.of s').sqT hS) (fun i x σ H2 H3 hi ⟨row, y3, y4, y5, eσ, s2, ⟨ys, eD, hY⟩, er⟩ hy => ?_) (fun σ H2 ⟨row, y3, y4, y5, eσ, s2, ⟨ys, eD, hY⟩, er⟩ => ?_)⟩
    · obtain ⟨rfl, hx⟩ := hy
      subst eσ
      obtain ⟨dd, g1, p1⟩ := hD.get hx
      rw [List.getElem?_map] at g1
      obtain ⟨s, k1, rfl⟩ := Option.map_eq_some_iff.mp g1
      obtain ⟨b, rfl, cb⟩ := p1.step
      have cb := (Tk.of s2).sqT cb
      have ms := hN s (List.mem_of_getElem? k1)
      obtain ⟨kvs, e1, g⟩ := hT.same s2
      obtain ⟨r, e2, e3⟩ := g s.1 ms
      have dg : DGet H3 t (.str s.1) (some (.ref r)) := by
        have := DGet.k (k := .inr s.1) e1
        rwa [e2] at this
      have hly := hY.len
      rw [List.length_map] at hly
      have hnr : Names F row.reverse := by
        rw [er]
        exact names_act (fun z hz => hN z (List.mem_of_mem_take hz)) (fun _ h => nomatch h)
      have hlr : row.length ≤ 500 := by
        have := XM.act_len (O := OF F) (l := steps.take i) (r := [])
        rw [← er, List.length_reverse, List.length_take, List.length_nil] at this
        omega
      have hlt : i < steps.length := by omega
      have fin : ∀ row' : List (Str × Int), XM.ins (OF F) s row.reverse = row'.reverse → row'.reverse = XM.act (OF F) (steps.take (i + 1)) [] := fun row' e => by
        rw [take_snoc k1, XM.act_app, ← er, XM.act_cons, XM.act_nil, e]
      have hc : XM.lastIx (fun b => (touchL F s.1).contains b) row.reverse = XM.lastIx (fun b => (OF F).tc b s.1) row.reverse := lastIx_congr fun y hy => mem_touch ok (hnr y hy)
      refine ⟨b, _, rfl, cb, rfl, _, _, rfl, _, _, rfl, rfl, ?_⟩
      refine ⟨_, rfl, _, rfl, t, .ref r, rfl, dg, _, rfl, r, D, touchL F s.1, ys, row, rfl, e3, .inl (SqL.of eD), hY, ?_⟩
      have hin : ∀ (i0 : Nat) T, H3 T = none → Row1 K (upd (upd H3 T (.tup [.str s.1, .int s.2])) D (.lst (ys.take (((i0 + XM.lead (OF F) s.1 (row.drop i0) : Nat) : Int)).toNat ++ [.ref T] ++ ys.drop (((i0 + XM.lead (OF F) s.1 (row.drop i0) : Nat) : Int)).toNat))) D
          (row.take i0 ++ XM.among (OF F) s (row.drop i0)) := fun i0 T hT' => by
        rw [Int.toNat_natCast]
        have eD' : upd H3 T (.tup [.str s.1, .int s.2]) D = some (.lst ys) := by
          rw [upd_ne (ne_of_none eD hT')]
          exact eD
        have := DpAll.inI (row := row) (v := .ref T) (s := s) (Dp.of_step (SqT.of upd_same)) (i0 + XM.lead (OF F) s.1 (row.drop i0)) (DpAll.tk (Tk.of (same_upd (o := .tup [.str s.1, .int s.2]) hT')) _ (flat_all_steps row) hY)
        have := Row1.put eD' this
        have er1 : row.take i0 ++ XM.among (OF F) s (row.drop i0) = row.take (i0 + XM.lead (OF F) s.1 (row.drop i0)) ++ s :: row.drop (i0 + XM.lead (OF F) s.1 (row.drop i0)) := by
          unfold XM.among
          rw [List.take_add, List.append_assoc, List.drop_drop]
        rw [er1]
        exact this
      obtain ⟨k, hk⟩ : ∃ k, XM.lastIx (fun b => (touchL F s.1).contains b) row.reverse = k := ⟨_, rfl⟩
      rw [hk]
      rw [hc] at hk
      rcases XM.ins_code (O := OF F) hk with ⟨rfl, e⟩ | ⟨j, z, rfl, hz, h⟩
      · refine ⟨_, rfl, _, _, rfl, rfl, _, rfl, iteT (iteT ?_)⟩
        refine ⟨_, rfl, Or.inl ⟨rfl, _, SqL.of eD⟩, _, rfl, _, rfl, _, rfl, D, _, 0, s.1, ys, row, rfl, rfl, Nat.zero_le _, .inl (SqL.of eD), hY, ?_⟩
        have hle := XM.lead_le (O := OF F) (a := s.1) (row.drop (0))
        rw [List.length_drop] at hle
        have hb : (((0) + XM.lead (OF F) s.1 (row.drop (0)) : Nat) : Int) < 2 ^ 63 := by omega
        refine ⟨_, rfl, _, rfl, (show 2 ≤ sizeLine by decide), fun T hT' => ⟨D, ys, _, .ref T, rfl, rfl, by rw [upd_ne (ne_of_none eD hT')]; exact eD, small1000 (by omega), Int.natCast_nonneg _, hb, ?_⟩⟩
        exact ⟨_, _, _, _, rfl, same_put (same_new s2 hT') hD0, hin (0) T hT', fin _ (by simpa using e)⟩
      · have hj := (List.getElem?_eq_some_iff.mp hz).1
        obtain ⟨c, hc1, hc2⟩ := hY.step hz
        refine ⟨_, rfl, _, _, rfl, rfl, _, rfl, ?_⟩
        rw [show decide ((j : Int) < 0) = false from decide_eq_false (by omega)]
        refine iteF ⟨_, rfl, _, rfl, _, _, _, _, rfl, rfl, SqL.of eD, at_of (j := j) rfl hc1, _, _, _, _, rfl, rfl, hc2, rfl, _, rfl, rfl, _, rfl, ?_⟩
        rw [show decide (V.str z.1 = V.str s.1) = decide (z.1 = s.1) from decide_eq_decide.mpr ⟨fun h => V.str.inj h, fun h => congrArg _ h⟩]
        rcases h with ⟨n, e⟩ | ⟨n, n2, e⟩ | ⟨n, n2, e⟩
        · rw [decide_eq_false n]
          refine iteT ?_
          refine ⟨_, rfl, Or.inl ⟨rfl, _, SqL.of eD⟩, _, rfl, _, rfl, _, rfl, D, _, j + 1, s.1, ys, row, rfl, rfl, hj, .inl (SqL.of eD), hY, ?_⟩
          have hle := XM.lead_le (O := OF F) (a := s.1) (row.drop (j + 1))
          rw [List.length_drop] at hle
          have hb : (((j + 1) + XM.lead (OF F) s.1 (row.drop (j + 1)) : Nat) : Int) < 2 ^ 63 := by omega
          refine ⟨_, rfl, _, rfl, (show 2 ≤ sizeLine by decide), fun T hT' => ⟨D, ys, _, .ref T, rfl, rfl, by rw [upd_ne (ne_of_none eD hT')]; exact eD, small1000 (by omega), Int.natCast_nonneg _, hb, ?_⟩⟩
          exact ⟨_, _, _, _, rfl, same_put (same_new s2 hT') hD0, hin (j + 1) T hT', fin _ (by simpa using e)⟩
        · rw [decide_eq_true n]
          refine iteF ⟨_, rfl, _, rfl, _, _, _, _, rfl, rfl, SqL.of eD, at_of (j := j) rfl hc1, _, _, _, _, rfl, rfl, hc2, rfl, _, rfl, _, _, rfl, rfl, rfl, _, rfl, ?_⟩
          rw [dec_int, show (z.2 + s.2 == 0) = false by simp [n2]]
          refine iteT ⟨_, rfl, _, rfl, _, rfl, _, _, _, _, rfl, rfl, SqL.of eD, at_of (j := j) rfl hc1, _, _, _, _, rfl, rfl, hc2, rfl, _, rfl, _, _, rfl, rfl, (show 2 ≤ sizeLine by decide), fun T hT' => ?_⟩
          have eD' : upd H3 T (.tup [.str s.1, .int (z.2 + s.2)]) D = some (.lst ys) := by
            rw [upd_ne (ne_of_none eD hT')]
            exact eD
          refine ⟨_, rfl, _, rfl, D, ys, _, j, rfl, rfl, eD', ixN_of rfl (by omega), ?_⟩
          refine ⟨row.set j (s.1, z.2 + s.2), _, _, _, rfl, same_put (same_new s2 hT') hD0, Row1.put eD' ?_, fin _ e⟩
          rw [List.map_set]
          exact DpAll.set1 (d := dStep (s.1, z.2 + s.2)) (Dp.of_step (SqT.of upd_same)) j (DpAll.tk (Tk.of (same_upd hT')) _ (flat_all_steps row) hY)
        · rw [decide_eq_true n]
          refine iteF ⟨_, rfl, _, rfl, _, _, _, _, rfl, rfl, SqL.of eD, at_of (j := j) rfl hc1, _, _, _, _, rfl, rfl, hc2, rfl, _, rfl, _, _, rfl, rfl, rfl, _, rfl, ?_⟩
          rw [dec_int, show (z.2 + s.2 == 0) = true by simp [n2]]
          have hjb : (j : Int) < 2 ^ 63 := by omega
          refine iteF ⟨_, rfl, _, rfl, D, ys, _, j, rfl, rfl, eD, by omega, hjb, (ixN_seq (ixN_of rfl (by omega))).1, ?_⟩
          refine ⟨row.eraseIdx j, _, _, _, rfl, same_put s2 hD0, Row1.put eD ?_, fin _ e⟩
          rw [map_er]
          exact DpAll.er j hY
    · subst eσ
      refine ⟨_, rfl, .inl ⟨D, ys, rfl, SqL.of eD, fun r hr' => q _ r (same_new s2 hr') ?_⟩⟩
      rw [hl, List.take_length] at er
      rw [← er, List.reverse_reverse]
      exact .tup (SqT.of upd_same) (DpAll.tk (Tk.of (same_upd hr')) _ (flat_all_steps row) hY)
end
end XB
set_option Elab.async false
set_option linter.all false
set_option maxRecDepth 100000
set_option maxHeartbeats 4000000
namespace XB
open PySem PySem.Spec PyProof.Rows L2
section
variable {P : Program} {w : World} {K : PySem.W.Frag} {mg : Str → Option Value} {base : Heap}
theorem GoodScript.names {F : Fld} {l : List (Str × Int)} (g : GoodScript F l) : Names F l := fun s hs => (g.2 s hs).1
theorem GoodScript.nz {F : Fld} {l : List (Str × Int)} (g : GoodScript F l) : XM.NZ l := fun s hs => (g.2 s hs).2.1
/-- a field and a script -/
def FS (K : PySem.W.Frag) (F : Fld) (l : List (Str × Int)) (vs : List V) (H : Hp) : Prop := ∃ (a d : Addr), vs = [.ref a, .ref d] ∧ Dp K H (.ref a) (dField F) ∧ F.Ok ∧ Dp K H (.ref d) (dSteps l) ∧ GoodScript F l
def spLeastPile (K : PySem.W.Frag) (F : Fld) : Sp := fun vs H Q _ => ∃ l, FS K F l vs H ∧ ∀ H' r, Same H H' → Dp K H' (.ref r) (dSteps (XM.act (OF F) l []).reverse) → Q (.ref r) H'
theorem c_least_pile (T : Tx K mg) (F : Fld) : Cl P w K mg base CX0 6 "least_pile" (spLeastPile K F) := by
  refine cl0 T.d_least_pile (ps := ["field", "deeds"]) (fun _ _ _ _ _ _ us hl => match us, hl with | [_, _], _ => rfl) sc_least_pile (fun vs H Q E h => ?_) (fun f cdv A outer st H vs Q E hr h => ?_)
  · obtain ⟨l, ⟨a, d, rfl, _⟩, _⟩ := h
    rfl
  · obtain ⟨l, ⟨a, d, rfl, hF, ok, hL, g⟩, q⟩ := h
    refine ⟨_, pss_cons (ps_expr (pe_k (c_need_script T) hr (by decide) (by rfl) (pa_cons (pv 0) (pa_cons (pv 1) pa_nil))))
      (pss_one (ps_ret (pe_k (c_piled T F) hr (by decide) (by rfl) (pa_cons (pe_k (c_touch_table T) hr (by decide) (by rfl) (pa_cons (pv 0) pa_nil)) (pa_cons (pv 1) pa_nil))))), ?_⟩
    refine ⟨_, rfl, _, rfl, a, d, F, l, rfl, hF, ok, hL, g, fun H1 s1 => ?_⟩
    refine ⟨_, rfl, a, F, rfl, Dp.tk (Tk.of s1) _ (flat_field F) hF, ok, fun H2 t s2 ht hT => ?_⟩
    obtain ⟨_, vs, e, hS, hV⟩ := (Dp.tk (Tk.of (s1.trans s2)) (dSteps l) (flat_steps l) hL).steps
    cases e
    refine ⟨_, rfl, t, d, vs, l, rfl, hT, ok, hS, hV, ?_, g.names, fun H3 r s3 hD => q _ r ((s1.trans s2).trans s3) hD⟩
    have := g.1
    omega
def lenOf (l : List (Str × Int)) : Int := (l.map fun s => if s.2 < 0 then -s.2 else s.2).sum
def spLengthOf (K : PySem.W.Frag) : Sp := fun vs H Q _ => ∃ (a : Addr) (xs : List V) (l : List (Str × Int)), vs = [.ref a] ∧ SqT K H a xs ∧ DpAll K H xs (l.map dStep) ∧ l.length ≤ 500 ∧ ∀ H', Same H H' → Q (.int (lenOf l)) H'
theorem c_length_of (T : Tx K mg) : Cl P w K mg base CX0 1 "length_of" (spLengthOf K) := by
  refine cl0 T.d_length_of (ps := ["pieces"]) (fun _ _ _ _ _ _ us hl => match us, hl with | [_], _ => rfl) sc_length_of (fun vs H Q E h => ?_) (fun f cdv A outer st H vs Q E hr h => ?_)
  · obtain ⟨a, xs, l, rfl, _⟩ := h
    rfl
  · obtain ⟨a, xs, l, rfl, hS, hD, hl, q⟩ := h
    have nd := sc_length_of.nd
    have hlx := hD.len
    rw [List.length_map] at hlx
    refine ⟨_, pss_one (ps_ret (pe_callB (cr_sum rfl) (by rfl) T.b_sum (by decide +kernel) (pa_cons (pe_lc (own := [("_", 1), ("times", 2)]) (g := gTup K 2 (gCons (gName 1) (gCons (gName 2) gNil))) (tt := tYes) (by rfl) nd (pi_tup (pv 0))
      (blkOk_by (own := [("_", 1), ("times", 2)]) (N := ["pieces", "_", "times"]) (sc := defScope s_length_of) (by decide +kernel))
      (fun _ _ _ _ _ => pg_tup rfl (pgs_cons (pg_name (i := 1) nd rfl (Or.inl rfl)) (pgs_cons (pg_name (i := 2) nd rfl (Or.inl rfl)) pgs_nil))) (fun _ _ _ _ _ => pts_nil)
      (fun _ _ _ _ _ => pe_callB call_abs (by rfl) T.b_abs (by decide +kernel) (pa_cons (pv 2) pa_nil))) pa_nil))), ?_⟩
    refine ⟨_, rfl, a, rfl, ⟨_, hS⟩, fun D hD' => ?_⟩
    refine lc_it (walk_tup (xs := xs)) (fun i H' => H' D = some (.lst ((((l.take i).map fun s => if s.2 < 0 then -s.2 else s.2)).map V.int)) ∧ Same H H') ⟨upd_same, same_upd hD'⟩ (fun _ _ _ ⟨_, s'⟩ => (Tk.of s').sqT hS) (fun i x H2 H3 hi ⟨eD, s'⟩ hy => ?_) (fun H2 ⟨eD, s'⟩ => ?_)
    · obtain ⟨rfl, hx⟩ := hy
      obtain ⟨dd, g1, p1⟩ := hD.get hx
      rw [List.getElem?_map] at g1
      obtain ⟨s, k1, rfl⟩ := Option.map_eq_some_iff.mp g1
      obtain ⟨b, rfl, cb⟩ := p1.step
      refine ⟨b, _, rfl, (Tk.of s').sqT cb, rfl, _, _, rfl, _, _, rfl, rfl, rfl, yes_ ?_⟩
      refine ⟨_, rfl, s.2, rfl, _, eD, ?_, ?_, same_put s' hD'⟩
      · rw [List.length_map, List.length_map, List.length_take]
        exact small1000 (by omega)
      · rw [upd_same, take_snoc k1, List.map_append, List.map_append]
        rfl
    · rw [hlx, List.take_length] at eD
      exact ⟨D, _, rfl, SqL.of eD, q _ s'⟩
theorem act_len0 {F : Fld} {l : List (Str × Int)} : (XM.act (OF F) l []).length ≤ l.length := by
  have := XM.act_len (O := OF F) (l := l) (r := [])
  rw [List.length_nil] at this
  omega
def spLength (K : PySem.W.Frag) (F : Fld) : Sp := fun vs H Q _ => ∃ l, FS K F l vs H ∧ ∀ H', Same H H' → Q (.int (lenOf (XM.act (OF F) l []).reverse)) H'
def spIsPile (K : PySem.W.Frag) (F : Fld) : Sp := fun vs H Q _ => ∃ l, FS K F l vs H ∧ ∀ H', Same H H' → Q (.bl (decide ((XM.act (OF F) l []).length = l.length))) H'
def spBack (K : PySem.W.Frag) : Sp := fun vs H Q _ => ∃ (a : Addr) (l : List (Str × Int)), vs = [.ref a] ∧ Dp K H (.ref a) (dSteps l) ∧ l.length ≤ 500 ∧ ∀ H' r, Same H H' → Dp K H' (.ref r) (dSteps (XM.back l)) → Q (.ref r) H'
theorem c_back (T : Tx K mg) : Cl P w K mg base CX0 1 "back" (spBack K) := by
  refine cl0 T.d_back (ps := ["steps"]) (fun _ _ _ _ _ _ us hl => match us, hl with | [_], _ => rfl) sc_back (fun vs H Q E h => ?_) (fun f cdv A outer st H vs Q E hr h => ?_)
  · obtain ⟨a, l, rfl, _⟩ := h
    rfl
  · obtain ⟨a, l, rfl, hL, hl, q⟩ := h
    have nd := sc_back.nd
    obtain ⟨_, xs, e, hS, hD⟩ := hL.steps
    cases e
    have hlx := hD.len
    rw [List.length_map] at hlx
    refine ⟨_, pss_one (ps_ret (pe_tupleOf (by rfl) T.b_tuple (pe_lc (own := [("name", 1), ("times", 2)]) (g := gTup K 2 (gCons (gName 1) (gCons (gName 2) gNil))) (tt := tYes) (by rfl) nd (pi_tup (pe_revT (pv 0)))
      (blkOk_by (own := [("name", 1), ("times", 2)]) (N := ["steps", "name", "times"]) (sc := defScope s_back) (by decide +kernel))
      (fun _ _ _ _ _ => pg_tup rfl (pgs_cons (pg_name (i := 1) nd rfl (Or.inl rfl)) (pgs_cons (pg_name (i := 2) nd rfl (Or.inl rfl)) pgs_nil))) (fun _ _ _ _ _ => pts_nil)
      (fun _ _ _ _ _ => pe_tup (pa_cons (pv 1) (pa_cons (pe_un un_neg (pv 2)) pa_nil)))))), ?_⟩
    refine ⟨_, rfl, a, xs, rfl, hS, fun p hp => ⟨p, rfl, ⟨_, SqT.of upd_same⟩, fun D hD' => ?_⟩⟩
    have s0 : Same H (upd H p (.tup xs.reverse)) := same_upd hp
    have hB : SqT K (upd H p (.tup xs.reverse)) p xs.reverse := SqT.of upd_same
    have hR : DpAll K (upd H p (.tup xs.reverse)) xs.reverse (l.reverse.map dStep) := by
      rw [List.map_reverse]
      exact (DpAll.tk (Tk.of s0) _ (flat_all_steps l) hD).rev
    generalize upd H p (.tup xs.reverse) = H1 at s0 hB hR hD' ⊢
    refine lc_it (walk_tup (xs := xs.reverse)) (fun i H' => Row1 K H' D ((l.reverse.take i).map fun x => (x.1, -x.2)) ∧ Same H1 H') ⟨⟨[], upd_same, .nil⟩, same_upd hD'⟩ (fun _ _ _ ⟨_, s'⟩ => (Tk.of s').sqT hB) (fun i x H2 H3 hi ⟨⟨ys, eD, hY⟩, s'⟩ hy => ?_) (fun H2 ⟨⟨ys, eD, hY⟩, s'⟩ => ?_)
    · obtain ⟨rfl, hx⟩ := hy
      obtain ⟨dd, g1, p1⟩ := hR.get hx
      rw [List.getElem?_map] at g1
      obtain ⟨s, k1, rfl⟩ := Option.map_eq_some_iff.mp g1
      obtain ⟨b, rfl, cb⟩ := p1.step
      have hly := hY.len
      rw [List.length_map, List.length_map, List.length_take, List.length_reverse] at hly
      refine ⟨b, _, rfl, (Tk.of s').sqT cb, rfl, _, _, rfl, _, _, rfl, rfl, rfl, yes_ ?_⟩
      refine ⟨_, rfl, _, rfl, s.2, rfl, (show 2 ≤ sizeLine by decide), fun T hT => ⟨ys, ?_, small1000 (by omega), ?_, same_put (same_new s' hT) hD'⟩⟩
      · rw [upd_ne (ne_of_none eD hT)]
        exact eD
      · refine Row1.put (xs := ys) (by rw [upd_ne (ne_of_none eD hT)]; exact eD) ?_
        rw [take_snoc k1, List.map_append, List.map_append]
        exact (DpAll.tk (Tk.of (same_upd hT)) _ (flat_all_steps _) hY).app (.cons (Dp.of_step (s := (s.1, -s.2)) (SqT.of upd_same)) .nil)
    · rw [List.length_reverse, hlx, show l.length = l.reverse.length from (List.length_reverse).symm, List.take_length] at hY
      refine .inl ⟨D, ys, rfl, SqL.of eD, fun r hr' => q _ r (same_new (s0.trans s') hr') ?_⟩
      unfold XM.back
      rw [← List.map_reverse]
      exact .tup (SqT.of upd_same) (DpAll.tk (Tk.of (same_upd hr')) _ (flat_all_steps _) hY)
theorem names_back {F : Fld} {l : List (Str × Int)} (h : Names F l) : Names F (XM.back l) := fun s hs => by
  unfold XM.back at hs
  obtain ⟨x, hx, rfl⟩ := List.mem_map.mp (List.mem_reverse.mp hs)
  exact h x hx
def spTakenBack (K : PySem.W.Frag) (F : Fld) : Sp := fun vs H Q _ => ∃ l, FS K F l vs H ∧ ∀ H' r, Same H H' → Dp K H' (.ref r) (dSteps (XM.act (OF F) (XM.back l) []).reverse) → Q (.ref r) H'
end
end XB
set_option Elab.async false
set_option linter.all false
set_option maxRecDepth 100000
set_option maxHeartbeats 4000000
namespace XM
theorem frs_snoc {α : Type} [DecidableEq α] {O : Ord α} {x : α × Int} : ∀ {l bar : Row α}, frs O bar (l ++ [x]) = frs O bar l ++ (if (bar ++ l).all (fun w => !O.tc w.1 x.1) then [x.1] else [])
  | [], bar => by
    show (if _ then _ else _) = _
    rw [List.append_nil]
    cases bar.all (fun w => !O.tc w.1 x.1) <;> rfl
  | y :: l, bar => by
    have ih := frs_snoc (O := O) (x := x) (l := l) (bar := bar ++ [y])
    rw [List.append_assoc, List.singleton_append] at ih
    show (if _ then y.1 :: frs O (bar ++ [y]) (l ++ [x]) else frs O (bar ++ [y]) (l ++ [x])) = (if _ then _ else _) ++ _
    rw [ih]
    cases bar.all (fun w => !O.tc w.1 y.1) <;> rfl
end XM
namespace XB
open PySem PySem.Spec PyProof.Rows L2
section
variable {P : Program} {w : World} {K : PySem.W.Frag} {mg : Str → Option Value} {base : Heap}
def SrtOf (ns zs : List Str) : Prop := zs.Perm ns ∧ sortedS zs = true
theorem frs_len {F : Fld} : ∀ {l bar : List (Str × Int)}, (XM.frs (OF F) bar l).length ≤ l.length
  | [], _ => Nat.le_refl _
  | x :: l, bar => by
    have ih := frs_len (F := F) (l := l) (bar := bar ++ [x])
    unfold XM.frs
    split
    · rw [List.length_cons, List.length_cons]
      omega
    · rw [List.length_cons]
      omega
theorem barred_all {F : Fld} (ok : F.Ok) {n : Str} (hn : n ∈ F.names) (l : List (Str × Int)) : (!(l.any fun w => (touchL F w.1).contains n)) = l.all fun w => !(OF F).tc w.1 n := by
  induction l with
  | nil => rfl
  | cons y r ih =>
    rw [List.any_cons, List.all_cons, Bool.not_or, ih, mem_touch ok hn, (OF F).symm]
def Bars (H : Hp) (B : Addr) (f : Str → Bool) (m : Nat) : Prop := ∃ kvs : List (Key × V), H B = some (.dK kvs) ∧ kvs.length ≤ m ∧ ∀ n, (valV kvs (.inr n)).isSome = f n
def spFrontNames (K : PySem.W.Frag) (F : Fld) : Sp := fun vs H Q _ => ∃ (t d : Addr) (xs : List V) (l : List (Str × Int)), vs = [.ref t, .ref d] ∧ TouchAt K H t F ∧ F.Ok ∧ SqT K H d xs ∧ DpAll K H xs (l.map dStep) ∧ l.length ≤ 60 ∧ Names F l ∧
  ∀ H' r zs, Same H H' → SrtOf (XM.frs (OF F) [] l) zs → SqT K H' r (zs.map V.str) → Q (.ref r) H'
def spFronts (K : PySem.W.Frag) (F : Fld) : Sp := fun vs H Q _ => ∃ l, FS K F l vs H ∧ ∀ H' r zs, Same H H' → SrtOf (XM.frs (OF F) [] (XM.act (OF F) l []).reverse) zs → SqT K H' r (zs.map V.str) → Q (.ref r) H'
theorem names_rev {F : Fld} {l : List (Str × Int)} (h : Names F l) : Names F l.reverse := fun s hs => h s (List.mem_reverse.mp hs)
def spEnds (K : PySem.W.Frag) (F : Fld) : Sp := fun vs H Q _ => ∃ l, FS K F l vs H ∧ ∀ H' r zs, Same H H' → SrtOf (XM.frs (OF F) [] (XM.act (OF F) l [])) zs → SqT K H' r (zs.map V.str) → Q (.ref r) H'
end
end XB
set_option Elab.async false
set_option linter.all false
set_option maxRecDepth 100000
set_option maxHeartbeats 4000000
/-! rules of rows, lists or tuples -/
namespace XB
open PySem PySem.Spec PyProof.Rows L2
section
variable {P : Program} {w : World} {K : PySem.W.Frag} {mg : Str → Option Value} {base : Heap}
def spLawApart (K : PySem.W.Frag) : Sp := fun vs H Q _ => ∃ (a : Addr) (F : Fld) (x y : Str), vs = [.ref a, .str x, .str y] ∧ Dp K H (.ref a) (dField F) ∧ F.Ok ∧ x ∈ F.names ∧ y ∈ F.names ∧ ∀ H', Same H H' → Q (.bl (apart F x y)) H'
def spLawLength (K : PySem.W.Frag) : Sp := fun vs H Q _ => ∃ (a : Addr) (xs : List V) (l : List (Str × Int)), vs = [.ref a] ∧ SqT K H a xs ∧ DpAll K H xs (l.map dStep) ∧ l.length ≤ 500 ∧ ∀ H', Same H H' → Q (.int (lenOf l)) H'
end
end XB
set_option Elab.async false
set_option linter.all false
set_option maxRecDepth 100000
set_option maxHeartbeats 4000000
namespace XB
open PySem PySem.Spec PyProof.Rows L2
section
variable {P : Program} {w : World} {K : PySem.W.Frag} {mg : Str → Option Value} {base : Heap}
def spLawBack (K : PySem.W.Frag) : Sp := fun vs H Q _ => ∃ (a : Addr) (l : List (Str × Int)), vs = [.ref a] ∧ Dp K H (.ref a) (dSteps l) ∧ l.length ≤ 500 ∧ ∀ H' r, Same H H' → Dp K H' (.ref r) (dSteps (XM.back l)) → Q (.ref r) H'
/-- whether the step there can stand first -/
def free1 (F : Fld) (l : List (Str × Int)) (k : Nat) : Bool := match l[k]? with
  | some s => (l.take k).all fun y => !(OF F).tc y.1 s.1
  | none => false
def firstsL (F : Fld) (l : List (Str × Int)) (n : Nat) : List Nat := (List.range n).filter (free1 F l)
theorem firsts_snoc {F : Fld} {l : List (Str × Int)} {n : Nat} : firstsL F l (n + 1) = firstsL F l n ++ (if free1 F l n then [n] else []) := by
  unfold firstsL
  rw [List.range_succ, List.filter_append]
  congr 1
  cases h : free1 F l n <;> simp [h]
theorem firsts_len {F : Fld} {l : List (Str × Int)} {n : Nat} : (firstsL F l n).length ≤ n := by
  have := List.length_filter_le (free1 F l) (List.range n)
  rw [List.length_range] at this
  exact this
def spLawFirst (K : PySem.W.Frag) : Sp := fun vs H Q _ => ∃ (a p : Addr) (F : Fld) (xs : List V) (l : List (Str × Int)), vs = [.ref a, .ref p] ∧ Dp K H (.ref a) (dField F) ∧ F.Ok ∧ SqX K H p xs ∧ DpAll K H xs (l.map dStep) ∧ Names F l ∧ l.length ≤ 60 ∧
  ∀ H' r, Same H H' → H' r = some (.lst ((firstsL F l l.length).map fun k => V.int (k : Nat))) → H r = none → Q (.ref r) H'
end
end XB
set_option Elab.async false
set_option linter.all false
set_option maxRecDepth 100000
set_option maxHeartbeats 4000000
namespace XB
open PySem PySem.Spec PyProof.Rows L2
def up (n : Nat) (o : Option (Nat × Nat)) : Option (Nat × Nat) := o.map fun p => (p.1 + n, p.2 + n)
theorem met_none {F : Fld} {l : List (Str × Int)} {k : Nat} {s : Str × Int} (hs : l[k]? = some s) (h : XM.near (OF F) s.1 (l.drop (k + 1)) = none) : up k (XM.met (OF F) (l.drop k)) = up (k + 1) (XM.met (OF F) (l.drop (k + 1))) := by
  rw [drop_at hs]
  show up k (match XM.near (OF F) s.1 (l.drop (k + 1)) with
    | some d => some (0, d + 1)
    | none => (XM.met (OF F) (l.drop (k + 1))).map fun p => (p.1 + 1, p.2 + 1)) = _
  rw [h]
  unfold up
  rw [Option.map_map]
  congr 1
  funext p
  show (p.1 + 1 + k, p.2 + 1 + k) = (p.1 + (k + 1), p.2 + (k + 1))
  rw [Nat.add_assoc, Nat.add_assoc, Nat.add_comm 1 k]
theorem met_here {F : Fld} {l : List (Str × Int)} {k d : Nat} {s : Str × Int} (hs : l[k]? = some s) (h : XM.near (OF F) s.1 (l.drop (k + 1)) = some d) : up k (XM.met (OF F) (l.drop k)) = some (k, k + 1 + d) := by
  rw [drop_at hs]
  show up k (match XM.near (OF F) s.1 (l.drop (k + 1)) with
    | some d => some (0, d + 1)
    | none => (XM.met (OF F) (l.drop (k + 1))).map fun p => (p.1 + 1, p.2 + 1)) = _
  rw [h]
  show some (0 + k, d + 1 + k) = _
  rw [Nat.zero_add, Nat.add_comm (d + 1) k, Nat.add_comm d 1, Nat.add_assoc]
section
variable {P : Program} {w : World} {K : PySem.W.Frag} {mg : Str → Option Value} {base : Heap}
def metV (K : PySem.W.Frag) (H : Hp) (Q : VK) : Option (Nat × Nat) → Prop
  | none => ∀ H', Same H H' → Q .non H'
  | some p => ∀ H' r, Same H H' → SqT K H' r [.int (p.1 : Nat), .int (p.2 : Nat)] → Q (.ref r) H'
def spLawMet (K : PySem.W.Frag) : Sp := fun vs H Q _ => ∃ (a p : Addr) (F : Fld) (xs : List V) (l : List (Str × Int)), vs = [.ref a, .ref p] ∧ Dp K H (.ref a) (dField F) ∧ F.Ok ∧ SqX K H p xs ∧ DpAll K H xs (l.map dStep) ∧ Names F l ∧ l.length ≤ 60 ∧
  metV K H Q (XM.met (OF F) l)
end
end XB
set_option Elab.async false
set_option linter.all false
set_option maxRecDepth 100000
set_option maxHeartbeats 4000000
namespace XB
open PySem PySem.Spec PyProof.Rows L2
theorem cut_mid (xs : List V) {i j : Nat} (h1 : i ≤ j) (h2 : j ≤ xs.length) : cutV xs (some (i : Int)) (some (j : Int)) = (xs.drop i).take (j - i) := by
  unfold cutV
  rw [HT.sIx_nat, HT.sIx_nat, Nat.min_eq_left h2, Nat.min_eq_left (Nat.le_trans h1 h2)]
def melt {α : Type} (l : List α) (x : List α) (i j : Nat) : List α := l.take i ++ x ++ ((l.drop (i + 1)).take (j - (i + 1)) ++ l.drop (j + 1))
theorem melt_step {F : Fld} {l : List (Str × Int)} {i j : Nat} (h : XM.met (OF F) l = some (i, j)) (hZ : XM.NZ l) (hN : Names F l) :
    ∃ a s t, l[i]? = some (a, s) ∧ l[j]? = some (a, t) ∧ i < j ∧ j < l.length ∧ ∀ x, x = (if s + t = 0 then [] else [(a, s + t)]) →
      XM.NZ (melt l x i j) ∧ Names F (melt l x i j) ∧ XM.act (OF F) (melt l x i j) [] = XM.act (OF F) l [] ∧ (melt l x i j).length < l.length := by
  obtain ⟨u, a, s, m, t, v, e, hi, hj, hm⟩ := XM.met_some h
  have z1 : s ≠ 0 := hZ (a, s) (by rw [e]; simp)
  have z2 : t ≠ 0 := hZ (a, t) (by rw [e]; simp)
  refine ⟨a, s, t, ?_, ?_, by omega, ?_, fun x hx => ?_⟩
  · rw [e, List.getElem?_append_right (by omega), hi, Nat.sub_self]
    rfl
  · rw [e, List.getElem?_append_right (by omega), show j - u.length = m.length + 1 by omega, List.getElem?_cons_succ, List.getElem?_append_right (by omega), Nat.sub_self]
    rfl
  · rw [e]
    simp
    omega
  · have em : melt l x i j = u ++ (x ++ (m ++ v)) := by
      unfold melt
      have e1 : l.take i = u := by
        rw [e, ← hi, List.take_left']
        rfl
      have e2 : l.drop (i + 1) = m ++ (a, t) :: v := by
        rw [e, ← hi, List.drop_append, List.drop_of_length_le (by omega)]
        rw [show u.length + 1 - u.length = 1 by omega]
        rfl
      have e3 : l.drop (j + 1) = v := by
        have : l.drop (j + 1) = (l.drop (i + 1)).drop (m.length + 1) := by
          rw [List.drop_drop]
          congr 1
          omega
        rw [this, e2, List.drop_append, List.drop_of_length_le (by omega), show m.length + 1 - m.length = 1 by omega]
        rfl
      rw [e1, e2, e3, show j - (i + 1) = m.length by omega, List.take_left' rfl, List.append_assoc]
    have nx : XM.NZ x := by
      rw [hx]
      intro y hy
      by_cases h0 : s + t = 0
      · rw [if_pos h0] at hy
        cases hy
      · rw [if_neg h0] at hy
        rw [List.mem_singleton.mp hy]
        exact h0
    have zl := hZ
    rw [e] at zl
    have zu : XM.NZ u := fun y hy => zl y (by simp [hy])
    have zm : XM.NZ m := fun y hy => zl y (by simp [hy])
    have zv : XM.NZ v := fun y hy => zl y (by simp [hy])
    have nl := hN
    rw [e] at nl
    rw [em]
    refine ⟨zu.app (nx.app (zm.app zv)), fun y hy => ?_, ?_, ?_⟩
    · rw [List.mem_append, List.mem_append, List.mem_append] at hy
      rcases hy with hy | hy | hy | hy
      · exact nl y (by simp [hy])
      · rw [hx] at hy
        by_cases h0 : s + t = 0
        · rw [if_pos h0] at hy
          cases hy
        · rw [if_neg h0] at hy
          rw [List.mem_singleton.mp hy]
          exact nl (a, s) (by simp)
      · exact nl y (by simp [hy])
      · exact nl y (by simp [hy])
    · rw [e, hx]
      exact (XM.act_meet (O := OF F) hm z1 z2 zu zm (show XM.NF (OF F) [] from trivial)).symm
    · rw [e, hx]
      by_cases h0 : s + t = 0
      · rw [if_pos h0]
        simp
        try omega
      · rw [if_neg h0]
        simp
        try omega
section
variable {P : Program} {w : World} {K : PySem.W.Frag} {mg : Str → Option Value} {base : Heap}
def spLawPile (K : PySem.W.Frag) (F : Fld) : Sp := fun vs H Q _ => ∃ (a p : Addr) (xs : List V) (l : List (Str × Int)), vs = [.ref a, .ref p] ∧ Dp K H (.ref a) (dField F) ∧ F.Ok ∧ SqT K H p xs ∧ DpAll K H xs (l.map dStep) ∧ Names F l ∧ XM.NZ l ∧ l.length ≤ 60 ∧
  ∀ H' r l', Same H H' → Row1 K H' r l' → H r = none → Names F l' → XM.NZ l' → XM.pl (OF F) l' = true → XM.act (OF F) l' [] = XM.act (OF F) l [] → l'.length ≤ l.length → Q (.ref r) H'
/-- what _law_met has answered -/
def SpotV (K : PySem.W.Frag) (H : Hp) (z : V) : Option (Nat × Nat) → Prop
  | none => z = .non
  | some p => ∃ t, z = .ref t ∧ SqT K H t [.int (p.1 : Nat), .int (p.2 : Nat)]
theorem metV_of {H : Hp} {Q : VK} {o : Option (Nat × Nat)} (h : ∀ H' z, Same H H' → SpotV K H' z o → Q z H') : metV K H Q o := by
  cases o with
  | none => exact fun H' s => h H' .non s rfl
  | some p => exact fun H' r s hs => h H' (.ref r) s ⟨r, rfl, hs⟩
def PileInv (K : PySem.W.Frag) (F : Fld) (H : Hp) (a p : Addr) (l : List (Str × Int)) : Nat → L2.St → Hp → Prop := fun m σ H2 => ∃ (D : Addr) (ys : List V) (l' : List (Str × Int)) (z : V) (y4 y5 y6 y7 : Option V), m = l'.length ∧ σ = [some (.ref a), some (.ref p), some (.ref D), some z, y4, y5, y6, y7] ∧ Same H H2 ∧ H2 D = some (.lst ys) ∧ DpAll K H2 ys (l'.map dStep) ∧ H D = none ∧
        Names F l' ∧ XM.NZ l' ∧ XM.act (OF F) l' [] = XM.act (OF F) l [] ∧ l'.length ≤ l.length ∧ SpotV K H2 z (XM.met (OF F) l')
end
end XB
set_option Elab.async false
set_option linter.all false
set_option maxRecDepth 100000
set_option maxHeartbeats 4000000
namespace XB
open PySem PySem.Spec PyProof.Rows L2
theorem rising_least : ∀ {r : List Str} {x : Str}, risingS x r = true → ∀ y ∈ r, sLt y x = false
  | [], _, _ => fun _ h => nomatch h
  | z :: r, x, h => by
    unfold risingS at h
    rw [Bool.and_eq_true] at h
    have h1 : sLt z x = false := by
      have := h.1
      rw [ltCps_eq] at this
      unfold sLt
      simpa using this
    intro y hy
    rcases List.mem_cons.mp hy with rfl | hy
    · exact h1
    · have h2 := rising_least h.2 y hy
      cases h3 : sLt y x
      · rfl
      · exfalso
        by_cases e : x = z
        · rw [e] at h3
          rw [h3] at h2
          cases h2
        · have h4 : sLt x z = true := sLt_tot z x (fun q => e q.symm) h1
          have := sLt_trans _ _ _ h3 h4
          rw [this] at h2
          cases h2
theorem sorted_head {y0 : Str} {ys : List Str} (h : sortedS (y0 :: ys) = true) : ∀ y ∈ y0 :: ys, sLt y y0 = false := fun y hy => by
  rcases List.mem_cons.mp hy with rfl | hy
  · exact sLt_irr _
  · exact rising_least h y hy
def nm1 (l : List (Str × Int)) (k : Nat) : Str := (l[k]?.map (·.1)).getD ""
theorem nm1_of {l : List (Str × Int)} {k : Nat} {s : Str × Int} (h : l[k]? = some s) : nm1 l k = s.1 := by
  unfold nm1
  rw [h]
  rfl
theorem mem_firsts {F : Fld} {l : List (Str × Int)} {n k : Nat} : k ∈ firstsL F l n ↔ k < n ∧ free1 F l k = true := by
  unfold firstsL
  rw [List.mem_filter, List.mem_range]
theorem firsts_at {F : Fld} {l : List (Str × Int)} {k : Nat} (h : k ∈ firstsL F l l.length) : ∃ s, l[k]? = some s ∧ ∀ y ∈ l.take k, (OF F).tc y.1 s.1 = false := by
  obtain ⟨h1, h2⟩ := mem_firsts.mp h
  have hs : l[k]? = some l[k] := List.getElem?_eq_getElem h1
  refine ⟨_, hs, fun y hy => ?_⟩
  unfold free1 at h2
  rw [hs] at h2
  have := List.all_eq_true.mp h2 y hy
  simpa using this
theorem least_first {F : Fld} {l : List (Str × Int)} {ys : List Str} {y0 : Str} (hP : (y0 :: ys).Perm ((firstsL F l l.length).map (nm1 l))) (hS : sortedS (y0 :: ys) = true) {k : Nat} (hk : k ∈ firstsL F l l.length) (hn : nm1 l k = y0) :
    ∃ s, l[k]? = some s ∧ s.1 = y0 ∧ l = l.take k ++ s :: l.drop (k + 1) ∧ XM.LeastFirst (OF F) (l.take k) s (l.drop (k + 1)) := by
  obtain ⟨s, hs, hf⟩ := firsts_at hk
  have e1 : s.1 = y0 := by rw [← hn, nm1_of hs]
  have e2 : l = l.take k ++ s :: l.drop (k + 1) := by
    rw [← drop_at hs, List.take_append_drop]
  refine ⟨s, hs, e1, e2, hf, fun p' z q' e hp hz => ?_⟩
  rw [← e2] at e
  have hz' : l[p'.length]? = some z := by
    rw [e, List.getElem?_append_right (Nat.le_refl _), Nat.sub_self]
    rfl
  have m : p'.length ∈ firstsL F l l.length := by
    refine mem_firsts.mpr ⟨(List.getElem?_eq_some_iff.mp hz').1, ?_⟩
    unfold free1
    rw [hz']
    show (l.take p'.length).all _ = true
    rw [e, List.take_left' rfl, List.all_eq_true]
    intro w hw
    rw [hp w hw]
    rfl
  have m2 : z.1 ∈ y0 :: ys := hP.symm.subset (List.mem_map.mpr ⟨_, m, nm1_of hz'⟩)
  have := sorted_head hS _ m2
  show sLt s.1 z.1 = true
  rw [e1]
  exact sLt_tot _ _ (fun q => hz (by rw [q, e1])) this
theorem firsts_some {F : Fld} {l : List (Str × Int)} (h : l ≠ []) : 0 ∈ firstsL F l l.length := by
  cases l with
  | nil => exact absurd rfl h
  | cons x r => exact mem_firsts.mpr ⟨by simp, rfl⟩
/-- what stands fast while the least pile is drawn from a pile -/
structure LInv (F : Fld) (l fl ll : List (Str × Int)) : Prop where
  srt : XM.Srt (OF F) fl ll
  pl : XM.pl (OF F) (fl ++ ll) = true
  nf : XM.NZ fl
  nl : XM.NZ ll
  act : XM.act (OF F) (fl ++ ll) [] = XM.act (OF F) l []
  nm : Names F ll
  len : fl.length + ll.length ≤ 60
theorem LInv.step {F : Fld} {l fl p q : List (Str × Int)} {s : Str × Int} (I : LInv F l fl (p ++ s :: q)) (L : XM.LeastFirst (OF F) p s q) : LInv F l (fl ++ [s]) (p ++ q) := by
  have zs : s.2 ≠ 0 := I.nl s (by simp)
  have zp : XM.NZ p := fun y hy => I.nl y (by simp [hy])
  have zq : XM.NZ q := fun y hy => I.nl y (by simp [hy])
  refine ⟨I.srt.step L, ?_, I.nf.app fun y hy => by rw [List.mem_singleton.mp hy]; exact zs, zp.app zq, ?_, fun y hy => I.nm y ?_, ?_⟩
  · rw [List.append_assoc, List.singleton_append, ← XM.pl_move L.free]
    exact I.pl
  · rw [List.append_assoc, List.singleton_append, ← XM.act_move L.free I.nf zp (show XM.NF (OF F) [] from trivial)]
    exact I.act
  · rw [List.mem_append] at hy
    rcases hy with h | h <;> simp [h]
  · have := I.len
    simp at this ⊢
    omega
theorem LInv.done {F : Fld} {l fl : List (Str × Int)} (I : LInv F l fl []) : (XM.act (OF F) l []).reverse = fl := by
  have h := I.pl
  have nf : XM.NF (OF F) fl.reverse := XM.nf_of (left := []) _ fl rfl I.srt h I.nf
  have a := XM.act_fix nf
  rw [List.reverse_reverse] at a
  have := I.act
  rw [List.append_nil, a] at this
  rw [← this, List.reverse_reverse]
theorem lay_steps : ∀ {l : List (Str × Int)}, (∀ s ∈ l, GoodName s.1) → PyData.canLayAll0 (l.map dStep) = true
  | [], _ => rfl
  | s :: l, h => by
    rw [List.map_cons, PyData.canLayAll0, lay_steps fun x hx => h x (List.mem_cons_of_mem _ hx)]
    show (PyData.canLay0 (.tuple [.str s.1, .int s.2]) && true) = true
    simp [PyData.canLay0, PyData.canLayAll0, strOk_of (h s List.mem_cons_self)]
theorem deep_steps : ∀ l : List (Str × Int), PyData.depthAll (l.map dStep) ≤ 2
  | [] => by decide
  | s :: l => by
    rw [List.map_cons, PyData.depthAll]
    have := deep_steps l
    have e : (dStep s).depth ≤ 2 := by
      show PyData.depth (.tuple [.str s.1, .int s.2]) ≤ 2
      simp [PyData.depth, PyData.depthAll]
    omega
theorem sh_steps {l : List (Str × Int)} (h : ∀ s ∈ l, GoodName s.1) : SeqAt.shaped (.list (l.map dStep)) = true := by
  have h2 := deep_steps l
  show (PyData.canLayAll0 (l.map dStep) && decide (PyData.depthAll (l.map dStep) + 1 ≤ 64)) = true
  rw [lay_steps h, Bool.true_and]
  exact decide_eq_true (by omega)
theorem ne_steps (l : List (Str × Int)) : PyData.eqv (.list (l.map dStep)) (.list []) = l.isEmpty := by
  cases l <;> rfl
end XB
set_option Elab.async false
set_option linter.all false
set_option maxRecDepth 100000
set_option maxHeartbeats 4000000
namespace XB
open PySem PySem.Spec PyProof.Rows L2
theorem fresh_of {H H1 : Hp} {p : Addr} (s : Same H H1) (h : H1 p = none) : H p = none := by
  cases e : H p with
  | none => rfl
  | some o =>
    rw [s _ _ e] at h
    cases h
theorem nat_at {ns : List Nat} {i : Nat} {x : V} (h : (ns.map fun k => V.int (k : Nat))[i]? = some x) : ∃ k, ns[i]? = some k ∧ x = V.int (k : Nat) := by
  rw [List.getElem?_map] at h
  obtain ⟨z, e, rfl⟩ := Option.map_eq_some_iff.mp h
  exact ⟨z, e, rfl⟩
section
variable {P : Program} {w : World} {K : PySem.W.Frag} {mg : Str → Option Value} {base : Heap}
def spLawLeast (K : PySem.W.Frag) (F : Fld) : Sp := fun vs H Q _ => ∃ (a p : Addr) (l : List (Str × Int)), vs = [.ref a, .ref p] ∧ Dp K H (.ref a) (dField F) ∧ F.Ok ∧ Dp K H (.ref p) (dSteps l) ∧ Names F l ∧ XM.NZ l ∧ l.length ≤ 60 ∧
  ∀ H' r, Same H H' → Dp K H' (.ref r) (dSteps (XM.act (OF F) l []).reverse) → Q (.ref r) H'
def LeastInv (K : PySem.W.Frag) (F : Fld) (H : Hp) (a p : Addr) (l : List (Str × Int)) : Nat → L2.St → Hp → Prop := fun m σ H2 => ∃ (D E : Addr) (xs ys : List V) (ll fl : List (Str × Int)) (y4 y5 y6 : Option V), m = ll.length ∧ σ = [some (.ref a), some (.ref p), some (.ref D), some (.ref E), y4, y5, y6] ∧ Same H H2 ∧
  H2 D = some (.lst xs) ∧ DpAll K H2 xs (ll.map dStep) ∧ H D = none ∧ H2 E = some (.lst ys) ∧ DpAll K H2 ys (fl.map dStep) ∧ H E = none ∧ D ≠ E ∧ LInv F l fl ll
end
end XB
set_option Elab.async false
set_option linter.all false
set_option maxRecDepth 100000
set_option maxHeartbeats 4000000
/-! tuples of which it is known that they have no dict of their own: their methods may be called -/
namespace XB
open PySem PySem.Spec PyProof.Rows L2
def SqF (H : Hp) (a : Addr) (xs : List V) : Prop := ∃ o : Obj, H a = some (.frz o (.tup xs)) ∧ o.cls = .type "tuple" ∧ o.dict = none
theorem SqF.sqT {K : PySem.W.Frag} {H : Hp} {a : Addr} {xs : List V} (h : SqF H a xs) : SqT K H a xs := by
  obtain ⟨o, e, _⟩ := h
  exact .inl (.inr ⟨o, e⟩)
theorem SqF.same {H H' : Hp} {a : Addr} {xs : List V} (h : SqF H a xs) (s : Same H H') : SqF H' a xs := by
  obtain ⟨o, e, r⟩ := h
  exact ⟨o, s _ _ e, r⟩
theorem SqF.tk {H H' : Hp} {a : Addr} {xs : List V} (h : SqF H a xs) (t : Tk H H') : SqF H' a xs := by
  obtain ⟨o, e, r⟩ := h
  exact ⟨o, t.z _ _ _ e, r⟩
/-- the names of a field stand so -/
def FNm (K : PySem.W.Frag) (H : Hp) (f : Addr) (F : Fld) : Prop := ∃ n p, SqT K H f [.ref n, .ref p] ∧ SqF H n (F.names.map V.str)
theorem FNm.tk {K : PySem.W.Frag} {H H' : Hp} {f : Addr} {F : Fld} (h : FNm K H f F) (t : Tk H H') : FNm K H' f F := by
  obtain ⟨n, p, h1, h2⟩ := h
  exact ⟨n, p, t.sqT h1, h2.tk t⟩
/-- (e, ..): a new tuple without a dict of its own -/
def tTupF (t : TA) : TE := fun σ H Q => t σ H fun xs H1 => xs.length ≤ sizeLine ∧ ∀ p o, o.cls = .type "tuple" → o.dict = none → H1 p = none → Q (.ref p) (upd H1 p (.frz o (.tup xs)))
def rSlF (K : PySem.W.Frag) : V → Option Int → Option Int → Hp → VK → Prop := fun x lo hi H Q => ∃ a xs, x = .ref a ∧ SqF H a xs ∧ ∀ H' p, Same H H' → SqF H' p (cutV xs lo hi) → Q (.ref p) H'
section
variable {X : Cx} {es : List Expr} {t : TA} {pos : Pos}
theorem pe_tupF {x1} (h : PA X es t) : PE X (.Tuple es x1 pos) (tTupF t) := by
  refine ⟨fun pins s σ H Q I hq => ?_⟩
  refine wpAny_Tuple_spliced (thn (h.run pos pins s σ H _ I hq) fun us s1 ⟨xs, H1, I1, r, z, q⟩ => ⟨by rw [← r.length]; exact z, ?_⟩)
  have hf : H1 s1.heap.objs.size = none := I1.hok.fresh (Nat.le_refl _)
  refine ⟨.ref s1.heap.objs.size, upd H1 s1.heap.objs.size (.frz { cls := .type "tuple", data := .seq us.toArray } (.tup xs)), I1.laid (t' := s1.toks) (fun b u e => Heap.get?_push_of_some _ e) (Nat.le_refl _) ?_, rfl, q _ _ rfl rfl hf⟩
  exact ⟨Heap.get?_push_size _ rfl, z, us, r, ⟨_, Heap.get?_push_size _ rfl, rfl, _, rfl⟩⟩
theorem sl_tupF {K : PySem.W.Frag} (hk : X.K = K) : SlR X (rSlF K) := by
  subst hk
  intro pins s σ H x v vl vu lo hi sl Q I rx hs pl pu h
  obtain ⟨a, xs, rfl, hF, q⟩ := h
  have hx : SqT X.K H a xs := hF.sqT
  cases rx
  obtain ⟨its, r, ht, hz⟩ := I.tuple hx
  have hlen : its.toArray.size = xs.length := by rw [List.size_toArray]; exact r.length.symm
  refine ⟨"tuple", _, PyProof.Rows.slot_tuple_getitem.lookup, ht.typeIs, ?_⟩
  by_cases hw : HT.sIx xs.length 0 lo = 0 ∧ HT.sIx xs.length xs.length hi = xs.length
  · refine getItem_tuple_whole ht hs pl pu (by rw [hlen]; exact hw) ⟨.ref a, H, I, rfl, q H a (Same.refl _) ?_⟩
    have e : cutV xs lo hi = xs := by
      unfold cutV
      rw [hw.1, hw.2]
      simp
    rw [e]
    exact hF
  · refine HT.getItem_tuple_cut ht hs pl pu (by rw [hlen]; exact hw) ?_ (by rw [hlen]; exact hz)
    rw [hlen]
    have hf : H s.heap.objs.size = none := I.hok.fresh (Nat.le_refl _)
    refine ⟨.ref s.heap.objs.size, _, I.laid (t' := s.toks) (o := .frz { cls := .type "tuple", data := .seq ((its.drop (HT.sIx xs.length 0 lo)).take (HT.sIx xs.length xs.length hi - HT.sIx xs.length 0 lo)).toArray } (.tup (cutV xs lo hi))) (fun b ob q => Heap.get?_push_of_some _ q) (Nat.le_refl _) ?_, rfl, q _ _ (same_upd hf) ⟨_, upd_same, rfl, rfl⟩⟩
    exact ⟨Heap.get?_push_size _ rfl, Nat.le_trans (cutV_length xs lo hi) hz, _, (r.drop (HT.sIx xs.length 0 lo)).take (HT.sIx xs.length xs.length hi - HT.sIx xs.length 0 lo), IsTup.new _ _⟩
/-- o.m(e, ..) of such a tuple -/
def tBMF (r : V → List V → Hp → VK → Prop) (to : TE) (t : TA) : TE := fun σ H Q => to σ H fun x H1 => (∃ a xs, x = .ref a ∧ SqF H1 a xs) ∧ t σ H1 fun xs H2 => r x xs H2 Q
variable {o e : Expr} {to : TE} {name : Str} {apos cpos : Pos} {id : String} {r : V → List V → Hp → VK → Prop}
theorem pe_bmF (slot : Slot "tuple" name id) (hty : typeOf (.builtin id) = pure (.type "method_descriptor")) (hm : MtR X id r) (ho : PE X o to) (ha : PA X (e :: es) t)
    (hbase : attributeBase o name X.env (eval o X.env) = eval o X.env := by rfl)
    (hfew : ((backTo cpos (starEach (e :: es) X.env)).all (fun x => !x.1) && (backToKw cpos (keywordEach [] X.env)).all (fun x => x.1.isSome)
      && decide ((e :: es).length + ([] : List Keyword).length + (if ([] : List Keyword).isEmpty then 0 else 1) < 30)) = true := by rfl)
    (hline : (apos.endLine == cpos.line) = true := by rfl) (hs : starEach (e :: es) X.env = (false, eval e X.env) :: starEach es X.env := by rfl) (hplain : (backTo cpos (starEach es X.env)).any (·.1) = false := by rfl) :
    PE X (.Call (.Attribute o name apos) (e :: es) [] cpos) (tBMF r to t) := by
  refine ⟨fun pins s σ H Q I h => ?_⟩
  refine wpAny_Call_method_late hbase hfew hline rfl (thn (ho.run pins s σ H _ I h) fun v s1 ⟨x, H1, I1, r1, ty, q1⟩ => ?_)
  obtain ⟨a, xs, rfl, ob, hH, hc, hd⟩ := ty
  cases r1
  obtain ⟨hg, _⟩ := I1.hok a _ hH
  refine ⟨"tuple", id, PySem.F.plainAttrs_tuple, slot, hty, ⟨ob, hg, hc⟩, fun b e => ?_, ?_⟩
  · cases e
    exact ⟨ob, hg, hd⟩
  · have hA := ha.run cpos pins s1 σ H1 _ I1 q1
    rw [hs] at hA ⊢
    refine Calls.callWith_builtin (by show (false || (backTo cpos (starEach es X.env)).any (·.1)) = false; rw [hplain] <;> rfl) (Calls.evalArgs_plain ?_)
    exact thn hA fun us s2 ⟨vs, H2, I2, r2, q2⟩ => hm pins s2 σ H2 (.ref a) vs _ us Q I2 rfl r2 q2
end
end XB
set_option Elab.async false
set_option linter.all false
set_option maxRecDepth 100000
set_option maxHeartbeats 4000000
namespace XB
open PySem PySem.Spec PyProof.Rows L2
def NL : List Str := ["a", "b", "c", "dd", "e", "f"]
def nmN (i : Nat) : Str := (NL[i]?).getD ""
def fP (n i : Nat) : List (Str × Str) := ((NL.take n).drop (i + 1)).map fun o => (nmN i, o)
def PP (n k : Nat) : List (Str × Str) := (List.range k).flatMap (fP n)
def ltP (p q : Str × Str) : Bool := if p.1 == q.1 then (if p.2 == q.2 then false else sLt p.2 q.2) else sLt p.1 q.1
def pwB {α : Type} (r : α → α → Bool) : List α → Bool
  | [] => true
  | x :: l => l.all (r x) && pwB r l
theorem pw_of {α : Type} {r : α → α → Bool} : ∀ {l : List α}, pwB r l = true → l.Pairwise fun a b => r a b = true
  | [], _ => .nil
  | x :: l, h => by
    unfold pwB at h
    rw [Bool.and_eq_true, List.all_eq_true] at h
    exact .cons h.1 (pw_of h.2)
def goodB (n : Str) : Bool := decide (1 ≤ n.length) && decide (n.length ≤ 6) && n.cps.toList.all fun c => decide (97 ≤ c) && decide (c ≤ 122)
theorem good_of {n : Str} (h : goodB n = true) : GoodName n := by
  unfold goodB at h
  simp only [Bool.and_eq_true, decide_eq_true_eq, List.all_eq_true] at h
  exact ⟨h.1.1, h.1.2, h.2⟩
def okB (n : Nat) : Bool := (PP n n).all (fun p => sLt p.1 p.2 && (NL.take n).contains p.1 && (NL.take n).contains p.2) && pwB ltP (PP n n) && pwB sLt (NL.take n) && (NL.take n).all goodB && decide ((PP n n).length ≤ 100) && decide ((NL.take n).length = n)
theorem okB_all : okB 1 = true ∧ okB 2 = true ∧ okB 3 = true ∧ okB 4 = true ∧ okB 5 = true ∧ okB 6 = true := by decide +kernel
theorem okB_of {n : Nat} (h0 : 1 ≤ n) (h6 : n ≤ 6) : okB n = true := by
  obtain ⟨a, b, c, d, e, f⟩ := okB_all
  rcases n with _ | _ | _ | _ | _ | _ | _ | n
  · omega
  · exact a
  · exact b
  · exact c
  · exact d
  · exact e
  · exact f
  · omega
theorem fld_ok {n : Nat} {ps : List (Str × Str)} (h0 : 1 ≤ n) (h6 : n ≤ 6) (hs : ps.Sublist (PP n n)) : (Fld.mk (NL.take n) ps).Ok := by
  have h := okB_of h0 h6
  unfold okB at h
  simp only [Bool.and_eq_true, decide_eq_true_eq, List.all_eq_true] at h
  obtain ⟨⟨⟨⟨⟨a, b⟩, c⟩, d⟩, e⟩, f⟩ := h
  refine ⟨by show 0 < (NL.take n).length; omega, by show (NL.take n).length ≤ 6; omega, fun p hp => (a p (hs.subset hp)).1.1, fun p hp => ⟨?_, ?_⟩, fun x hx => good_of (d x hx), pw_of c, (pw_of b).sublist hs, Nat.le_trans hs.length_le e⟩
  · have := (a p (hs.subset hp)).1.2
    simpa using this
  · have := (a p (hs.subset hp)).2
    simpa using this
theorem Dr.tk {H H' : Hp} {m c g : Addr} {s : Int} (D : Dr H m c g s) (k : Kp m g H H') : Tk H H' := by
  obtain ⟨⟨cs, gs, em, ec, eg, _⟩, _⟩ := D
  exact ⟨fun b xs e => k b _ (ne_of e em fun q => nomatch q) (ne_of e eg fun q => nomatch q) e, fun b o u e => k b _ (ne_of e em fun q => nomatch q) (ne_of e eg fun q => nomatch q) e⟩
theorem Dr.nm {H : Hp} {m c g : Addr} {s : Int} (D : Dr H m c g s) {p : Addr} (h : H p = none) : p ≠ m ∧ p ≠ c ∧ p ≠ g := by
  obtain ⟨⟨cs, gs, em, ec, eg, _⟩, _⟩ := D
  exact ⟨fun e => (by rw [e, em] at h; cases h), fun e => (by rw [e, ec] at h; cases h), fun e => (by rw [e, eg] at h; cases h)⟩
theorem Dr.same {H H' : Hp} {m c g : Addr} {s : Int} (D : Dr H m c g s) (t : Same H H') : Dr H' m c g s := by
  obtain ⟨⟨cs, gs, em, ec, eg, r⟩, a, b⟩ := D
  exact ⟨⟨cs, gs, t _ _ em, t _ _ ec, t _ _ eg, r⟩, a, b⟩
theorem Dr.put {H : Hp} {m c g D : Addr} {s : Int} {o : HO} (R : Dr H m c g s) (h : D ≠ m ∧ D ≠ c ∧ D ≠ g) : Dr (upd H D o) m c g s := by
  obtain ⟨⟨cs, gs, em, ec, eg, r⟩, a, b⟩ := R
  exact ⟨⟨cs, gs, by rw [upd_ne h.1.symm]; exact em, by rw [upd_ne h.2.1.symm]; exact ec, by rw [upd_ne h.2.2.symm]; exact eg, r⟩, a, b⟩
theorem Kp.put {m g D : Addr} {H H1 : Hp} {o : HO} (k : Kp m g H H1) (h : H D = none) : Kp m g H (upd H1 D o) := fun b u h1 h2 e => by
  rw [upd_ne (ne_of_none e h)]
  exact k b u h1 h2 e
theorem sl_pre {K : PySem.W.Frag} {H : Hp} {a : Addr} {xs : List V} {k : Nat} {Q : VK} (h : SqT K H a xs) (q : ∀ H' p, Same H H' → SqT K H' p (xs.take k) → Q (.ref p) H') : rSlA K (.ref a) none (some (k : Int)) H Q := by
  refine ⟨a, xs, rfl, h, fun hw => q H a (Same.refl _) ?_, fun _ p hp => q _ p (same_upd hp) ?_⟩
  · rw [← cut_init, cut_whole hw]
    exact h
  · rw [← cut_init]
    exact SqT.of upd_same
theorem sl_suf {K : PySem.W.Frag} {H : Hp} {a : Addr} {xs : List V} {k : Nat} {Q : VK} (h : SqT K H a xs) (q : ∀ H' p, Same H H' → SqT K H' p (xs.drop k) → Q (.ref p) H') : rSlA K (.ref a) (some (k : Int)) none H Q := by
  refine ⟨a, xs, rfl, h, fun hw => q H a (Same.refl _) ?_, fun _ p hp => q _ p (same_upd hp) ?_⟩
  · rw [← cut_from, cut_whole hw]
    exact h
  · rw [← cut_from]
    exact SqT.of upd_same
theorem PP_succ (n k : Nat) : PP n (k + 1) = PP n k ++ fP n k := by
  unfold PP
  rw [List.range_succ, List.flatMap_append]
  simp
theorem nl_at {n k : Nat} (h6 : n ≤ 6) (h : k < n) : ((NL.take n).map V.str)[k]? = some (.str (nmN k)) := by
  have hl : k < NL.length := by show k < 6; omega
  rw [List.getElem?_map, List.getElem?_take, if_pos h, List.getElem?_eq_getElem hl]
  unfold nmN
  rw [List.getElem?_eq_getElem hl]
  rfl
theorem nl_len {n : Nat} (h6 : n ≤ 6) : (NL.take n).length = n := by
  rw [List.length_take]
  show min n 6 = n
  omega
/-- pairs in a list of their own -/
def RowP (K : PySem.W.Frag) (H : Hp) (D : Addr) (ps : List (Str × Str)) : Prop := ∃ xs, H D = some (.lst xs) ∧ DpAll K H xs (ps.map dPair)
theorem flat_pairs (ps : List (Str × Str)) : flatAll (ps.map dPair) = true := flatAll_of fun d hd => by
  obtain ⟨y, _, rfl⟩ := List.mem_map.mp hd
  rfl
def FieldInv (K : PySem.W.Frag) (H : Hp) (m c g tn D : Addr) (most ch s : Int) (n : Nat) (all : List (Str × Str)) (b : Nat) (y5 : Option V) : L2.St → Hp → Prop := fun σ H2 => ∃ (y6 : Option V) (s2 : Int) (ps : List (Str × Str)), σ = [some (.ref m), some (.int most), some (.ref tn), some (.ref D), some (.int ch), y5, y6] ∧
  Kp m g H H2 ∧ Dr H2 m c g s2 ∧ s2 ≤ s + 2 + (b : Int) ∧ SqF H2 tn ((NL.take n).map V.str) ∧ RowP K H2 D ps ∧ ps.Sublist all ∧ ps.length ≤ b
section
variable {P : Program} {w : World} {K : PySem.W.Frag} {mg : Str → Option Value} {base : Heap}
def spLawField (K : PySem.W.Frag) : Sp := fun vs H Q _ => ∃ (m c g : Addr) (s most : Int), vs = [.ref m, .int most] ∧ Dr H m c g s ∧ 1 ≤ most ∧ most ≤ 6 ∧ s < 1000000000 ∧
  ∀ H' f F s', Dr H' m c g s' → s' ≤ s + 40 → Kp m g H H' → Dp K H' (.ref f) (dField F) → F.Ok → FNm K H' f F → Q (.ref f) H'
end
end XB
set_option Elab.async false
set_option linter.all false
set_option maxRecDepth 100000
set_option maxHeartbeats 4000000
namespace XB
open PySem PySem.Spec PyProof.Rows L2
def SL : List Int := [1, -1, 1, -1, 2, -2, 3, -3, 1, -1, 6, 10 ^ 30, -(10 ^ 30), 10 ^ 30 - 1]
theorem sl_good {i : Nat} {z : Int} (h : SL[i]? = some z) : GoodTimes z := by
  have : ∀ z ∈ SL, z ≠ 0 ∧ -(10 ^ 30) ≤ z ∧ z ≤ 10 ^ 30 := by decide +kernel
  exact this z (List.mem_of_getElem? h)
section
variable {P : Program} {w : World} {K : PySem.W.Frag} {mg : Str → Option Value} {base : Heap}
def spLawScript (K : PySem.W.Frag) : Sp := fun vs H Q _ => ∃ (m c g f : Addr) (s most : Int) (F : Fld), vs = [.ref m, .ref f, .int most] ∧ Dr H m c g s ∧ Dp K H (.ref f) (dField F) ∧ F.Ok ∧ 0 ≤ most ∧ most ≤ 60 ∧ s < 1000000000 ∧
  ∀ H' r l s', Dr H' m c g s' → s' ≤ s + 2 + 2 * most → Kp m g H H' → Dp K H' (.ref r) (dSteps l) → GoodScript F l → (l.length : Int) ≤ most → Q (.ref r) H'
def ScriptInv (K : PySem.W.Frag) (F : Fld) (H : Hp) (m c g f D S : Addr) (most many s : Int) (b : Nat) : L2.St → Hp → Prop := fun σ H2 => ∃ (y6 : Option V) (s2 : Int) (l : List (Str × Int)), σ = [some (.ref m), some (.ref f), some (.int most), some (.ref D), some (.ref S), some (.int many), y6] ∧
  Kp m g H H2 ∧ Dr H2 m c g s2 ∧ s2 ≤ s + 2 + 2 * (b : Int) ∧ Dp K H2 (.ref f) (dField F) ∧ H2 S = some (.lst (SL.map V.int)) ∧ Row1 K H2 D l ∧ (∀ x ∈ l, x.1 ∈ F.names ∧ GoodTimes x.2) ∧ l.length = b
end
end XB
set_option Elab.async false
set_option linter.all false
set_option maxRecDepth 100000
set_option maxHeartbeats 4000000
namespace XB
open PySem PySem.Spec PyProof.Rows L2
/-- what can be shown: how great it is -/
structure Sz (d : PyData) (n : Nat) : Prop where
  sh : d.showable = true
  nd : d.hasDict = false
  dp : d.depth ≤ 20
  lv : d.leavesShort 60 = true
  bk : d.bulk ≤ n
structure SzA (ds : List PyData) (n : Nat) : Prop where
  sh : PyData.showableAll ds = true
  nd : PyData.hasDictAll ds = false
  dp : PyData.depthAll ds ≤ 19
  lv : PyData.leavesShortAll 60 ds = true
  bk : PyData.bulkAll ds ≤ n
theorem Sz.fits {d : PyData} {n : Nat} (h : Sz d n) (hn : n ≤ 100000) : d.shown.length ≤ sizeLine := by
  have q := PyData.shown_le_bulk 60 (by decide) d h.lv
  have := h.bk
  rw [sizeLine_eq]
  omega
theorem SzA.nil : SzA [] 0 := ⟨rfl, rfl, by decide, rfl, Nat.le_refl _⟩
theorem SzA.cons {d : PyData} {ds : List PyData} {n k : Nat} (h : Sz d n) (hd : d.depth ≤ 19) (t : SzA ds k) : SzA (d :: ds) (n + 1 + k) := by
  refine ⟨?_, ?_, ?_, ?_, ?_⟩
  · rw [PyData.showableAll, h.sh, t.sh]
    rfl
  · rw [PyData.hasDictAll, h.nd, t.nd]
    rfl
  · rw [PyData.depthAll]
    have := t.dp
    omega
  · rw [PyData.leavesShortAll, h.lv, t.lv]
    rfl
  · rw [PyData.bulkAll]
    have := h.bk
    have := t.bk
    omega
theorem SzA.tup {ds : List PyData} {n : Nat} (h : SzA ds n) : Sz (.tuple ds) n := ⟨by rw [PyData.showable]; exact h.sh, by rw [PyData.hasDict]; exact h.nd, by rw [PyData.depth]; have := h.dp; omega, by rw [PyData.leavesShort]; exact h.lv, by rw [PyData.bulk]; exact h.bk⟩
theorem SzA.lst {ds : List PyData} {n : Nat} (h : SzA ds n) : Sz (.list ds) n := ⟨by rw [PyData.showable]; exact h.sh, by rw [PyData.hasDict]; exact h.nd, by rw [PyData.depth]; have := h.dp; omega, by rw [PyData.leavesShort]; exact h.lv, by rw [PyData.bulk]; exact h.bk⟩
theorem Sz.mono {d : PyData} {n k : Nat} (h : Sz d n) (e : n ≤ k) : Sz d k := ⟨h.sh, h.nd, h.dp, h.lv, Nat.le_trans h.bk e⟩
theorem sz_bool (b : Bool) : Sz (.bool b) 0 := ⟨rfl, rfl, by simp [PyData.depth], rfl, Nat.le_refl _⟩
theorem sz_int {z : Int} (h : z.natAbs < 10 ^ 50) : Sz (.int z) 0 := by
  refine ⟨decide_eq_true ?_, rfl, by simp [PyData.depth], decide_eq_true ?_, Nat.le_refl _⟩
  · by_cases h0 : z.natAbs = 0
    · rw [h0]
      decide
    · have : z.natAbs.log2 < 200 := (Nat.log2_lt h0).mpr (Nat.lt_of_lt_of_le h (by decide))
      omega
  · have e := int_text_length_le10 (k := 50) (by decide) h
    show (Str.ofString (toString z)).length ≤ 60
    rw [PySem.ofString_length]
    omega
theorem sz_str {n : Str} (h : GoodName n) : Sz (.str n) 6 := by
  refine ⟨rfl, rfl, by simp [PyData.depth], ?_, h.2.1⟩
  show (n.cps.toList.all fun c => decide (c < 16 ^ 8)) = true
  rw [List.all_eq_true]
  intro c hc
  have := h.2.2 c hc
  exact decide_eq_true (by omega)
theorem sz_step {s : Str × Int} (h : GoodName s.1) (g : s.2.natAbs < 10 ^ 50) : Sz (dStep s) 8 := (SzA.cons (sz_str h) (by simp [PyData.depth]) (SzA.cons (sz_int g) (by simp [PyData.depth]) SzA.nil)).tup.mono (by omega)
theorem sz_stepsA : ∀ {l : List (Str × Int)}, (∀ s ∈ l, GoodName s.1 ∧ s.2.natAbs < 10 ^ 50) → SzA (l.map dStep) (9 * l.length)
  | [], _ => SzA.nil
  | s :: l, h => by
    have t := sz_stepsA fun x hx => h x (List.mem_cons_of_mem _ hx)
    have hs := h s List.mem_cons_self
    have e : (dStep s).depth ≤ 19 := by
      show PyData.depth (.tuple [.str s.1, .int s.2]) ≤ 19
      simp [PyData.depth, PyData.depthAll]
    have q := SzA.cons (sz_step hs.1 hs.2) e t
    exact ⟨q.sh, q.nd, q.dp, q.lv, Nat.le_trans q.bk (by rw [List.length_cons]; omega)⟩
theorem sz_strsA : ∀ {l : List Str}, (∀ s ∈ l, GoodName s) → SzA (l.map .str) (7 * l.length)
  | [], _ => SzA.nil
  | s :: l, h => by
    have t := sz_strsA fun x hx => h x (List.mem_cons_of_mem _ hx)
    have q := SzA.cons (sz_str (h s List.mem_cons_self)) (by simp [PyData.depth]) t
    exact ⟨q.sh, q.nd, q.dp, q.lv, Nat.le_trans q.bk (by rw [List.length_cons]; omega)⟩
section
variable {P : Program} {w : World} {K : PySem.W.Frag} {mg : Str → Option Value} {base : Heap}
def spLike (K : PySem.W.Frag) : Sp := fun vs H Q _ => ∃ (u v : V) (d : PyData), vs = [u, v] ∧ Dp K H u d ∧ Dp K H v d ∧ Sz d 90000 ∧ Q (.bl true) H
theorem g__law_like (T : Tx K mg) : Cg P w K mg base CX0 1 "_law_like" (spLike K) := by
  refine cg0 T.d__law_like (ps := ["answer", "due"]) (fun _ _ _ _ _ _ us hl => match us, hl with | [_, _], _ => rfl) sc__law_like (fun vs H Q E h => ?_) (fun f cdv A outer st H vs Q E hgu hr h => ?_)
  · obtain ⟨u, v, d, rfl, _⟩ := h
    rfl
  · obtain ⟨u, v, d, rfl, h1, h2, z, q⟩ := h
    have hu : (A.deeper (envOfC "_law_like" (defScope s__law_like) st.heap.objs.size f cdv)).units + 70 < cLine := by
      have := hr.un
      omega
    refine ⟨_, pss_one (ps_ret (pe_cmpR op_eq (pe_callB (call_reprD hgu hu) (by rfl) T.b_repr (by decide +kernel) (pa_cons (pv 0) pa_nil)) (pe_callB (call_reprD hgu hu) (by rfl) T.b_repr (by decide +kernel) (pa_cons (pv 1) pa_nil)) (nomark _))), ?_⟩
    have dd := z.dp
    refine ⟨_, rfl, u, d, rfl, h1, z.sh, z.nd, by omega, z.fits (by decide), _, rfl, v, d, rfl, h2, z.sh, z.nd, by omega, z.fits (by decide), rfl, ?_⟩
    show Q (.bl (decide (V.str d.shown = V.str d.shown))) H
    rw [decide_eq_true rfl]
    exact q
end
end XB
set_option Elab.async false
set_option linter.all false
set_option maxRecDepth 100000
set_option maxHeartbeats 4000000
namespace XB
open PySem PySem.Spec PyProof.Rows L2
theorem firsts_frs {F : Fld} {l : List (Str × Int)} : ∀ n : Nat, n ≤ l.length → (firstsL F l n).map (nm1 l) = XM.frs (OF F) [] (l.take n)
  | 0, _ => rfl
  | n + 1, h => by
    have ih := firsts_frs (F := F) n (Nat.le_of_succ_le h)
    have hs : l[n]? = some l[n] := List.getElem?_eq_getElem h
    generalize l[n] = s at hs
    rw [firsts_snoc, List.map_append, ih, take_snoc hs, XM.frs_snoc, List.nil_append]
    congr 1
    have e : free1 F l n = (l.take n).all fun w => !(OF F).tc w.1 s.1 := by
      unfold free1
      rw [hs]
    rw [e]
    cases (l.take n).all fun w => !(OF F).tc w.1 s.1
    · rfl
    · rw [if_pos rfl, if_pos rfl, List.map_singleton, nm1_of hs]
theorem srt_unique : ∀ {zs ys : List Str}, zs.Perm ys → sortedS zs = true → sortedS ys = true → zs = ys
  | [], ys, p, _, _ => (List.Perm.nil_eq p)
  | z :: zs, [], p, _, _ => by
    have := p.length_eq
    simp at this
  | z :: zs, y :: ys, p, h1, h2 => by
    have m1 : y ∈ z :: zs := p.symm.subset List.mem_cons_self
    have m2 : z ∈ y :: ys := p.subset List.mem_cons_self
    have a1 := sorted_head h1 y m1
    have a2 := sorted_head h2 z m2
    have e : z = y := by
      by_cases e : z = y
      · exact e
      · have := sLt_tot z y e a2
        rw [a1] at this
        cases this
    subst e
    have t : ∀ {x : Str} {l : List Str}, sortedS (x :: l) = true → sortedS l = true := fun {x l} h => by
      cases l with
      | nil => rfl
      | cons y r =>
        have h : risingS x (y :: r) = true := h
        unfold risingS at h
        rw [Bool.and_eq_true] at h
        exact h.2
    rw [srt_unique (p.cons_inv) (t h1) (t h2)]
theorem srt_same {ns ms zs ys : List Str} (h1 : SrtOf ns zs) (h2 : SrtOf ms ys) (h : ns.Perm ms) : zs = ys := srt_unique (h1.1.trans (h.trans h2.1.symm)) h1.2 h2.2
theorem ins_bound {F : Fld} {x : Str × Int} {b c : Nat} (hx : x.2.natAbs ≤ c) : ∀ {r : List (Str × Int)}, (∀ y ∈ r, y.2.natAbs ≤ b) → ∀ y ∈ XM.ins (OF F) x r, y.2.natAbs ≤ b + c
  | [], _ => fun y hy => by
    have hy : y ∈ [x] := hy
    rw [List.mem_singleton.mp hy]
    omega
  | z :: r, h => by
    have ih := ins_bound (F := F) hx (r := r) fun y hy => h y (List.mem_cons_of_mem _ hy)
    have hz := h z List.mem_cons_self
    have h0 : ∀ y ∈ r, y.2.natAbs ≤ b + c := fun y hy => by
      have := h y (List.mem_cons_of_mem _ hy)
      omega
    have k : ∀ {a : Str × Int} {l : List (Str × Int)}, a.2.natAbs ≤ b + c → (∀ y ∈ l, y.2.natAbs ≤ b + c) → ∀ y ∈ a :: l, y.2.natAbs ≤ b + c := fun {a l} ha hl y hy => by
      rcases List.mem_cons.mp hy with rfl | hy
      · exact ha
      · exact hl y hy
    unfold XM.ins
    by_cases e1 : z.1 = x.1
    · rw [if_pos e1]
      by_cases e2 : z.2 + x.2 = 0
      · rw [if_pos e2]
        exact h0
      · rw [if_neg e2]
        exact k (by show (z.2 + x.2).natAbs ≤ b + c; omega) h0
    · rw [if_neg e1]
      by_cases e2 : (OF F).tc z.1 x.1 = true
      · rw [if_pos e2]
        exact k (by omega) (k (by omega) h0)
      · rw [if_neg e2]
        by_cases e3 : ((OF F).lt z.1 x.1 && XM.top (OF F) x.1 r) = true
        · rw [if_pos e3]
          exact k (by omega) (k (by omega) h0)
        · rw [if_neg e3]
          exact k (by omega) ih
theorem act_bound {F : Fld} {c : Nat} : ∀ {l r : List (Str × Int)} {b : Nat}, (∀ y ∈ l, y.2.natAbs ≤ c) → (∀ y ∈ r, y.2.natAbs ≤ b) → ∀ y ∈ XM.act (OF F) l r, y.2.natAbs ≤ b + l.length * c
  | [], r, b, _, h => fun y hy => by
    have := h y hy
    omega
  | x :: l, r, b, hl, h => fun y hy => by
    rw [XM.act_cons] at hy
    have := act_bound (F := F) (b := b + c) (fun z hz => hl z (List.mem_cons_of_mem _ hz)) (ins_bound (hl x List.mem_cons_self) h) y hy
    rw [List.length_cons, Nat.succ_mul]
    omega
theorem len_bound {c : Nat} : ∀ {l : List (Str × Int)}, (∀ y ∈ l, y.2.natAbs ≤ c) → (lenOf l).natAbs ≤ l.length * c
  | [], _ => by
    show (0 : Int).natAbs ≤ _
    omega
  | x :: l, h => by
    have t := len_bound (l := l) fun y hy => h y (List.mem_cons_of_mem _ hy)
    have hx := h x List.mem_cons_self
    have e : lenOf (x :: l) = (if x.2 < 0 then -x.2 else x.2) + lenOf l := by
      unfold lenOf
      rw [List.map_cons, List.sum_cons]
    rw [e, List.length_cons, Nat.succ_mul]
    split <;> omega
/-- the data of a good script's pile -/
structure PileD (F : Fld) (A : List (Str × Int)) : Prop where
  nm : Names F A
  ln : A.length ≤ 60
  bd : ∀ y ∈ A, y.2.natAbs < 10 ^ 40
theorem times_c {t : Int} (g : GoodTimes t) : t.natAbs ≤ 10 ^ 30 := by
  obtain ⟨_, a, b⟩ := g
  omega
theorem pileD {F : Fld} {l : List (Str × Int)} (hN : Names F l) (h60 : l.length ≤ 60) (hb : ∀ y ∈ l, y.2.natAbs ≤ 10 ^ 30) : PileD F (XM.act (OF F) l []).reverse := by
  refine ⟨names_rev (names_act hN (fun _ h => nomatch h)), ?_, fun y hy => ?_⟩
  · rw [List.length_reverse]
    exact Nat.le_trans act_len0 h60
  · have := act_bound (F := F) (r := []) (b := 0) hb (fun _ h => nomatch h) y (List.mem_reverse.mp hy)
    have h2 : l.length * 10 ^ 30 ≤ 60 * 10 ^ 30 := Nat.mul_le_mul_right _ h60
    exact Nat.lt_of_le_of_lt this (Nat.lt_of_le_of_lt (by omega) (show 60 * 10 ^ 30 < 10 ^ 40 by decide))
theorem PileD.szA {F : Fld} (ok : F.Ok) {A : List (Str × Int)} (h : PileD F A) : Sz (dSteps A) 540 := (sz_stepsA fun s hs => ⟨ok.sgn _ (h.nm s hs), Nat.lt_trans (h.bd s hs) (by decide)⟩).tup.mono (by have := h.ln; omega)
theorem PileD.szL {F : Fld} {A : List (Str × Int)} (h : PileD F A) : Sz (.int (lenOf A)) 0 := by
  refine sz_int (Nat.lt_of_le_of_lt (len_bound (c := 10 ^ 40) fun y hy => Nat.le_of_lt (h.bd y hy)) ?_)
  have : A.length * 10 ^ 40 ≤ 60 * 10 ^ 40 := Nat.mul_le_mul_right _ h.ln
  exact Nat.lt_of_le_of_lt this (by decide)
theorem frs_mem {F : Fld} : ∀ {l bar : List (Str × Int)} {n : Str}, n ∈ XM.frs (OF F) bar l → ∃ s ∈ l, s.1 = n
  | [], _, _, h => by cases h
  | x :: l, bar, n, h => by
    unfold XM.frs at h
    split at h
    · rcases List.mem_cons.mp h with rfl | h
      · exact ⟨x, List.mem_cons_self, rfl⟩
      · obtain ⟨s, hs, e⟩ := frs_mem h
        exact ⟨s, List.mem_cons_of_mem _ hs, e⟩
    · obtain ⟨s, hs, e⟩ := frs_mem h
      exact ⟨s, List.mem_cons_of_mem _ hs, e⟩
theorem sz_names {F : Fld} (ok : F.Ok) {A : List (Str × Int)} (hn : Names F A) (h60 : A.length ≤ 60) {zs : List Str} (h : SrtOf (XM.frs (OF F) [] A) zs) : Sz (dNames zs) 420 := by
  refine (sz_strsA fun s hs => ?_).tup.mono ?_
  · obtain ⟨x, hx, rfl⟩ := frs_mem (h.1.subset hs)
    exact ok.sgn _ (hn x hx)
  · have e := h.1.length_eq
    have := frs_len (F := F) (l := A) (bar := [])
    omega
theorem deep_dsteps (A : List (Str × Int)) : (dSteps A).depth ≤ 19 := by
  have := deep_steps A
  show PyData.depth (.tuple _) ≤ 19
  rw [PyData.depth]
  omega
theorem deep_strs : ∀ zs : List Str, PyData.depthAll (zs.map .str) ≤ 1
  | [] => by decide
  | z :: zs => by
    have := deep_strs zs
    rw [List.map_cons, PyData.depthAll]
    have e : (PyData.str z).depth = 0 := by simp [PyData.depth]
    omega
theorem deep_dnames (zs : List Str) : (dNames zs).depth ≤ 19 := by
  have := deep_strs zs
  show PyData.depth (.tuple _) ≤ 19
  rw [PyData.depth]
  omega
end XB
set_option Elab.async false
set_option linter.all false
set_option maxRecDepth 100000
set_option maxHeartbeats 8000000
namespace XB
open PySem PySem.Spec PyProof.Rows L2
section
variable {P : Program} {w : World} {K : PySem.W.Frag} {mg : Str → Option Value} {base : Heap}
theorem fg0 {x : Str} {st : Stmt} {N ps : List Str} {k : Nat} {sp : Sp} {fl : Addr} {fd : FuncData} (F : Fun K x x st fl fd) (S : FnScope N ps (defScope st)) (len : ∀ vs H Q E, sp vs H Q E → vs.length = ps.length)
    (body : ∀ (f : Addr) (cdv : Value) (A : Around) (outer : List Env) (s : Shared) (H : Hp) (vs : List V) (Q : VK) (E : XK), (A.deeper (envOfC x (defScope st) s.heap.objs.size f cdv)).guards = some [] → Room k (A.deeper (envOfC x (defScope st) s.heap.objs.size f cdv)) → sp vs H Q E →
      ∃ t, PSs (cxOf CX0 P w K mg base N x (defScope st) f cdv A outer s H E).nox (defBody st) t ∧ t { nx := fun _ H' => Q .non H', rt := Q } (start N vs) H) : FnG P w K mg base CX0 (k + 1) fl fd ps sp := by
  obtain ⟨oc, od, kV, doc, pm, an, cdv, ct, osl, rfl, lk, hcd⟩ := id F.ex
  refine fng_of lk hcd S len fun A outer s H vs Q E hg hr h => ?_
  obtain ⟨t, ht, q⟩ := body fl cdv A outer s H vs Q E hg hr h
  exact ⟨t, ht.nox, q⟩
end
section
variable {X : Cx} {k j : Nat} {x : Str} {sp : Fld → Sp} {p pos : Pos} {e : Expr} {es : List Expr} {t : TA}
/-- a def's promises for each field -/
theorem pe_gF (c : ∀ F, Cg X.prog X.w X.K X.mg X.base CX0 k x (sp F)) (hgu : X.A.guards = some []) (hr : Room j X.A) (hk : k ≤ j) (hg : Gl X x) (ha : PA X (e :: es) t)
    (hdb : (x == ("__debug__" : Str)) = false := by decide) (he : starEach (e :: es) X.env = (false, eval e X.env) :: starEach es X.env := by rfl) (hpl : (backTo pos (starEach es X.env)).any (·.1) = false := by rfl) :
    PE X (.Call (.Name x p) (e :: es) [] pos) (tCall (fun vs H Q E => ∃ F, sp F vs H Q E) [] E0 t) := by
  obtain ⟨f, _, _, _, hm, kp, _⟩ := (c ⟨[], []⟩).ex
  constructor
  intro pins s σ H Q I h
  refine wpAny_Call_Name_kw (ld_glob I hg hm ?_ hdb)
  refine PySem.W.callWith_K (h₀ := X.base) I.ok.mod.kin kp (thn (ha.run pos pins s σ H _ I h) ?_) he hpl
  rintro us s1 ⟨vs, H1, I1, r, G, q⟩
  obtain ⟨f', fd, ps, F, hm', _, b⟩ := (c G).ex
  have ef : f = f' := Value.ref.inj (Option.some.inj (hm.symm.trans hm'))
  subst ef
  have q' : sp G vs H1 Q E0 := by
    rw [List.append_nil] at q
    exact q
  have hl : us.length = ps.length := by
    rw [← r.length]
    exact F.many _ _ _ _ q'
  have bb := b s1 us I1.kIn (by rw [List.append_nil]; exact hl)
  rw [List.append_nil] at bb
  refine ⟨I1.kIn, wpAny_call (codeAny_mono (F.goes (outer := X.stack) (Q := Q) (E := E0) hgu (hr.mono hk) I1.env0 bb r q') ?_)⟩
  rintro (er | fl) s' hq
  · exact hq.elim
  · rcases fl with u | _ | _ | _ <;> first
      | exact I1.after hq
      | exact False.elim hq
end
section
variable {P : Program} {w : World} {K : PySem.W.Frag} {mg : Str → Option Value} {base : Heap}
def spLaw (K : PySem.W.Frag) : Sp := fun vs H Q _ => ∃ (a : Addr) (ns : List Int), vs = [.ref a] ∧ SqL K H a (ns.map V.int) ∧ ns.length ≤ 1000 ∧ ∀ H', Q (.bl true) H'
theorem sp_law_len {vs : List V} {H : Hp} {Q : VK} {E : XK} (h : spLaw K vs H Q E) : vs.length = ["script"].length := by
  obtain ⟨a, ns, rfl, _⟩ := h
  rfl
theorem same_t {H H1 H2 : Hp} (a : Same H H1) (b : Same H1 H2) : Same H H2 := a.trans b
theorem tS {K : PySem.W.Frag} {H H' : Hp} {v : V} {l : List (Str × Int)} (h : Dp K H v (dSteps l)) (s : Same H H') : Dp K H' v (dSteps l) := Dp.tk (Tk.of s) _ (flat_steps l) h
theorem tF {K : PySem.W.Frag} {H H' : Hp} {v : V} {F : Fld} (h : Dp K H v (dField F)) (s : Same H H') : Dp K H' v (dField F) := Dp.tk (Tk.of s) _ (flat_field F) h
theorem tN {K : PySem.W.Frag} {H H' : Hp} {v : V} {l : List Str} (h : Dp K H v (dNames l)) (s : Same H H') : Dp K H' v (dNames l) := Dp.tk (Tk.of s) _ (flat_names l) h
theorem dpN {K : PySem.W.Frag} {H : Hp} {a : Addr} {l : List Str} (h : SqT K H a (l.map V.str)) : Dp K H (.ref a) (dNames l) := .tup h (DpAll.strs l)
end
end XB
set_option Elab.async false
set_option linter.all false
set_option maxRecDepth 100000
set_option maxHeartbeats 4000000
/-! closers for readings of lists and tuples -/
namespace XB
open PySem PySem.Spec PyProof.Rows L2
theorem one_sz : 1 ≤ sizeLine := by decide
theorem two_sz : 2 ≤ sizeLine := by decide
theorem three_sz : 3 ≤ sizeLine := by decide
theorem slL {K : PySem.W.Frag} {H : Hp} {D : Addr} {ys : List V} {lo hi : Option Int} {Q : VK} (h : H D = some (.lst ys)) (q : ∀ H' p, Same H H' → H p = none → H' p = some (.lst (cutV ys lo hi)) → Q (.ref p) H') : rSlL K (.ref D) lo hi H Q :=
  ⟨D, ys, rfl, SqL.of h, fun p hp => q _ p (same_upd hp) hp upd_same⟩
theorem catL {H : Hp} {a b : Addr} {xs ys : List V} {Q : VK} (h1 : H a = some (.lst xs)) (h2 : H b = some (.lst ys)) (hl : xs.length + ys.length ≤ sizeLine) (q : ∀ H' p, Same H H' → H p = none → H' p = some (.lst (xs ++ ys)) → Q (.ref p) H') : rCat (.ref a) (.ref b) H Q :=
  ⟨a, b, xs, ys, rfl, rfl, h1, h2, hl, fun p hp => q _ p (same_upd hp) hp upd_same⟩
/-- a new object's heap as any heap that keeps what stood -/
@[elab_as_elim] theorem upd_gen {H : Hp} {p : Addr} {o : HO} {motive : Hp → Prop} (hp : H p = none) (q : ∀ H', Same H H' → H' p = some o → motive H') : motive (upd H p o) := q _ (same_upd hp) upd_same
theorem at_nil {α : Type} {x : α} {xs : List α} : atI (x :: xs) 0 = some x := atI_nat (j := 0) rfl
theorem ix0 {K : PySem.W.Frag} {σ : L2.St} {H : Hp} {b : Addr} {x : V} {xs : List V} {Q : VK} (h : SqT K H b (x :: xs)) (q : Q x H) : tC (.int 0) σ H (fun y H2 => rIxT K (.ref b) y H2 Q) := ⟨b, _, 0, x, rfl, rfl, h, at_nil, q⟩
theorem at_one {α : Type} {x y : α} {xs : List α} : atI (x :: y :: xs) 1 = some y := atI_nat (j := 1) rfl
theorem ix1 {K : PySem.W.Frag} {σ : L2.St} {H : Hp} {b : Addr} {x y : V} {xs : List V} {Q : VK} (h : SqT K H b (x :: y :: xs)) (q : Q y H) : tC (.int 1) σ H (fun z H2 => rIxT K (.ref b) z H2 Q) := ⟨b, _, 1, y, rfl, rfl, h, at_one, q⟩
theorem op_catAk {X : Cx} {K : PySem.W.Frag} (hk : X.K = K) : OpR X (binaryOp .Add) (rCatA K) := by
  subst hk
  exact op_catA
theorem catA {K : PySem.W.Frag} {H : Hp} {a b : Addr} {xs ys : List V} {Q : VK} (ha : SqT K H a xs) (hb : SqT K H b ys) (hl : xs.length + ys.length ≤ sizeLine) (q : ∀ H' p, Same H H' → SqT K H' p (xs ++ ys) → Q (.ref p) H') : rCatA K (.ref a) (.ref b) H Q :=
  ⟨a, b, xs, ys, rfl, rfl, ha, hb, hl, fun e => q H b (Same.refl _) (by rw [e]; exact hb), fun _ e => q H a (Same.refl _) (by rw [e, List.append_nil]; exact ha), fun _ _ p hp => q _ p (same_upd hp) (SqT.of upd_same)⟩
/-- an if whose else is shown once -/
theorem ifS_by {c : TT} {t u : TS} {D : Ends} {σ : L2.St} {H : Hp} (he : ∀ H', Same H H' → u D σ H') (hc : (∀ H', Same H H' → u D σ H') → c σ H (fun b H1 => if b = true then t D σ H1 else u D σ H1)) : tIfS c t u D σ H := hc he
theorem ix0L {K : PySem.W.Frag} {σ : L2.St} {H : Hp} {b : Addr} {x : V} {xs : List V} {Q : VK} (h : H b = some (.lst (x :: xs))) (q : Q x H) : tC (.int 0) σ H (fun y H2 => rIxL K (.ref b) y H2 Q) := ⟨b, _, 0, x, rfl, rfl, SqL.of h, at_nil, q⟩
theorem four_sz : 4 ≤ sizeLine := by decide
theorem by_q {t : TE} {σ : L2.St} {H : Hp} {Q : VK} (C : V → Hp → Prop) (h : ∀ Qx : VK, (∀ v H', C v H' → Qx v H') → t σ H Qx) (hq : ∀ v H', C v H' → Q v H') : t σ H Q := h Q hq
theorem Paired.get {α β : Type} {R : α → β → Prop} : ∀ {l : List α} {l' : List β} {i : Nat} {x : α}, Paired R l l' → l[i]? = some x → ∃ y, l'[i]? = some y ∧ R x y
  | _, _, _, _, .nil, e => by simp at e
  | _, _, 0, _, .cons h _, e => by
    cases e
    exact ⟨_, rfl, h⟩
  | _, _, i + 1, _, .cons _ t, e => Paired.get (i := i) t (by simpa using e)
end XB
set_option Elab.async false
set_option linter.all false
set_option maxRecDepth 100000
set_option maxHeartbeats 4000000
namespace XB
open PySem PySem.Spec PyProof.Rows L2
theorem sh_dsteps {l : List (Str × Int)} (h : ∀ s ∈ l, GoodName s.1) : SeqAt.shaped (dSteps l) = true := by
  have h2 := deep_steps l
  show (PyData.canLayAll0 (l.map dStep) && decide (PyData.depthAll (l.map dStep) + 1 ≤ 64)) = true
  rw [lay_steps h, Bool.true_and]
  exact decide_eq_true (by omega)
theorem eqv_step (s t : Str × Int) : PyData.eqv (dStep s) (dStep t) = decide (s = t) := by
  obtain ⟨a, i⟩ := s
  obtain ⟨b, j⟩ := t
  show (PyData.eqv (.str a) (.str b) && (PyData.eqv (.int i) (.int j) && true)) = _
  rw [Bool.and_true]
  show ((a == b) && (i == j)) = _
  by_cases h1 : a = b
  · by_cases h2 : i = j
    · simp [h1, h2]
    · simp [h2]
  · simp [h1]
theorem eqv_all_steps : ∀ l m : List (Str × Int), PyData.eqvAll (l.map dStep) (m.map dStep) = decide (l = m)
  | [], [] => rfl
  | [], b :: m => rfl
  | a :: l, [] => rfl
  | a :: l, b :: m => by
    rw [List.map_cons, List.map_cons, PyData.eqvAll, eqv_step, eqv_all_steps l m]
    by_cases h1 : a = b
    · by_cases h2 : l = m
      · simp [h1, h2]
      · simp [h2]
    · simp [h1]
theorem eqv_steps (l m : List (Str × Int)) : PyData.eqv (dSteps l) (dSteps m) = decide (l = m) := by
  show PyData.eqv (.tuple (l.map dStep)) (.tuple (m.map dStep)) = _
  rw [PyData.eqv]
  exact eqv_all_steps l m
theorem good_pile {F : Fld} (ok : F.Ok) {l : List (Str × Int)} (hN : Names F l) : ∀ s ∈ (XM.act (OF F) l []).reverse, GoodName s.1 := fun s hs => ok.sgn _ (names_act (r := []) hN (fun _ h => (nomatch h)) s (List.mem_reverse.mp hs))
/-- a row of a yard, and the yard -/
def GoodAll (F : Fld) (l : List (Str × Int)) : Prop := ∀ x ∈ l, x.1 ∈ F.names ∧ GoodTimes x.2
theorem GoodAll.nz {F : Fld} {l : List (Str × Int)} (h : GoodAll F l) : XM.NZ l := fun x hx => (h x hx).2.1
theorem GoodAll.names {F : Fld} {l : List (Str × Int)} (h : GoodAll F l) : Names F l := fun x hx => (h x hx).1
theorem GoodAll.app {F : Fld} {l m : List (Str × Int)} (h : GoodAll F l) (g : GoodAll F m) : GoodAll F (l ++ m) := fun x hx => (List.mem_append.mp hx).elim (h x) (g x)
theorem GoodAll.take {F : Fld} {l : List (Str × Int)} (h : GoodAll F l) (k : Nat) : GoodAll F (l.take k) := fun x hx => h x (List.mem_of_mem_take hx)
theorem GoodAll.drop {F : Fld} {l : List (Str × Int)} (h : GoodAll F l) (k : Nat) : GoodAll F (l.drop k) := fun x hx => h x (List.mem_of_mem_drop hx)
theorem GoodAll.one {F : Fld} {x : Str × Int} (h : x.1 ∈ F.names ∧ GoodTimes x.2) : GoodAll F [x] := fun y hy => by
  rw [List.mem_singleton.mp hy]
  exact h
/-- the same to every pile -/
theorem good_neg {t : Int} (h : GoodTimes t) : GoodTimes (-t) := by
  obtain ⟨a, b, c⟩ := h
  exact ⟨by omega, by omega, by omega⟩
theorem good_back {F : Fld} {l : List (Str × Int)} (h : GoodAll F l) : GoodAll F (XM.back l) := fun s hs => by
  unfold XM.back at hs
  obtain ⟨x, hx, rfl⟩ := List.mem_map.mp (List.mem_reverse.mp hs)
  exact ⟨(h x hx).1, good_neg (h x hx).2⟩
theorem len_back {l : List (Str × Int)} : (XM.back l).length = l.length := by
  unfold XM.back
  rw [List.length_reverse, List.length_map]
section
variable {K : PySem.W.Frag}
theorem slTo {H : Hp} {a : Addr} {l : List (Str × Int)} {k : Nat} {Q : VK} (h : Dp K H (.ref a) (dSteps l)) (q : ∀ H' p, Same H H' → Dp K H' (.ref p) (dSteps (l.take k)) → Q (.ref p) H') : rSlA K (.ref a) none (some (k : Int)) H Q := by
  obtain ⟨_, xs, e, hS, hV⟩ := h.steps
  cases e
  have hl := hV.len
  rw [List.length_map] at hl
  have e2 : HT.sIx xs.length xs.length (some (k : Int)) = min k xs.length := HT.sIx_nat xs.length xs.length k
  refine ⟨a, xs, rfl, hS, fun hw => ?_, fun _ p hp => ?_⟩
  · rw [e2] at hw
    have : l.take k = l := List.take_of_length_le (by omega)
    refine q _ _ (Same.refl _) ?_
    rw [this]
    exact h
  · refine q _ p (same_upd hp) (.tup (SqT.of upd_same) ?_)
    rw [cut_init, List.map_take]
    exact (DpAll.tk (Tk.of (same_upd hp)) _ (flat_all_steps l) hV).take k
theorem slFrom {H : Hp} {a : Addr} {l : List (Str × Int)} {k : Nat} {Q : VK} (h : Dp K H (.ref a) (dSteps l)) (q : ∀ H' p, Same H H' → Dp K H' (.ref p) (dSteps (l.drop k)) → Q (.ref p) H') : rSlA K (.ref a) (some (k : Int)) none H Q := by
  obtain ⟨_, xs, e, hS, hV⟩ := h.steps
  cases e
  have hl := hV.len
  rw [List.length_map] at hl
  have e2 : HT.sIx xs.length 0 (some (k : Int)) = min k xs.length := HT.sIx_nat xs.length 0 k
  refine ⟨a, xs, rfl, hS, fun hw => ?_, fun _ p hp => ?_⟩
  · rw [e2] at hw
    refine q _ _ (Same.refl _) ?_
    rcases Nat.eq_zero_or_pos k with h0 | h0
    · rw [h0, List.drop_zero]
      exact h
    · have : l = [] := List.length_eq_zero_iff.mp (by omega)
      rw [this] at h ⊢
      rw [List.drop_nil]
      exact h
  · refine q _ p (same_upd hp) (.tup (SqT.of upd_same) ?_)
    rw [cut_from, List.map_drop]
    exact (DpAll.tk (Tk.of (same_upd hp)) _ (flat_all_steps l) hV).drop k
theorem catD {H : Hp} {a b : Addr} {l m : List (Str × Int)} {Q : VK} (h1 : Dp K H (.ref a) (dSteps l)) (h2 : Dp K H (.ref b) (dSteps m)) (hl : l.length + m.length ≤ 500) (q : ∀ H' p, Same H H' → Dp K H' (.ref p) (dSteps (l ++ m)) → Q (.ref p) H') : rCatA K (.ref a) (.ref b) H Q := by
  obtain ⟨_, xs, e, hS, hV⟩ := h1.steps
  cases e
  obtain ⟨_, ys, e, hS2, hV2⟩ := h2.steps
  cases e
  have l1 := hV.len
  have l2 := hV2.len
  rw [List.length_map] at l1 l2
  refine catA hS hS2 (Nat.le_of_lt (small1000 (by omega))) fun H' p s h => q H' p s (.tup h ?_)
  rw [List.map_append]
  exact (DpAll.tk (Tk.of s) _ (flat_all_steps l) hV).app (DpAll.tk (Tk.of s) _ (flat_all_steps m) hV2)
end
section
variable {P : Program} {w : World} {K : PySem.W.Frag} {mg : Str → Option Value} {base : Heap}
def FS2 (K : PySem.W.Frag) (F : Fld) (l m : List (Str × Int)) (vs : List V) (H : Hp) : Prop := ∃ (a d e : Addr), vs = [.ref a, .ref d, .ref e] ∧ Dp K H (.ref a) (dField F) ∧ F.Ok ∧ Dp K H (.ref d) (dSteps l) ∧ GoodScript F l ∧ Dp K H (.ref e) (dSteps m) ∧ GoodScript F m
def spAreAlike (K : PySem.W.Frag) (F : Fld) : Sp := fun vs H Q _ => ∃ l m, FS2 K F l m vs H ∧ ∀ H', Same H H' → Q (.bl (decide (XM.act (OF F) l [] = XM.act (OF F) m []))) H'
theorem c_are_alike (T : Tx K mg) (F : Fld) : Cl P w K mg base CX0 7 "are_alike" (spAreAlike K F) := by
  refine cl0 T.d_are_alike (ps := ["field", "one", "other"]) (fun _ _ _ _ _ _ us hl => match us, hl with | [_, _, _], _ => rfl) sc_are_alike (fun vs H Q E h => ?_) (fun fa cdv A outer st H vs Q E hr h => ?_)
  · obtain ⟨l, m, ⟨a, d, e, rfl, _⟩, _⟩ := h
    rfl
  · obtain ⟨l, m, ⟨a, d, e, rfl, hF, ok, hL, hG, hM, hG'⟩, q⟩ := h
    refine ⟨_, (pss_one (ps_ret (pe_cmpR (op_eqD hr.units) (pe_k (c_least_pile T F) hr (by decide) (by rfl) (pa_cons (pv 0) (pa_cons (pv 1) pa_nil))) (pe_k (c_least_pile T F) hr (by decide) (by rfl) (pa_cons (pv 0) (pa_cons (pv 2) pa_nil))) (nomark _)))), ?_⟩
    refine ⟨_, rfl, _, rfl, l, ⟨a, d, rfl, hF, ok, hL, hG⟩, fun H1 r1 s1 h1 => ?_⟩
    refine ⟨_, rfl, _, rfl, m, ⟨a, e, rfl, tF hF s1, ok, tS hM s1, hG'⟩, fun H2 r2 s2 h2 => ?_⟩
    refine ⟨_, _, tS h1 s2, h2, sh_dsteps (good_pile ok hG.names), sh_dsteps (good_pile ok hG'.names), ?_⟩
    rw [eqv_steps]
    have e : decide ((XM.act (OF F) l []).reverse = (XM.act (OF F) m []).reverse) = decide (XM.act (OF F) l [] = XM.act (OF F) m []) := decide_eq_decide.mpr List.reverse_inj
    rw [e]
    exact q _ (s1.trans s2)
end
end XB
set_option linter.all false
/-! cores: weights of rows, powers of rows, round piles that are turns of one another -/
namespace XM
section
variable {α : Type} [DecidableEq α] {O : Ord α}
/-- a weight of pieces, and which pairs of pieces may come together so that it adds -/
structure Wt (α : Type) where
  w : α → Int → Nat
  g : α → Int → Int → Prop
  nz : ∀ a s t, g a s t → s + t ≠ 0
  add : ∀ a s t, g a s t → w a (s + t) = w a s + w a t
  left : ∀ a s t r, g a s t → g a t r → g a (s + t) r
  right : ∀ a s t r, g a s t → g a r s → g a r (s + t)
  le : ∀ a s t, w a (s + t) ≤ w a s + w a t
variable {W : Wt α}
def Wt.sum (W : Wt α) : Row α → Nat
  | [] => 0
  | y :: r => W.w y.1 y.2 + W.sum r
theorem Wt.sum_app {l m : Row α} : W.sum (l ++ m) = W.sum l + W.sum m := by
  induction l with
  | nil => simp [Wt.sum]
  | cons x l ih =>
    rw [List.cons_append, Wt.sum, Wt.sum, ih]
    omega
theorem Wt.sum_rev {l : Row α} : W.sum l.reverse = W.sum l := by
  induction l with
  | nil => rfl
  | cons x l ih =>
    rw [List.reverse_cons, Wt.sum_app, ih, Wt.sum, Wt.sum, Wt.sum]
    omega
theorem Wt.sum_ins {x : α × Int} : ∀ {r : Row α}, W.sum (ins O x r) ≤ W.w x.1 x.2 + W.sum r
  | [] => Nat.le_refl _
  | y :: r => by
    have ih := Wt.sum_ins (x := x) (r := r)
    have hl := W.le x.1 y.2 x.2
    unfold ins
    split
    · rename_i e
      split
      · simp only [Wt.sum]
        omega
      · simp only [Wt.sum]
        rw [e]
        omega
    · split
      · exact Nat.le_refl _
      · split
        · exact Nat.le_refl _
        · simp only [Wt.sum]
          omega
theorem Wt.sum_act : ∀ {l r : Row α}, W.sum (act O l r) ≤ W.sum l + W.sum r
  | [], r => by simp [act, Wt.sum]
  | x :: l, r => by
    have h1 := Wt.sum_act (l := l) (r := ins O x r)
    have h2 := Wt.sum_ins (W := W) (O := O) (x := x) (r := r)
    rw [act_cons]
    simp only [Wt.sum]
    omega
theorem Wt.ins_eq {x : α × Int} : ∀ {r : Row α}, (ins O x r).length = r.length + 1 → W.sum (ins O x r) = W.w x.1 x.2 + W.sum r
  | [], _ => rfl
  | y :: r, h => by
    unfold ins at h ⊢
    by_cases e : y.1 = x.1
    · rw [if_pos e] at h
      by_cases h0 : y.2 + x.2 = 0
      · rw [if_pos h0] at h
        simp only [List.length_cons] at h
        omega
      · rw [if_neg h0] at h
        simp only [List.length_cons] at h
        omega
    · rw [if_neg e] at h ⊢
      by_cases ht : O.tc y.1 x.1 = true
      · rw [if_pos ht] at h ⊢
        rfl
      · rw [if_neg ht] at h ⊢
        by_cases hc : (O.lt y.1 x.1 && top O x.1 r) = true
        · rw [if_pos hc]
          rfl
        · rw [if_neg hc] at h ⊢
          have ih := Wt.ins_eq (x := x) (r := r) (by simpa using h)
          simp only [Wt.sum]
          omega
theorem Wt.act_eq : ∀ {l r : Row α}, (act O l r).length = l.length + r.length → W.sum (act O l r) = W.sum l + W.sum r
  | [], r, _ => by simp [act, Wt.sum]
  | x :: l, r, h => by
    have h1 := act_len (O := O) (l := l) (r := ins O x r)
    have h2 := ins_len (O := O) (x := x) (r := r)
    rw [act_cons] at h ⊢
    simp only [List.length_cons] at h
    have i1 := Wt.act_eq (l := l) (r := ins O x r) (by omega)
    have i2 := Wt.ins_eq (W := W) (O := O) (x := x) (r := r) (by omega)
    simp only [Wt.sum]
    omega
/-- the times of the piece of a name that is met from the left -/
def nearS (O : Ord α) (a : α) : Row α → Option Int
  | [] => none
  | y :: r => if y.1 = a then some y.2 else if O.tc y.1 a then none else nearS O a r
theorem nearS_none {a : α} : ∀ {r : Row α}, nearS O a r = none ↔ near O a r = none
  | [] => ⟨fun _ => rfl, fun _ => rfl⟩
  | y :: r => by
    unfold nearS near
    split
    · simp
    · split
      · simp
      · rw [Option.map_eq_none_iff]
        exact nearS_none
theorem nearS_apart {a : α} : ∀ {m v : Row α}, (∀ y ∈ m, O.tc y.1 a = false) → nearS O a (m ++ v) = nearS O a v
  | [], _, _ => rfl
  | y :: m, v, h => by
    have hy := h y List.mem_cons_self
    rw [List.cons_append, nearS, if_neg (ne_of_apart hy), if_neg (by rw [hy]; decide)]
    exact nearS_apart fun z hz => h z (List.mem_cons_of_mem _ hz)
/-- something is met on the way -/
theorem nearS_hit {a : α} : ∀ {m v : Row α}, (∃ y ∈ m, O.tc y.1 a = true) → nearS O a (m ++ v) = nearS O a m
  | [], _, h => by
    obtain ⟨y, hy, _⟩ := h
    cases hy
  | y :: m, v, h => by
    rw [List.cons_append, nearS, nearS]
    by_cases e : y.1 = a
    · rw [if_pos e, if_pos e]
    · rw [if_neg e, if_neg e]
      by_cases ht : O.tc y.1 a = true
      · rw [if_pos ht, if_pos ht]
      · rw [if_neg ht, if_neg ht]
        obtain ⟨z, hz, hh⟩ := h
        rcases List.mem_cons.mp hz with q | hz
        · rw [q] at hh
          exact absurd hh ht
        · exact nearS_hit ⟨z, hz, hh⟩
/-- pairs that can come together are let -/
def NC (O : Ord α) (W : Wt α) : Row α → Prop
  | [] => True
  | x :: l => (∀ t, nearS O x.1 l = some t → W.g x.1 x.2 t) ∧ NC O W l
theorem nc_pl : ∀ {l : Row α}, pl O l = true → NC O W l
  | [], _ => True.intro
  | x :: l, h => by
    unfold pl at h
    rw [Bool.and_eq_true] at h
    refine ⟨fun t e => ?_, nc_pl h.2⟩
    have : nearS O x.1 l = none := nearS_none.mpr (Option.isNone_iff_eq_none.mp h.1)
    rw [this] at e
    cases e
theorem near_join {a b : α} {s t : Int} {m v : Row α} (hm : ∀ y ∈ m, O.tc y.1 a = false) (hb : b ≠ a) : ∀ {u : Row α}, nearS O b (u ++ (a, s + t) :: (m ++ v)) = nearS O b (u ++ (a, s) :: (m ++ (a, t) :: v))
  | [] => by
    have hb' : ¬ a = b := fun e => hb e.symm
    show (if a = b then some (s + t) else if O.tc a b = true then none else nearS O b (m ++ v)) = (if a = b then some s else if O.tc a b = true then none else nearS O b (m ++ (a, t) :: v))
    rw [if_neg hb', if_neg hb']
    by_cases ht : O.tc a b = true
    · rw [if_pos ht, if_pos ht]
    · rw [if_neg ht, if_neg ht]
      by_cases hh : ∃ y ∈ m, O.tc y.1 b = true
      · rw [nearS_hit hh, nearS_hit hh]
      · have hn : ∀ y ∈ m, O.tc y.1 b = false := fun y hy => by
          cases e : O.tc y.1 b
          · rfl
          · exact absurd ⟨y, hy, e⟩ hh
        rw [nearS_apart hn, nearS_apart hn]
        show _ = (if a = b then some t else if O.tc a b = true then none else nearS O b v)
        rw [if_neg hb', if_neg ht]
  | y :: u => by
    rw [List.cons_append, List.cons_append, nearS, nearS, near_join hm hb]
theorem near_joinA {a : α} {s t : Int} {m v : Row α} : ∀ {u : Row α}, (nearS O a (u ++ (a, s) :: (m ++ (a, t) :: v)) = some s ∧ nearS O a (u ++ (a, s + t) :: (m ++ v)) = some (s + t)) ∨ nearS O a (u ++ (a, s) :: (m ++ (a, t) :: v)) = nearS O a (u ++ (a, s + t) :: (m ++ v))
  | [] => .inl ⟨by rw [List.nil_append, nearS, if_pos rfl], by rw [List.nil_append, nearS, if_pos rfl]⟩
  | y :: u => by
    rw [List.cons_append, List.cons_append, nearS, nearS]
    by_cases e : y.1 = a
    · rw [if_pos e, if_pos e]
      exact .inr rfl
    · rw [if_neg e, if_neg e]
      by_cases ht : O.tc y.1 a = true
      · rw [if_pos ht, if_pos ht]
        exact .inr rfl
      · rw [if_neg ht, if_neg ht]
        exact near_joinA
theorem nc_join0 {a : α} {t : Int} {v : Row α} : ∀ {m : Row α}, (∀ y ∈ m, O.tc y.1 a = false) → NC O W (m ++ (a, t) :: v) → NC O W (m ++ v) ∧ ∀ r, nearS O a v = some r → W.g a t r
  | [], _, h => ⟨h.2, h.1⟩
  | y :: m, hm, h => by
    have hy := hm y List.mem_cons_self
    have ih := nc_join0 (fun z hz => hm z (List.mem_cons_of_mem _ hz)) h.2
    refine ⟨⟨fun r e => h.1 r ?_, ih.1⟩, ih.2⟩
    rw [← e]
    show nearS O y.1 (m ++ (a, t) :: v) = nearS O y.1 (m ++ v)
    by_cases hh : ∃ z ∈ m, O.tc z.1 y.1 = true
    · rw [nearS_hit hh, nearS_hit hh]
    · have hn : ∀ z ∈ m, O.tc z.1 y.1 = false := fun z hz => by
        cases q : O.tc z.1 y.1
        · rfl
        · exact absurd ⟨z, hz, q⟩ hh
      have : O.tc a y.1 = false := apart_symm hy
      rw [nearS_apart hn, nearS_apart hn, nearS, if_neg (ne_of_apart this), if_neg (by rw [this]; decide)]
theorem nc_join {a : α} {s t : Int} {m v : Row α} (hm : ∀ y ∈ m, O.tc y.1 a = false) : ∀ {u : Row α}, NC O W (u ++ (a, s) :: (m ++ (a, t) :: v)) → NC O W (u ++ (a, s + t) :: (m ++ v)) ∧ W.g a s t
  | [], h => by
    have hst : W.g a s t := h.1 t (by
      show nearS O a (m ++ (a, t) :: v) = some t
      rw [nearS_apart hm, nearS, if_pos rfl])
    obtain ⟨h1, h2⟩ := nc_join0 hm h.2
    refine ⟨⟨fun r e => W.left a s t r hst (h2 r ?_), h1⟩, hst⟩
    have e : nearS O a (m ++ v) = some r := e
    rwa [nearS_apart hm] at e
  | y :: u, h => by
    obtain ⟨h1, h2⟩ := nc_join hm h.2
    refine ⟨⟨fun r e => ?_, h1⟩, h2⟩
    have e : nearS O y.1 (u ++ (a, s + t) :: (m ++ v)) = some r := e
    have h0 : ∀ r, nearS O y.1 (u ++ (a, s) :: (m ++ (a, t) :: v)) = some r → W.g y.1 y.2 r := h.1
    by_cases hb : y.1 = a
    · rw [hb] at e h0 ⊢
      rcases near_joinA (O := O) (a := a) (s := s) (t := t) (m := m) (v := v) (u := u) with ⟨q1, q2⟩ | q
      · rw [q2] at e
        cases e
        exact W.right a s t y.2 h2 (h0 s q1)
      · exact h0 r (q.trans e)
    · rw [near_join hm hb] at e
      exact h0 r e
/-- where all that comes together is let, the weight stays -/
theorem Wt.sum_nc : ∀ (n : Nat) (l : Row α), l.length = n → NZ l → NC O W l → W.sum (act O l []) = W.sum l := by
  intro n
  induction n using Nat.strongRecOn with
  | _ n ih =>
    intro l hl hz hn
    cases hm : met O l with
    | none =>
      have e := (pile_iff hz).mpr hm
      have := Wt.act_eq (W := W) (O := O) (l := l) (r := []) (by rw [e]; simp)
      simpa [Wt.sum] using this
    | some ij =>
      obtain ⟨u, a, s, m, t, v, rfl, _, _, h5⟩ := met_some hm
      have hs : s ≠ 0 := hz (a, s) (by simp)
      have ht : t ≠ 0 := hz (a, t) (by simp)
      obtain ⟨g1, g2⟩ := nc_join h5 hn
      have n0 := W.nz a s t g2
      rw [act_meet h5 hs ht hz.left (fun w hw => hz w (by simp [hw])) (show NF O [] from True.intro), if_neg n0]
      have z2 : NZ (u ++ (a, s + t) :: (m ++ v)) := fun x hx => by
        rcases List.mem_append.mp hx with h | h
        · exact hz x (by simp [h])
        · rcases List.mem_cons.mp h with h | h
          · rw [h]
            exact n0
          · rcases List.mem_append.mp h with h | h <;> exact hz x (by simp [h])
      rw [show u ++ ([(a, s + t)] ++ (m ++ v)) = u ++ (a, s + t) :: (m ++ v) from rfl, ih _ (by rw [← hl]; simp) _ rfl z2 g1]
      simp only [Wt.sum_app, Wt.sum]
      rw [W.add a s t g2]
      omega
/-! ### rows so many times -/
def rep (n : Nat) (l : Row α) : Row α := (List.replicate n l).flatten
theorem rep_zero {l : Row α} : rep 0 l = [] := rfl
theorem rep_succ {n : Nat} {l : Row α} : rep (n + 1) l = l ++ rep n l := by
  unfold rep
  rw [List.replicate_succ, List.flatten_cons]
theorem nz_rep {l : Row α} (h : NZ l) : ∀ n : Nat, NZ (rep n l)
  | 0 => fun _ hx => nomatch hx
  | n + 1 => by
    rw [rep_succ]
    exact h.app (nz_rep h n)
theorem Wt.sum_rep {l : Row α} : ∀ n : Nat, W.sum (rep n l) = n * W.sum l
  | 0 => by simp [rep, Wt.sum]
  | n + 1 => by
    rw [rep_succ, Wt.sum_app, Wt.sum_rep n, Nat.succ_mul, Nat.add_comm]
/-- rows that are alike stay so, so many times -/
theorem act_same {l m q : Row α} (zl : NZ l) (zm : NZ m) (h : act O l [] = act O m []) (hq : NF O q) : act O l q = act O m q := by
  rw [← act_self zl hq, h, act_self zm hq]
theorem act_rep {l m : Row α} (zl : NZ l) (zm : NZ m) (h : act O l [] = act O m []) : ∀ (n : Nat) {q : Row α}, NF O q → act O (rep n l) q = act O (rep n m) q
  | 0, q, _ => rfl
  | n + 1, q, hq => by
    rw [rep_succ, rep_succ, act_app, act_app, act_same zl zm h hq]
    exact act_rep zl zm h n (nf_act zm hq)
theorem act_conj {x u : Row α} (zx : NZ x) (zu : NZ u) : ∀ (n : Nat) {q : Row α}, NF O q → act O (rep n (x ++ (u ++ back x))) q = act O (x ++ (rep n u ++ back x)) q
  | 0, q, hq => by
    rw [rep_zero, rep_zero, act_nil, List.nil_append, act_app, act_back zx hq]
  | n + 1, q, hq => by
    have hc : NZ (x ++ (u ++ back x)) := zx.app (zu.app (back_nz zx))
    rw [rep_succ, act_app, act_conj zx zu n (nf_act hc hq), rep_succ]
    simp only [act_app]
    have h1 := nf_act zu (nf_act zx hq)
    have := act_back (O := O) (l := back x) (back_nz zx) h1
    rw [back_back] at this
    rw [this]
theorem Wt.sum_back {l : Row α} (hw : ∀ a t, W.w a (-t) = W.w a t) : W.sum (back l) = W.sum l := by
  unfold back
  rw [Wt.sum_rev]
  induction l with
  | nil => rfl
  | cons x l ih =>
    rw [List.map_cons, Wt.sum, Wt.sum, ih, hw]
/-- if all powers of a row keep its weight, a row that it is a turn of has no less -/
theorem weight_le {u v x y : Row α} (hw : ∀ a t, W.w a (-t) = W.w a t) (zx : NZ x) (zy : NZ y) (zu : NZ u) (zv : NZ v) (hp : ∀ n, W.sum (act O (rep n u) []) = n * W.sum u)
    (h : act O (x ++ (u ++ back x)) [] = act O (y ++ (v ++ back y)) []) : W.sum u ≤ W.sum v := by
  have n0 : NF O ([] : Row α) := True.intro
  have key : ∀ n, n * W.sum u ≤ n * W.sum v + (2 * W.sum x + 2 * W.sum y) := by
    intro n
    have e := act_rep (O := O) (zx.app (zu.app (back_nz zx))) (zy.app (zv.app (back_nz zy))) h n n0
    rw [act_conj zx zu n n0, act_conj zy zv n n0] at e
    have zr := nz_rep zu n
    -- the power of u, by what stands around it taken back
    have e2 : act O (rep n u) [] = act O (back x ++ ((act O (x ++ (rep n u ++ back x)) []).reverse ++ x)) [] := by
      have zc : NZ (x ++ (rep n u ++ back x)) := zx.app (zr.app (back_nz zx))
      have hb := nf_act (O := O) (back_nz zx) n0
      rw [act_app, act_app, act_self zc hb, act_app, act_app]
      have i1 := act_back (O := O) (l := back x) (r := []) (back_nz zx) n0
      rw [back_back] at i1
      rw [i1]
      have i2 := act_back (O := O) (l := back x) (r := act O (rep n u) []) (back_nz zx) (nf_act zr n0)
      rw [back_back] at i2
      exact i2.symm
    have b1 := hp n
    rw [e2, e] at b1
    have b2 := Wt.sum_act (W := W) (O := O) (l := back x ++ ((act O (y ++ (rep n v ++ back y)) []).reverse ++ x)) (r := [])
    have b3 := Wt.sum_act (W := W) (O := O) (l := y ++ (rep n v ++ back y)) (r := [])
    simp only [Wt.sum_app, Wt.sum_rev, Wt.sum_back hw, Wt.sum_rep, Wt.sum] at b2 b3
    omega
  rcases Nat.lt_or_ge (W.sum v) (W.sum u) with hl | hl
  · exfalso
    have k := key (2 * W.sum x + 2 * W.sum y + 1)
    have : (2 * W.sum x + 2 * W.sum y + 1) * (W.sum v + 1) ≤ (2 * W.sum x + 2 * W.sum y + 1) * W.sum u := Nat.mul_le_mul_left _ hl
    rw [Nat.mul_add, Nat.mul_one] at this
    omega
  · exact hl
/-! ### round piles -/
/-- no name has two pieces, one of which can stand first, and the other one last -/
structure Rnd (O : Ord α) (u : Row α) : Prop where
  pl : pl O u = true
  one : ∀ p x l, u = p ++ x :: l → (∀ w ∈ l, O.tc w.1 x.1 = false) → (nearS O x.1 u).isSome = true → ∀ w ∈ p, O.tc w.1 x.1 = false
theorem nc_rep {u : Row α} (hp : pl O u = true) (hR : ∀ p x l, u = p ++ x :: l → (∀ w ∈ l, O.tc w.1 x.1 = false) → ∀ t, nearS O x.1 u = some t → W.g x.1 x.2 t) : ∀ n : Nat, NC O W (rep n u)
  | 0 => True.intro
  | n + 1 => by
    have ih := nc_rep hp hR n
    rw [rep_succ]
    have suf : ∀ (l p : Row α), u = p ++ l → NC O W (l ++ rep n u) := by
      intro l
      induction l with
      | nil => exact fun p _ => ih
      | cons x l il =>
        intro p e
        refine ⟨fun t ht => ?_, il (p ++ [x]) (by rw [e]; simp)⟩
        have ht : nearS O x.1 (l ++ rep n u) = some t := ht
        by_cases hh : ∃ y ∈ l, O.tc y.1 x.1 = true
        · rw [nearS_hit hh] at ht
          have h2 : pl O (x :: l) = true := pl_right (u := p) (by rw [← e]; exact hp)
          unfold XM.pl at h2
          rw [Bool.and_eq_true] at h2
          have := nearS_none.mpr (Option.isNone_iff_eq_none.mp h2.1)
          rw [this] at ht
          cases ht
        · have hn : ∀ y ∈ l, O.tc y.1 x.1 = false := fun y hy => by
            cases q : O.tc y.1 x.1
            · rfl
            · exact absurd ⟨y, hy, q⟩ hh
          rw [nearS_apart hn] at ht
          cases n with
          | zero => cases ht
          | succ n =>
            rw [rep_succ, nearS_hit ⟨x, by rw [e]; simp, O.refl _⟩] at ht
            exact hR p x l e hn t ht
    exact suf u [] rfl
theorem sum_pow {u : Row α} (hz : NZ u) (hp : pl O u = true) (hR : ∀ p x l, u = p ++ x :: l → (∀ w ∈ l, O.tc w.1 x.1 = false) → ∀ t, nearS O x.1 u = some t → W.g x.1 x.2 t) (n : Nat) : W.sum (act O (rep n u) []) = n * W.sum u := by
  rw [Wt.sum_nc _ _ rfl (nz_rep hz n) (nc_rep hp hR n), Wt.sum_rep]
theorem rnd_same {u p l : Row α} {x : α × Int} {t : Int} (h : Rnd O u) (e : u = p ++ x :: l) (hl : ∀ w ∈ l, O.tc w.1 x.1 = false) (ht : nearS O x.1 u = some t) : t = x.2 ∧ ∀ w ∈ p, O.tc w.1 x.1 = false := by
  have hp := h.one p x l e hl (by rw [ht]; rfl)
  refine ⟨?_, hp⟩
  rw [e, nearS_apart hp, nearS, if_pos rfl] at ht
  exact (Option.some.inj ht).symm
theorem sq_pos {t : Int} (h : t ≠ 0) : 0 < t * t := by
  rcases Int.lt_or_gt_of_ne h with h | h
  · exact Int.mul_pos_of_neg_of_neg h h
  · exact Int.mul_pos h h
/-- of one sign -/
def Sg (s t : Int) : Prop := (0 < s ∧ 0 < t) ∨ (s < 0 ∧ t < 0)
/-- how many deeds of the names that are asked for there are -/
def WL (P : α → Bool) : Wt α where
  w := fun a t => if P a = true then t.natAbs else 0
  g := fun _ s t => Sg s t
  nz := fun _ s t h => by rcases h with h | h <;> omega
  add := fun a s t h => by
    split
    · rcases h with h | h <;> omega
    · rfl
  left := fun _ s t r h k => by
    rcases h with h | h <;> rcases k with k | k <;> first | (exact .inl ⟨by omega, by omega⟩) | (exact .inr ⟨by omega, by omega⟩) | (exfalso; omega)
  right := fun _ s t r h k => by
    rcases h with h | h <;> rcases k with k | k <;> first | (exact .inl ⟨by omega, by omega⟩) | (exact .inr ⟨by omega, by omega⟩) | (exfalso; omega)
  le := fun a s t => by split <;> omega
/-- how many pieces of a name there are -/
def WP (b : α) : Wt α where
  w := fun a _ => if a = b then 1 else 0
  g := fun a s t => Sg s t ∧ a ≠ b
  nz := fun _ s t h => by rcases h.1 with h | h <;> omega
  add := fun a s t h => by rw [if_neg h.2]
  left := fun _ s t r h k => ⟨by
    obtain ⟨h, _⟩ := h
    obtain ⟨k, _⟩ := k
    rcases h with h | h <;> rcases k with k | k <;> first | (exact .inl ⟨by omega, by omega⟩) | (exact .inr ⟨by omega, by omega⟩) | (exfalso; omega), h.2⟩
  right := fun _ s t r h k => ⟨by
    obtain ⟨h, _⟩ := h
    obtain ⟨k, _⟩ := k
    rcases h with h | h <;> rcases k with k | k <;> first | (exact .inl ⟨by omega, by omega⟩) | (exact .inr ⟨by omega, by omega⟩) | (exfalso; omega), h.2⟩
  le := fun a s t => by split <;> omega
/-- two rows that are turns of one another, steps ahead of each -/
def Turn (O : Ord α) (u v : Row α) : Prop := ∃ x y, NZ x ∧ NZ y ∧ act O (x ++ (u ++ back x)) [] = act O (y ++ (v ++ back y)) []
theorem Turn.symm {u v : Row α} (h : Turn O u v) : Turn O v u := by
  obtain ⟨x, y, zx, zy, e⟩ := h
  exact ⟨y, x, zy, zx, e.symm⟩
theorem turn_len {u v : Row α} (P : α → Bool) (hu : Rnd O u) (zu : NZ u) (zv : NZ v) (h : Turn O u v) : (WL P).sum u ≤ (WL P).sum v := by
  obtain ⟨x, y, zx, zy, e⟩ := h
  refine weight_le (fun a t => ?_) zx zy zu zv (sum_pow zu hu.pl fun p x l e hl t ht => ?_) e
  · show (if P a = true then (-t).natAbs else 0) = (if P a = true then t.natAbs else 0)
    rw [Int.natAbs_neg]
  · obtain ⟨e1, _⟩ := rnd_same hu e hl ht
    have : x.2 ≠ 0 := zu x (by rw [e]; simp)
    show Sg x.2 t
    rw [e1]
    rcases Int.lt_or_gt_of_ne this with q | q
    · exact .inr ⟨q, q⟩
    · exact .inl ⟨q, q⟩
theorem wp_none {b : α} : ∀ {l : Row α}, (∀ w ∈ l, O.tc w.1 b = false) → (WP b).sum l = 0
  | [], _ => rfl
  | y :: l, h => by
    have hy := ne_of_apart (h y List.mem_cons_self)
    show (if y.1 = b then 1 else 0) + (WP b).sum l = 0
    rw [if_neg hy, wp_none fun w hw => h w (List.mem_cons_of_mem _ hw)]
theorem turn_pc {u v : Row α} (b : α) (hu : Rnd O u) (zu : NZ u) (zv : NZ v) (h : Turn O u v) : (WP b).sum u ≤ (WP b).sum v := by
  by_cases h2 : 2 ≤ (WP b).sum u
  · obtain ⟨x, y, zx, zy, e⟩ := h
    refine weight_le (fun a t => rfl) zx zy zu zv (sum_pow zu hu.pl fun p x l e hl t ht => ?_) e
    obtain ⟨e1, hp⟩ := rnd_same hu e hl ht
    have hx : x.2 ≠ 0 := zu x (by rw [e]; simp)
    refine ⟨?_, fun eb => ?_⟩
    · rw [e1]
      rcases Int.lt_or_gt_of_ne hx with q | q
      · exact .inr ⟨q, q⟩
      · exact .inl ⟨q, q⟩
    · rw [eb] at hp hl
      rw [e, Wt.sum_app, wp_none hp] at h2
      have : (WP b).sum (x :: l) = 1 := by
        show (if x.1 = b then 1 else 0) + (WP b).sum l = 1
        rw [if_pos eb, wp_none hl]
      omega
  · by_cases h0 : (WP b).sum u = 0
    · omega
    · -- one piece: there is one over there, too
      have hl := turn_len (fun a => decide (a = b)) hu zu zv h
      have pos : ∀ {l : Row α}, NZ l → ((WP b).sum l = 0 ↔ (WL fun a => decide (a = b)).sum l = 0) := by
        intro l
        induction l with
        | nil => exact fun _ => ⟨fun _ => rfl, fun _ => rfl⟩
        | cons y l ih =>
          intro hz
          have i := ih fun w hw => hz w (List.mem_cons_of_mem _ hw)
          have hy := hz y List.mem_cons_self
          show (if y.1 = b then 1 else 0) + (WP b).sum l = 0 ↔ (if decide (y.1 = b) = true then y.2.natAbs else 0) + (WL fun a => decide (a = b)).sum l = 0
          by_cases e : y.1 = b
          · rw [if_pos e, if_pos (decide_eq_true e)]
            constructor <;> intro q <;> omega
          · rw [if_neg e, if_neg (by simpa using e)]
            rw [Nat.zero_add, Nat.zero_add]
            exact i
      have k1 : (WL fun a => decide (a = b)).sum u ≠ 0 := fun q => h0 ((pos zu).mpr q)
      have k2 : (WP b).sum v ≠ 0 := fun q => by
        have := (pos zv).mp q
        omega
      omega
theorem wp_count {b : α} : ∀ {l : Row α}, (WP b).sum l = (l.map (·.1)).count b
  | [] => rfl
  | y :: l => by
    show (if y.1 = b then 1 else 0) + (WP b).sum l = _
    rw [wp_count, List.map_cons, List.count_cons]
    by_cases e : y.1 = b
    · rw [if_pos e, if_pos (by simpa using e), Nat.add_comm]
    · rw [if_neg e, if_neg (by simpa using e), Nat.zero_add, Nat.add_zero]
/-- round piles that are turns of one another have as many pieces, of the same names, and the same length -/
theorem turn_same {u v : Row α} (hu : Rnd O u) (hv : Rnd O v) (zu : NZ u) (zv : NZ v) (h : Turn O u v) : u.length = v.length ∧ ((u.map (·.1)).Perm (v.map (·.1))) ∧ (WL fun _ => true).sum u = (WL fun _ => true).sum v := by
  have pm : (u.map (·.1)).Perm (v.map (·.1)) := List.perm_iff_count.mpr fun b => by
    have h1 := turn_pc b hu zu zv h
    have h2 := turn_pc b hv zv zu h.symm
    rw [wp_count, wp_count] at h1 h2
    omega
  have l1 := pm.length_eq
  rw [List.length_map, List.length_map] at l1
  exact ⟨l1, pm, Nat.le_antisymm (turn_len _ hu zu zv h) (turn_len _ hv zv zu h.symm)⟩
end
end XM
set_option linter.all false
/-! distances of rows: the length of what leads from one to another -/
namespace XM
section
variable {α : Type} [DecidableEq α] {O : Ord α}
/-- the length of a row -/
def ln (l : Row α) : Nat := (WL fun _ => true).sum l
theorem ln_app (l m : Row α) : ln (l ++ m) = ln l + ln m := Wt.sum_app
theorem ln_rev (l : Row α) : ln l.reverse = ln l := Wt.sum_rev
theorem ln_back (l : Row α) : ln (back l) = ln l := Wt.sum_back fun a t => by
  show (if (true : Bool) = true then (-t).natAbs else 0) = if (true : Bool) = true then t.natAbs else 0
  rw [Int.natAbs_neg]
theorem ln_act {l : Row α} : ln (act O l []) ≤ ln l := by
  have := Wt.sum_act (O := O) (W := WL fun _ => true) (l := l) (r := [])
  exact this
theorem ln_pile {l : Row α} (hz : NZ l) (h : pl O l = true) : ln (act O l []) = ln l := by
  have e := (pile_iff hz).mpr (met_pl.mpr h)
  have := Wt.act_eq (O := O) (W := WL fun _ => true) (l := l) (r := []) (by rw [e]; rfl)
  exact this
theorem ln_zero {l : Row α} (hz : NZ l) : ln l = 0 ↔ l = [] := by
  cases l with
  | nil => exact ⟨fun _ => rfl, fun _ => rfl⟩
  | cons x r =>
    refine ⟨fun h => ?_, fun h => nomatch h⟩
    have hx := hz x List.mem_cons_self
    have : ln (x :: r) = x.2.natAbs + ln r := rfl
    omega
theorem back_app (l m : Row α) : back (l ++ m) = back m ++ back l := by
  unfold back
  rw [List.map_append, List.reverse_append]
theorem pl_back {l : Row α} (h : pl O l = true) : pl O (back l) = true := by
  unfold back
  exact pl_rev (by rw [pl_map (g := fun x => (x.1, -x.2)) fun _ => rfl]; exact h)
/-- what takes a row back is as long -/
theorem ln_act_back {l : Row α} (hz : NZ l) : ln (act O (back l) []) = ln (act O l []) := by
  have n0 : NF O ([] : Row α) := True.intro
  have hn := nf_act (O := O) hz n0
  have hw : NZ (act O l []).reverse := fun x hx => nf_nz hn x (List.mem_reverse.mp hx)
  have e : act O (act O l []).reverse [] = act O l [] := act_self hz n0
  rw [act_back_eq hz hw e.symm n0, ln_pile (back_nz hw) (pl_back (pl_nf hn)), ln_back, ln_rev]
/-- how far one row is from another -/
def far (O : Ord α) (l m : Row α) : Nat := ln (act O (back l ++ m) [])
theorem far_symm {l m : Row α} (zl : NZ l) (zm : NZ m) : far O l m = far O m l := by
  unfold far
  rw [← ln_act_back ((back_nz zl).app zm), back_app, back_back]
theorem act_bk {l q : Row α} (zl : NZ l) (hq : NF O q) : act O l (act O (back l) q) = q := by
  have := act_back (O := O) (r := q) (back_nz zl) hq
  rwa [back_back] at this
theorem far_tri {l m n : Row α} (zl : NZ l) (zm : NZ m) (zn : NZ n) : far O l n ≤ far O l m + far O m n := by
  have n0 : NF O ([] : Row α) := True.intro
  have z1 := (back_nz zl).app zm
  have z2 := (back_nz zm).app zn
  have f1 := nf_act (O := O) z1 n0
  have e : act O ((act O (back l ++ m) []).reverse ++ (act O (back m ++ n) []).reverse) [] = act O (back l ++ n) [] := by
    rw [act_app, act_self z1 n0, act_self z2 f1]
    rw [act_app, act_app, act_app, act_back zm (nf_act (back_nz zl) n0)]
  unfold far
  rw [← e]
  refine Nat.le_trans ln_act ?_
  rw [ln_app, ln_rev, ln_rev]
  exact Nat.le_refl _
theorem far_zero {l m : Row α} (zl : NZ l) (zm : NZ m) : far O l m = 0 ↔ act O l [] = act O m [] := by
  have n0 : NF O ([] : Row α) := True.intro
  have z1 := (back_nz zl).app zm
  have f1 := nf_act (O := O) z1 n0
  unfold far
  rw [ln_zero (nf_nz f1)]
  have fq := nf_act (O := O) (back_nz zl) n0
  constructor
  · intro h
    rw [act_app] at h
    have h1 : act O (back m) [] = act O (back l) [] := by
      have := act_back (O := O) (r := act O (back l) []) zm fq
      rw [h] at this
      exact this
    have := act_back_eq (back_nz zl) (back_nz zm) h1.symm n0
    rwa [back_back, back_back] at this
  · intro h
    rw [act_app, ← act_same zl zm h fq]
    exact act_bk zl n0
theorem far_self {l : Row α} (zl : NZ l) : far O l l = 0 := (far_zero zl zl).mpr rfl
/-- the same ahead of both -/
theorem far_ahead {x l m : Row α} (zx : NZ x) (zl : NZ l) : far O (x ++ l) (x ++ m) = far O l m := by
  have n0 : NF O ([] : Row α) := True.intro
  unfold far
  have : act O (back (x ++ l) ++ (x ++ m)) [] = act O (back l ++ m) [] := by
    rw [back_app, act_app, act_app, act_app, act_app, act_bk zx (nf_act (back_nz zl) n0)]
  rw [this]
theorem far_nil {m : Row α} : far O [] m = ln (act O m []) := rfl
theorem far_piles {l m : Row α} (zl : NZ l) (zm : NZ m) : far O (act O l []).reverse (act O m []).reverse = far O l m := by
  have n0 : NF O ([] : Row α) := True.intro
  have hl := nf_act (O := O) zl n0
  have zl' : NZ (act O l []).reverse := fun x hx => nf_nz hl x (List.mem_reverse.mp hx)
  unfold far
  rw [act_app, act_app, act_back_eq zl' zl (act_self zl n0) n0, act_self zm (nf_act (back_nz zl) n0)]
theorem pl_tail {x : α × Int} {r : Row α} (h : pl O (x :: r) = true) : pl O r = true := pl_right (u := [x]) h
theorem pl_times {a : α} {s t : Int} {r : Row α} (h : pl O ((a, s) :: r) = true) : pl O ((a, t) :: r) = true := h
/-- a unit of the first piece of what leads from one to the other -/
def sg (t : Int) : Int := if 0 < t then 1 else -1
theorem act_join1 {v q : Row α} {a : α} {s t : Int} (hs : s ≠ 0) (ht : t ≠ 0) (hN : NF O q) : act O ((a, s) :: (a, t) :: v) q = act O ((if s + t = 0 then [] else [(a, s + t)]) ++ v) q := by
  have := act_meet (O := O) (a := a) (s := s) (t := t) (u := []) (m := []) (v := v) (r := q) (fun _ h => nomatch h) hs ht (fun _ h => nomatch h) (fun _ h => nomatch h) hN
  rw [List.nil_append, List.nil_append] at this
  rw [this]
  split <;> rfl
theorem far_part {l m w' : Row α} {a : α} {t : Int} (zl : NZ l) (zm : NZ m) (h : (act O (back l ++ m) []).reverse = (a, t) :: w') : far O l (l ++ [(a, sg t)]) = 1 ∧ far O (l ++ [(a, sg t)]) m + 1 = far O l m := by
  have n0 : NF O ([] : Row α) := True.intro
  have z1 := (back_nz zl).app zm
  have f1 := nf_act (O := O) z1 n0
  have hp := pl_nf f1
  have hz : NZ (act O (back l ++ m) []).reverse := fun x hx => nf_nz f1 x (List.mem_reverse.mp hx)
  rw [h] at hp hz
  have ht : t ≠ 0 := hz (a, t) List.mem_cons_self
  have hs : sg t ≠ 0 := by unfold sg; split <;> decide
  have ze : NZ [(a, sg t)] := fun x hx => by rw [List.mem_singleton.mp hx]; exact hs
  constructor
  · have := far_ahead (O := O) (x := l) (l := []) (m := [(a, sg t)]) zl (fun _ h => nomatch h)
    rw [List.append_nil] at this
    rw [this, far_nil, ln_pile ze (by simp [pl, near])]
    show (sg t).natAbs + 0 = 1
    unfold sg
    by_cases q : 0 < t
    · rw [if_pos q]; rfl
    · rw [if_neg q]; rfl
  · have e0 : ln (act O (back l ++ m) []) = t.natAbs + ln w' := by
      rw [← ln_rev, h]
      rfl
    have e1 : act O (back (l ++ [(a, sg t)]) ++ m) [] = act O ((a, -(sg t)) :: (a, t) :: w') [] := by
      have g1 : act O ((a, -(sg t)) :: (a, t) :: w') [] = act O ((a, t) :: w') (act O [(a, -(sg t))] []) := rfl
      have hq : NF O (act O [(a, -(sg t))] []) := nf_act (fun x hx => by rw [List.mem_singleton.mp hx]; show -(sg t) ≠ 0; omega) n0
      rw [g1, ← h, act_self z1 hq, back_app, List.append_assoc, act_app]
      rfl
    have e2 := act_join1 (O := O) (v := w') (q := []) (a := a) (s := -(sg t)) (t := t) (by omega) ht n0
    unfold far
    rw [e0, e1, e2]
    by_cases q : -(sg t) + t = 0
    · rw [if_pos q, List.nil_append, ln_pile (fun x hx => hz x (List.mem_cons_of_mem _ hx)) (pl_tail hp)]
      have : t.natAbs = 1 := by
        unfold sg at q
        split at q <;> omega
      omega
    · rw [if_neg q]
      have z3 : NZ ((a, -(sg t) + t) :: w') := fun x hx => by
        rcases List.mem_cons.mp hx with e | e
        · rw [e]; exact q
        · exact hz x (List.mem_cons_of_mem _ e)
      show ln (act O ((a, -(sg t) + t) :: w') []) + 1 = _
      rw [ln_pile z3 (pl_times hp)]
      have : ln ((a, -(sg t) + t) :: w') = (-(sg t) + t).natAbs + ln w' := rfl
      rw [this]
      unfold sg at *
      split at * <;> omega
end
end XM
set_option Elab.async false
set_option linter.all false
set_option maxRecDepth 100000
set_option maxHeartbeats 4000000
namespace XB
open PySem PySem.Spec PyProof.Rows L2
theorem len_ln : ∀ l : List (Str × Int), lenOf l = (XM.ln l : Nat)
  | [] => rfl
  | s :: l => by
    have h := len_ln l
    unfold lenOf at h ⊢
    rw [List.map_cons, List.sum_cons, h]
    show (if s.2 < 0 then -s.2 else s.2) + _ = (((if (true : Bool) = true then s.2.natAbs else 0) + XM.ln l : Nat) : Int)
    rw [if_pos rfl]
    split <;> omega
theorem len_far {F : Fld} {l m : List (Str × Int)} : lenOf (XM.act (OF F) (XM.back l ++ m) []).reverse = (XM.far (OF F) l m : Nat) := by
  rw [len_ln, XM.ln_rev]
  rfl
theorem act_len1 {F : Fld} {l : List (Str × Int)} : (XM.act (OF F) l []).reverse.length ≤ l.length := by
  rw [List.length_reverse]
  exact act_len0
section
variable {P : Program} {w : World} {K : PySem.W.Frag} {mg : Str → Option Value} {base : Heap}
def spLeading (K : PySem.W.Frag) (F : Fld) : Sp := fun vs H Q _ => ∃ (t d e : Addr) (l m : List (Str × Int)), vs = [.ref t, .ref d, .ref e] ∧ TouchAt K H t F ∧ F.Ok ∧ Dp K H (.ref d) (dSteps l) ∧ Dp K H (.ref e) (dSteps m) ∧ l.length + m.length ≤ 400 ∧ Names F l ∧ Names F m ∧
  ∀ H' r, Same H H' → Dp K H' (.ref r) (dSteps (XM.act (OF F) (XM.back l ++ m) []).reverse) → Q (.ref r) H'
theorem c_leading (T : Tx K mg) (F : Fld) : Cl P w K mg base CX0 3 "leading" (spLeading K F) := by
  refine cl0 T.d_leading (ps := ["touch", "one", "other"]) (fun _ _ _ _ _ _ us hl => match us, hl with | [_, _, _], _ => rfl) sc_leading (fun vs H Q E h => ?_) (fun fa cdv A outer st H vs Q E hr h => ?_)
  · obtain ⟨t, d, e, l, m, rfl, _⟩ := h
    rfl
  · obtain ⟨t, d, e, l, m, rfl, hT, ok, hL, hM, hl, nl, nm, q⟩ := h
    have nd := sc_leading.nd
    refine ⟨_, (pss_one (ps_ret (pe_k (c_piled T F) hr (by decide) (by rfl) (pa_cons (pv 0) (pa_cons (pe_op (op_catAk (K := K) rfl) (pe_k (c_back T) hr (by decide) (by rfl) (pa_cons (pv 1) pa_nil)) (pv 2)) pa_nil))))), ?_⟩
    refine ⟨_, rfl, _, rfl, d, l, rfl, hL, by omega, fun H1 r s1 h1 => ⟨_, rfl, catD h1 (tS hM s1) (by rw [len_back]; omega) fun H2 p s2 h2 => ?_⟩⟩
    have s12 := s1.trans s2
    obtain ⟨_, xs, ex, hxS, hxD⟩ := h2.steps
    cases ex
    exact ⟨t, p, xs, _, rfl, hT.same s12, ok, hxS, hxD, by rw [List.length_append, len_back]; omega, fun z hz => (List.mem_append.mp hz).elim (names_back nl z) (nm z), fun H3 r3 s3 h3 => q H3 r3 (s12.trans s3) h3⟩
def spDistOf (K : PySem.W.Frag) (F : Fld) : Sp := fun vs H Q _ => ∃ (t d e : Addr) (l m : List (Str × Int)), vs = [.ref t, .ref d, .ref e] ∧ TouchAt K H t F ∧ F.Ok ∧ Dp K H (.ref d) (dSteps l) ∧ Dp K H (.ref e) (dSteps m) ∧ l.length + m.length ≤ 400 ∧ Names F l ∧ Names F m ∧
  ∀ H', Same H H' → Q (.int (XM.far (OF F) l m : Nat)) H'
theorem c_distance_of (T : Tx K mg) (F : Fld) : Cl P w K mg base CX0 4 "distance_of" (spDistOf K F) := by
  refine cl0 T.d_distance_of (ps := ["touch", "one", "other"]) (fun _ _ _ _ _ _ us hl => match us, hl with | [_, _, _], _ => rfl) sc_distance_of (fun vs H Q E h => ?_) (fun fa cdv A outer st H vs Q E hr h => ?_)
  · obtain ⟨t, d, e, l, m, rfl, _⟩ := h
    rfl
  · obtain ⟨t, d, e, l, m, rfl, hT, ok, hL, hM, hl, nl, nm, q⟩ := h
    have nd := sc_distance_of.nd
    refine ⟨_, (pss_one (ps_ret (pe_k (c_length_of T) hr (by decide) (by rfl) (pa_cons (pe_k (c_leading T F) hr (by decide) (by rfl) (pa_cons (pv 0) (pa_cons (pv 1) (pa_cons (pv 2) pa_nil)))) pa_nil)))), ?_⟩
    refine ⟨_, rfl, _, rfl, _, rfl, t, d, e, l, m, rfl, hT, ok, hL, hM, hl, nl, nm, fun H1 r s1 h1 => ?_⟩
    obtain ⟨_, xs, ex, hxS, hxD⟩ := h1.steps
    cases ex
    have := act_len1 (F := F) (l := XM.back l ++ m)
    rw [List.length_append, len_back] at this
    refine ⟨r, xs, _, rfl, hxS, hxD, by omega, fun H2 s2 => ?_⟩
    rw [len_far]
    exact q H2 (s1.trans s2)
def spDistance (K : PySem.W.Frag) (F : Fld) : Sp := fun vs H Q _ => ∃ l m, FS2 K F l m vs H ∧ ∀ H', Same H H' → Q (.int (XM.far (OF F) l m : Nat)) H'
theorem c_distance (T : Tx K mg) (F : Fld) : Cl P w K mg base CX0 7 "distance" (spDistance K F) := by
  refine cl0 T.d_distance (ps := ["field", "one", "other"]) (fun _ _ _ _ _ _ us hl => match us, hl with | [_, _, _], _ => rfl) sc_distance (fun vs H Q E h => ?_) (fun fa cdv A outer st H vs Q E hr h => ?_)
  · obtain ⟨l, m, ⟨a, d, e, rfl, _⟩, _⟩ := h
    rfl
  · obtain ⟨l, m, ⟨a, d, e, rfl, hF, ok, hL, hG, hM, hG'⟩, q⟩ := h
    have nd := sc_distance.nd
    refine ⟨_, (pss_cons (ps_par (i := 3) (j := 4) rfl nd rfl rfl (by decide) rfl rfl (pa_cons (pe_k (c_least_pile T F) hr (by decide) (by rfl) (pa_cons (pv 0) (pa_cons (pv 1) pa_nil))) (pa_cons (pe_k (c_least_pile T F) hr (by decide) (by rfl) (pa_cons (pv 0) (pa_cons (pv 2) pa_nil))) pa_nil)) rfl)
    (pss_one (ps_ret (pe_k (c_distance_of T F) hr (by decide) (by rfl) (pa_cons (pe_k (c_touch_table T) hr (by decide) (by rfl) (pa_cons (pv 0) pa_nil)) (pa_cons (pv 3) (pa_cons (pv 4) pa_nil))))))), ?_⟩
    refine ⟨_, rfl, _, rfl, l, ⟨a, d, rfl, hF, ok, hL, hG⟩, fun H1 r1 s1 h1 => ?_⟩
    refine ⟨_, rfl, _, rfl, m, ⟨a, e, rfl, tF hF s1, ok, tS hM s1, hG'⟩, fun H2 r2 s2 h2 => ?_⟩
    have s12 := s1.trans s2
    refine ⟨_, _, rfl, _, rfl, a, F, rfl, tF hF s12, ok, fun H3 t s3 n3 hT => ⟨_, rfl, _, rfl, ?_⟩⟩
    have l1 := act_len1 (F := F) (l := l)
    have l2 := act_len1 (F := F) (l := m)
    have g1 := hG.1
    have g2 := hG'.1
    refine ⟨t, r1, r2, _, _, rfl, hT, ok, tS h1 (s2.trans s3), tS h2 s3, by omega, names_rev (names_act (r := []) hG.names (fun _ h => nomatch h)), names_rev (names_act (r := []) hG'.names (fun _ h => nomatch h)), fun H4 s4 => ?_⟩
    rw [XM.far_piles hG.nz hG'.nz]
    exact q H4 ((s12.trans s3).trans s4)
def FS3 (K : PySem.W.Frag) (F : Fld) (l m n : List (Str × Int)) (vs : List V) (H : Hp) : Prop := ∃ (a d e f : Addr), vs = [.ref a, .ref d, .ref e, .ref f] ∧ Dp K H (.ref a) (dField F) ∧ F.Ok ∧ Dp K H (.ref d) (dSteps l) ∧ GoodScript F l ∧ Dp K H (.ref e) (dSteps m) ∧ GoodScript F m ∧ Dp K H (.ref f) (dSteps n) ∧ GoodScript F n
def spBetween (K : PySem.W.Frag) (F : Fld) : Sp := fun vs H Q _ => ∃ l m n, FS3 K F l m n vs H ∧ ∀ H', Same H H' → Q (.bl (decide (XM.far (OF F) l m + XM.far (OF F) m n = XM.far (OF F) l n))) H'
theorem c_is_between (T : Tx K mg) (F : Fld) : Cl P w K mg base CX0 7 "is_between" (spBetween K F) := by
  refine cl0 T.d_is_between (ps := ["field", "one", "other", "far"]) (fun _ _ _ _ _ _ us hl => match us, hl with | [_, _, _, _], _ => rfl) sc_is_between (fun vs H Q E h => ?_) (fun fa cdv A outer st H vs Q E hr h => ?_)
  · obtain ⟨l, m, n, ⟨a, d, e, f, rfl, _⟩, _⟩ := h
    rfl
  · obtain ⟨l, m, n, ⟨a, d, e, f, rfl, hF, ok, hL, hG, hM, hG', hN, hG2⟩, q⟩ := h
    have nd := sc_is_between.nd
    refine ⟨_, (pss_cons (ps_par3 (i := 4) (j := 5) (l := 6) rfl nd rfl rfl rfl (by decide) (by decide) (by decide) rfl rfl rfl (pa_cons (pe_k (c_least_pile T F) hr (by decide) (by rfl) (pa_cons (pv 0) (pa_cons (pv 1) pa_nil))) (pa_cons (pe_k (c_least_pile T F) hr (by decide) (by rfl) (pa_cons (pv 0) (pa_cons (pv 2) pa_nil))) (pa_cons (pe_k (c_least_pile T F) hr (by decide) (by rfl) (pa_cons (pv 0) (pa_cons (pv 3) pa_nil))) pa_nil))) rfl)
    (pss_cons (ps_set (i := 7) nd rfl (.inl rfl) (pe_k (c_touch_table T) hr (by decide) (by rfl) (pa_cons (pv 0) pa_nil)))
    (pss_one (ps_ret (pe_cmpR op_eq (pe_op op_add (pe_k (c_distance_of T F) hr (by decide) (by rfl) (pa_cons (pv 7) (pa_cons (pv 4) (pa_cons (pv 5) pa_nil)))) (pe_k (c_distance_of T F) hr (by decide) (by rfl) (pa_cons (pv 7) (pa_cons (pv 5) (pa_cons (pv 6) pa_nil))))) (pe_k (c_distance_of T F) hr (by decide) (by rfl) (pa_cons (pv 7) (pa_cons (pv 4) (pa_cons (pv 6) pa_nil)))) (nomark _)))))), ?_⟩
    refine ⟨_, rfl, _, rfl, l, ⟨a, d, rfl, hF, ok, hL, hG⟩, fun H1 r1 s1 h1 => ?_⟩
    refine ⟨_, rfl, _, rfl, m, ⟨a, e, rfl, tF hF s1, ok, tS hM s1, hG'⟩, fun H2 r2 s2 h2 => ?_⟩
    have s12 := s1.trans s2
    refine ⟨_, rfl, _, rfl, n, ⟨a, f, rfl, tF hF s12, ok, tS hN s12, hG2⟩, fun H3 r3 s3 h3 => ?_⟩
    have s13 := s12.trans s3
    refine ⟨_, _, _, rfl, _, rfl, a, F, rfl, tF hF s13, ok, fun H4 t s4 n4 hT => ?_⟩
    have s34 := s3.trans s4
    have s24 := s2.trans s34
    have l1 := act_len1 (F := F) (l := l)
    have l2 := act_len1 (F := F) (l := m)
    have l3 := act_len1 (F := F) (l := n)
    have g1 := hG.1
    have g2 := hG'.1
    have g3 := hG2.1
    have n1 := names_rev (names_act (F := F) (r := []) hG.names (fun _ h => nomatch h))
    have n2 := names_rev (names_act (F := F) (r := []) hG'.names (fun _ h => nomatch h))
    have n3 := names_rev (names_act (F := F) (r := []) hG2.names (fun _ h => nomatch h))
    refine ⟨_, rfl, _, rfl, _, rfl, t, r1, r2, _, _, rfl, hT, ok, tS h1 s24, tS h2 s34, by omega, n1, n2, fun H5 s5 => ?_⟩
    refine ⟨_, rfl, _, rfl, _, rfl, t, r2, r3, _, _, rfl, hT.same s5, ok, tS h2 (s34.trans s5), tS h3 (s4.trans s5), by omega, n2, n3, fun H6 s6 => ?_⟩
    have s56 := s5.trans s6
    refine ⟨_, _, rfl, rfl, _, rfl, _, rfl, _, rfl, t, r1, r3, _, _, rfl, hT.same s56, ok, tS h1 (s24.trans s56), tS h3 (s4.trans s56), by omega, n1, n3, fun H7 s7 => ?_⟩
    rw [XM.far_piles hG.nz hG'.nz, XM.far_piles hG'.nz hG2.nz, XM.far_piles hG.nz hG2.nz]
    have e : ∀ inst : Decidable (V.int ((XM.far (OF F) l m : Nat) + (XM.far (OF F) m n : Nat) : Int) = V.int (XM.far (OF F) l n : Nat)), @decide _ inst = decide (XM.far (OF F) l m + XM.far (OF F) m n = XM.far (OF F) l n) := fun _ => decide_eq_decide.mpr ⟨fun h => by injection h with h; omega, fun h => by rw [← h]; rfl⟩
    exact ⟨rfl, Eq.mp (congrArg (fun b => Q (V.bl b) H7) (e _).symm) (q H7 ((((s13.trans s4).trans s5).trans s6).trans s7))⟩
end
end XB
set_option Elab.async false
set_option linter.all false
set_option maxRecDepth 100000
set_option maxHeartbeats 4000000
namespace XB
open PySem PySem.Spec PyProof.Rows L2
def ML : List Str := ["a", "b", "c", "d", "e", "f"]
def nmM (i : Nat) : Str := (ML[i]?).getD ""
def fM (n i : Nat) : List (Str × Str) := ((ML.take n).drop (i + 1)).map fun o => (nmM i, o)
def PM (n k : Nat) : List (Str × Str) := (List.range k).flatMap (fM n)
def okM (n : Nat) : Bool := (PM n n).all (fun p => sLt p.1 p.2 && (ML.take n).contains p.1 && (ML.take n).contains p.2) && pwB ltP (PM n n) && pwB sLt (ML.take n) && (ML.take n).all goodB && decide ((PM n n).length ≤ 100) && decide ((ML.take n).length = n)
theorem okM_all : okM 1 = true ∧ okM 2 = true ∧ okM 3 = true ∧ okM 4 = true ∧ okM 5 = true ∧ okM 6 = true := by decide +kernel
theorem okM_of {n : Nat} (h0 : 1 ≤ n) (h6 : n ≤ 6) : okM n = true := by
  obtain ⟨a, b, c, d, e, f⟩ := okM_all
  rcases n with _ | _ | _ | _ | _ | _ | _ | n
  · omega
  · exact a
  · exact b
  · exact c
  · exact d
  · exact e
  · exact f
  · omega
theorem fld_okM {n : Nat} {ps : List (Str × Str)} (h0 : 1 ≤ n) (h6 : n ≤ 6) (hs : ps.Sublist (PM n n)) : (Fld.mk (ML.take n) ps).Ok := by
  have h := okM_of h0 h6
  unfold okM at h
  simp only [Bool.and_eq_true, decide_eq_true_eq, List.all_eq_true] at h
  obtain ⟨⟨⟨⟨⟨a, b⟩, c⟩, d⟩, e⟩, f⟩ := h
  refine ⟨by show 0 < (ML.take n).length; omega, by show (ML.take n).length ≤ 6; omega, fun p hp => (a p (hs.subset hp)).1.1, fun p hp => ⟨?_, ?_⟩, fun x hx => good_of (d x hx), pw_of c, (pw_of b).sublist hs, Nat.le_trans hs.length_le e⟩
  · have := (a p (hs.subset hp)).1.2
    simpa using this
  · have := (a p (hs.subset hp)).2
    simpa using this
theorem PM_succ (n k : Nat) : PM n (k + 1) = PM n k ++ fM n k := by
  unfold PM
  rw [List.range_succ, List.flatMap_append]
  simp
theorem ml_at {n k : Nat} (h6 : n ≤ 6) (h : k < n) : ((ML.take n).map V.str)[k]? = some (.str (nmM k)) := by
  have hl : k < ML.length := by show k < 6; omega
  rw [List.getElem?_map, List.getElem?_take, if_pos h, List.getElem?_eq_getElem hl]
  unfold nmM
  rw [List.getElem?_eq_getElem hl]
  rfl
theorem ml_len {n : Nat} (h6 : n ≤ 6) : (ML.take n).length = n := by
  rw [List.length_take]
  show min n 6 = n
  omega
theorem fM_len {n k : Nat} : (fM n k).length ≤ 6 := by
  unfold fM
  rw [List.length_map, List.length_drop, List.length_take]
  have : ML.length = 6 := rfl
  omega
theorem PM_len' {n : Nat} : ∀ k, (PM n k).length ≤ 6 * k
  | 0 => Nat.le_refl _
  | k + 1 => by
    rw [PM_succ, List.length_append]
    have := PM_len' (n := n) k
    have := fM_len (n := n) (k := k)
    omega
theorem PM_len {n k : Nat} (h6 : n ≤ 6) (hk : k ≤ n) : (PM n k).length ≤ 36 := by
  have := PM_len' (n := n) k
  omega
theorem rowCatP {K : PySem.W.Frag} {H : Hp} {a b : Addr} {l m : List (Str × Str)} {Q : VK} (h1 : RowP K H a l) (h2 : RowP K H b m) (hl : l.length + m.length ≤ 900) (q : ∀ H' p, Same H H' → H p = none → RowP K H' p (l ++ m) → Q (.ref p) H') : rCat (.ref a) (.ref b) H Q := by
  obtain ⟨xs, e1, v1⟩ := h1
  obtain ⟨ys, e2, v2⟩ := h2
  have l1 := v1.len
  have l2 := v2.len
  rw [List.length_map] at l1 l2
  refine catL e1 e2 (Nat.le_of_lt (small1000 (by omega))) fun H' p s hp e => q H' p s hp ⟨_, e, ?_⟩
  rw [List.map_append]
  exact (DpAll.tk (Tk.of s) _ (flat_pairs l) v1).app (DpAll.tk (Tk.of s) _ (flat_pairs m) v2)
theorem RowP.same {K : PySem.W.Frag} {H H' : Hp} {a : Addr} {l : List (Str × Str)} (h : RowP K H a l) (s : Same H H') : RowP K H' a l := by
  obtain ⟨xs, e, v⟩ := h
  exact ⟨xs, s _ _ e, DpAll.tk (Tk.of s) _ (flat_pairs l) v⟩
section
variable {P : Program} {w : World} {K : PySem.W.Frag} {mg : Str → Option Value} {base : Heap}
def spLawField3 (K : PySem.W.Frag) : Sp := fun vs H Q _ => ∃ (m c g : Addr) (s most : Int), vs = [.ref m, .int most] ∧ Dr H m c g s ∧ 1 ≤ most ∧ most ≤ 6 ∧ s < 900000000 ∧
  ∀ H' f F s', Dr H' m c g s' → s' ≤ s + 40 → Kp m g H H' → Dp K H' (.ref f) (dField F) → F.Ok → Q (.ref f) H'
theorem c__law_field3 (T : Tx K mg) : Cl P w K mg base CX0 3 "_law_field" (spLawField3 K) := by
  refine cl0 T.d__law_field (ps := ["m", "most"]) (fun _ _ _ _ _ _ us hl => match us, hl with | [_, _], _ => rfl) sc__law_field (fun vs H Q E h => ?_) (fun f cdv A outer st H vs Q E hr h => ?_)
  · obtain ⟨m, c, g, s, most, rfl, _⟩ := h
    rfl
  · obtain ⟨m, c, g, s, most, rfl, R, m1, m6, hs9, q⟩ := h
    have nd := sc__law_field.nd
    refine ⟨_, (pss_cons (ps_asg (pe_tup (pa_cons (pe_slice sl_tupA (pe_tup (pa_cons pe_str (pa_cons pe_str (pa_cons pe_str (pa_cons pe_str (pa_cons pe_str (pa_cons pe_str pa_nil))))))) po_none (po_some (pe_op op_add pe_int (pe_k (c_draw T) hr (by decide) (by rfl) (pa_cons (pv 0) (pa_cons (pv 1) pa_nil)))))) (pa_cons (pe_lst pa_nil) pa_nil))) (pg_tup rfl (pgs_cons (pg_name (i := 2) nd rfl (.inr rfl)) (pgs_cons (pg_name (i := 3) nd rfl (.inl rfl)) pgs_nil))))
    (pss_cons (ps_for PassesOwn.never rfl (pi_range1 (by rfl) T.b_range (pa_cons (pe_lenS (by rfl) T.b_len (pv 2)) pa_nil)) (pg_name (i := 4) nd rfl (.inr rfl))
    (pss_one (ps_set (i := 3) nd rfl (.inl rfl) (pe_op op_cat (pv 3) (pe_lc (own := [("other", 5)]) (g := (gName 5)) (tt := tYes) (by rfl) nd (pi_tup (pe_slice sl_tupA (pv 2) (po_some (pe_op op_add (pv 4) pe_int)) po_none)) (blkOk_by (own := [("other", 5)]) (N := ["m", "most", "names", "some", "k", "other", "pair"]) (sc := defScope s__law_field) (by decide +kernel)) (fun _ _ _ _ _ => (pg_name (i := 5) nd rfl (Or.inl rfl))) (fun _ _ _ _ _ => pts_nil) (fun _ _ _ _ _ => (pe_tup (pa_cons (pe_ix (ixk_tup (K := K) rfl) (pv 2) (pv 4) (fun _ _ => rfl)) (pa_cons (pv 5) pa_nil)))))))))
    (pss_one (ps_ret (pe_tup (pa_cons (pv 2) (pa_cons (pe_tupleOf (by rfl) T.b_tuple (pe_lc (own := [("pair", 6)]) (g := (gName 6)) (tt := _) (by rfl) nd (pi_list (pv 3)) (blkOk_by (own := [("pair", 6)]) (N := ["m", "most", "names", "some", "k", "other", "pair"]) (sc := defScope s__law_field) (by decide +kernel)) (fun _ _ _ _ _ => (pg_name (i := 6) nd rfl (Or.inl rfl))) (fun _ _ _ _ _ => pts_one (pt_cmpR op_eq (pe_k (c_draw T) hr (by decide) (by rfl) (pa_cons (pv 0) (pa_cons pe_int pa_nil))) pe_int (nomark _))) (fun _ _ _ _ _ => (pv 6)))) pa_nil))))))), ?_⟩
    refine ⟨(show 6 ≤ sizeLine by decide), fun t0 ht0 => upd_gen ht0 fun H1 s1 e1 => ?_⟩
    have e1 : SqT K H1 t0 (ML.map V.str) := SqT.of e1
    refine noPart ?_
    refine ⟨_, rfl, _, rfl, m, c, g, s, most, rfl, R.same s1, by omega, by omega, by omega, fun r H2 r0 r1 R2 k2 => ?_⟩
    obtain ⟨n, hn⟩ : ∃ n : Nat, 1 + r = (n : Int) := ⟨(1 + r).toNat, by omega⟩
    have n1 : 1 ≤ n := by omega
    have n6 : n ≤ 6 := by omega
    refine ⟨_, _, rfl, rfl, (n : Int), congrArg V.int hn, ?_⟩
    refine sl_pre (((R.same s1).tk k2).sqT e1) fun H3 tn s3 hN => ⟨Nat.zero_le _, fun D hD => upd_gen hD fun H4a s4a e4a => ⟨two_sz, fun T0 nT0 => upd_gen nT0 fun H4 s4b e4b => ⟨T0, _, rfl, SqT.of e4b, rfl, _, _, rfl, _, _, rfl, rfl, ?_⟩⟩⟩
    have s4 := s4a.trans s4b
    have e4 := s4b _ _ e4a
    rw [← List.map_take] at hN
    have k4 : Kp m g H H4 := ((Kp.of s1).trans k2).trans ((Kp.of s3).trans (Kp.of s4))
    have R4 := (R2.same s3).same s4
    have nD := (R2.same s3).nm hD
    have hN4 := (Tk.of s4).sqT hN
    have hl : ((ML.take n).map V.str).length = n := by rw [List.length_map, ml_len n6]
    refine ⟨_, rfl, tn, _, rfl, .inr hN4, n, by rw [hl], by omega, by omega, ?_⟩
    refine for_range (lo := 0) (n := n) (fun k σ H2 => ∃ (D : Addr) (y4 y5 y6 : Option V), σ = [some (.ref m), some (.int most), some (.ref tn), some (.ref D), y4, y5, y6] ∧ Same H4 H2 ∧ (D ≠ m ∧ D ≠ c ∧ D ≠ g) ∧ RowP K H2 D (PM n k))
      ⟨D, none, none, none, rfl, Same.refl _, nD, [], e4, .nil⟩ (fun k σ H5 hk ⟨D, y4, y5, y6, eσ, s5, nD, hD5⟩ => ?_) (fun σ H5 ⟨D, y4, y5, y6, eσ, s5, nD, hD5⟩ => ?_)
    · subst eσ
      have hN5 := (Tk.of s5).sqT hN4
      rw [Int.zero_add]
      refine ⟨_, rfl, _, rfl, _, rfl, _, _, rfl, rfl, ((k + 1 : Nat) : Int), rfl, ?_⟩
      refine noPart ?_
      refine sl_suf hN5 fun H7 u s7 hU => ⟨u, rfl, ⟨_, hU⟩, fun E hE => ?_⟩
      rw [← List.map_drop] at hU
      have hlu : (((ML.take n).drop (k + 1)).map V.str).length = n - (k + 1) := by rw [List.length_map, List.length_drop, ml_len n6]
      refine lc_it (walk_tup (xs := ((ML.take n).drop (k + 1)).map V.str)) (fun j H' => ∃ ys, H' E = some (.lst ys) ∧ DpAll K H' ys (((fM n k).take j).map dPair) ∧ Same H7 H') ⟨[], upd_same, .nil, same_upd hE⟩ (fun _ _ _ ⟨_, _, _, s'⟩ => (Tk.of s').sqT hU) (fun j x H8o H8 hj ⟨ys, eE, hY, s8⟩ hy => ?_) (fun H8 ⟨ys, eE, hY, s8⟩ => ?_)
      · obtain ⟨rfl, hx⟩ := hy
        obtain ⟨o, ho, rfl⟩ := str_at hx
        rw [hlu] at hj
        have hly := hY.len
        rw [List.length_map, List.length_take] at hly
        have ex : (fM n k).take (j + 1) = (fM n k).take j ++ [(nmM k, o)] := take_snoc (by unfold fM; rw [List.getElem?_map, ho]; rfl)
        refine ⟨rfl, yes_ ⟨_, rfl, _, rfl, _, _, _, .str (nmM k), rfl, rfl, (Tk.of (s7.trans s8)).sqT hN5, at_of (j := k) rfl (ml_at n6 hk), _, rfl, two_sz, fun b nb => upd_gen nb fun H9 s9 e9 => ⟨_, s9 _ _ eE, small1000 (by omega), _, upd_same, ?_, same_put (s8.trans s9) hE⟩⟩⟩
        rw [ex, List.map_append]
        have tt : Tk H8 (upd H9 E (.lst (ys ++ [.ref b]))) := (Tk.of s9).lst (s9 _ _ eE)
        exact (DpAll.tk tt _ (flat_pairs _) hY).app (.cons (.tup ((Tk.refl.lst (s9 _ _ eE)).sqT (SqT.of e9)) (.cons (.str _) (.cons (.str _) .nil))) .nil)
      · have ek : (fM n k).take (((ML.take n).drop (k + 1)).map V.str).length = fM n k := List.take_of_length_le (by unfold fM; rw [List.length_map, List.length_map]; exact Nat.le_refl _)
        rw [ek] at hY
        have lp : (PM n k).length ≤ 36 := PM_len n6 (by omega)
        refine rowCatP (hD5.same (s7.trans s8)) ⟨ys, eE, hY⟩ (by have := fM_len (n := n) (k := k); omega) fun H10 p s10 np h10 => ?_
        refine ⟨p, _, _, _, rfl, ((s5.trans s7).trans s8).trans s10, (R4.same ((s5.trans s7).trans s8)).nm np, ?_⟩
        rw [PM_succ]
        exact h10
    · subst eσ
      obtain ⟨xs, eD5, hX5⟩ := hD5
      have R5 := R4.same s5
      refine ⟨_, rfl, _, rfl, D, rfl, ⟨_, SqL.of eD5⟩, fun E hE => ?_⟩
      have nE := R5.nm hE
      have nDE : D ≠ E := ne_of_none eD5 hE
      refine lc_it (walk_list (xs := xs)) (fun j H' => ∃ ys ps s', H' E = some (.lst ys) ∧ DpAll K H' ys (ps.map dPair) ∧ ps.Sublist ((PM n n).take j) ∧ H' D = some (.lst xs) ∧ Kp m g H5 H' ∧ Dr H' m c g s' ∧ s' ≤ s + 1 + j) ⟨[], [], s + 1, upd_same, .nil, List.nil_sublist _, same_upd hE _ _ eD5, Kp.of (same_upd hE), R5.same (same_upd hE), by omega⟩ (fun _ _ _ ⟨_, _, _, _, _, _, e, _⟩ => SqL.of e) (fun j x H6o H6 hj ⟨ys, ps, s2, eE, hY, sub, eD6, k6, R6, hs2⟩ hy => ?_) (fun H6 ⟨ys, ps, s2, eE, hY, sub, eD6, k6, R6, hs2⟩ => ?_)
      · obtain ⟨rfl, hx⟩ := hy
        obtain ⟨dd, g1, p1⟩ := hX5.get hx
        rw [List.getElem?_map] at g1
        obtain ⟨pr, k1, rfl⟩ := Option.map_eq_some_iff.mp g1
        have hpr := Dp.tk (R5.tk k6) _ rfl p1
        have hpt : (PM n n).take (j + 1) = (PM n n).take j ++ [pr] := take_snoc k1
        have lps := sub.length_le
        rw [List.length_take] at lps
        have lpn := PM_len (k := n) n6 (Nat.le_refl _)
        have lxs := hX5.len
        rw [List.length_map] at lxs
        have lys := hY.len
        rw [List.length_map] at lys
        refine ⟨rfl, _, rfl, m, c, g, s2, 2, rfl, R6, by omega, by omega, by omega, fun rr H8 q0 q1 R8 k8 => ⟨rfl, _, rfl, ite2 (fun _ => ?_) (fun _ => ?_)⟩⟩
        · have eE8 := k8 _ _ nE.1 nE.2.2 eE
          have t8 := R6.tk k8
          refine ⟨_, rfl, ys, eE8, small1000 (by omega), ?_⟩
          refine ⟨_, ps ++ [pr], s2 + 1, upd_same, ?_, ?_, ?_, ((k6.trans k8).put hE), R8.put nE, by omega⟩
          · rw [List.map_append]
            exact (DpAll.tk (t8.lst eE8) _ (flat_pairs ps) hY).app (.cons (Dp.tk (t8.lst eE8) _ rfl hpr) .nil)
          · rw [hpt]
            exact sub.append (List.Sublist.refl _)
          · rw [upd_ne nDE]
            exact k8 _ _ nD.1 nD.2.2 eD6
        · refine ⟨ys, ps, s2 + 1, k8 _ _ nE.1 nE.2.2 eE, DpAll.tk (R6.tk k8) _ (flat_pairs ps) hY, ?_, k8 _ _ nD.1 nD.2.2 eD6, k6.trans k8, R8, by omega⟩
          rw [hpt]
          exact sub.trans (List.sublist_append_left _ _)
      · have lps := sub.length_le
        rw [List.length_take] at lps
        have lpn := PM_len (k := n) n6 (Nat.le_refl _)
        have lxs := hX5.len
        rw [List.length_map] at lxs
        refine .inl ⟨E, ys, rfl, SqL.of eE, fun pt npt => upd_gen npt fun H7 s7 e7 => ⟨two_sz, fun pf npf => upd_gen npf fun H8 s8 e8 => ?_⟩⟩
        have s78 := s7.trans s8
        refine q H8 pf ⟨ML.take n, ps⟩ s2 (R6.same s78) (by omega) ((k4.trans (Kp.of s5)).trans (k6.trans (Kp.of s78))) ?_ (fld_okM n1 n6 (sub.trans (List.take_sublist _ _)))
        exact .tup (SqT.of e8) (.cons (.tup ((((Tk.of s5).trans (R5.tk k6)).trans (Tk.of s78)).sqT hN4) (DpAll.strs _)) (.cons (.tup ((Tk.of s8).sqT (SqT.of e7)) (DpAll.tk (Tk.of s78) _ (flat_pairs ps) hY)) .nil))
end
end XB
set_option Elab.async false
set_option linter.all false
set_option maxRecDepth 100000
set_option maxHeartbeats 4000000
namespace XB
open PySem PySem.Spec PyProof.Rows L2
section
variable {P : Program} {w : World} {K : PySem.W.Frag} {mg : Str → Option Value} {base : Heap}
def TL : List Int := [1, -1, 1, -1, 2, -2, 3, -1]
def GL : List Int := [7, -12, 10 ^ 29, -10 ^ 29, 1 - 10 ^ 30, 10 ^ 30]
theorem tl_good : ∀ z ∈ TL, z ≠ 0 ∧ -(10 ^ 30) ≤ z ∧ z ≤ 10 ^ 30 := by decide +kernel
theorem gl_good : ∀ z ∈ GL, z ≠ 0 ∧ -(10 ^ 30) ≤ z ∧ z ≤ 10 ^ 30 := by decide +kernel
def Row2 (K : PySem.W.Frag) (H : Hp) (D : Addr) (l : List (Str × Int)) : Prop := ∃ xs, H D = some (.lst xs) ∧ DpAll K H xs (l.map dStep)
def spSteps (K : PySem.W.Frag) : Sp := fun vs H Q _ => ∃ (m c g f : Addr) (s most : Int) (b : Bool) (F : Fld), vs = [.ref m, .ref f, .int most, .bl b] ∧ Dr H m c g s ∧ Dp K H (.ref f) (dField F) ∧ F.Ok ∧ 0 ≤ most ∧ most ≤ 60 ∧ s < 900000000 ∧
  ∀ H' r l s', Dr H' m c g s' → s' ≤ s + 1 + 4 * most → Kp m g H H' → Dp K H' (.ref r) (dSteps l) → GoodAll F l → (l.length : Int) ≤ most → Q (.ref r) H'
def StepsInv (K : PySem.W.Frag) (F : Fld) (H : Hp) (m c g f D : Addr) (most : Int) (gb : Bool) (s : Int) (b : Nat) : L2.St → Hp → Prop := fun σ H2 => ∃ (y5 y6 : Option V) (s2 : Int) (l : List (Str × Int)), σ = [some (.ref m), some (.ref f), some (.int most), some (.bl gb), some (.ref D), y5, y6] ∧
  Kp m g H H2 ∧ Dr H2 m c g s2 ∧ s2 ≤ s + 1 + 4 * (b : Int) ∧ Row2 K H2 D l ∧ GoodAll F l ∧ l.length = b
theorem c__law_steps (T : Tx K mg) : Cl P w K mg base CX0 3 "_law_steps" (spSteps K) := by
  refine cl0 T.d__law_steps (ps := ["m", "field", "most", "great"]) (fun _ _ _ _ _ _ us hl => match us, hl with | [_, _, _, _], _ => rfl) sc__law_steps (fun vs H Q E h => ?_) (fun fa cdv A outer st H vs Q E hr h => ?_)
  · obtain ⟨m, c, g, f, s, most, b, F, rfl, _⟩ := h
    rfl
  · obtain ⟨m, c, g, f, s, most, gb, F, rfl, R, hF, ok, m0, m60, hs, q⟩ := h
    have nd := sc__law_steps.nd
    have hu := hu_of hr
    refine ⟨_, (pss_cons (ps_set (i := 4) nd rfl (.inl rfl) (pe_lst pa_nil))
    (pss_cons (ps_for PassesOwn.never rfl (pi_range1 (by rfl) T.b_range (pa_cons (pe_k (c_draw T) hr (by decide) (by rfl) (pa_cons (pv 0) (pa_cons (pe_op op_add (pv 2) pe_int) pa_nil))) pa_nil)) (pg_name (i := 5) nd rfl (.inl rfl))
    (pss_cons (ps_set (i := 6) nd rfl (.inl rfl) (pe_ix (ixk_list (K := K) rfl) (pe_lst (pa_cons pe_int (pa_cons (pe_un un_neg pe_int) (pa_cons pe_int (pa_cons (pe_un un_neg pe_int) (pa_cons pe_int (pa_cons (pe_un un_neg pe_int) (pa_cons pe_int (pa_cons (pe_un un_neg pe_int) pa_nil))))))))) (pe_k (c_draw T) hr (by decide) (by rfl) (pa_cons (pv 0) (pa_cons pe_int pa_nil))) (fun _ _ => rfl)))
    (C8.pss_cut (ps_if (PW.pt (pw_and (pt_val (pv 3)) (pw_and1 (pt_cmpR op_eq (pe_k (c_draw T) hr (by decide) (by rfl) (pa_cons (pv 0) (pa_cons pe_int pa_nil))) pe_int (nomark _))))) (pss_one (ps_set (i := 6) nd rfl (.inl rfl) (pe_ix (ixk_list (K := K) rfl) (pe_lst (pa_cons pe_int (pa_cons (pe_un un_neg pe_int) (pa_cons (pe_op op_pow pe_int pe_int) (pa_cons (pe_un un_neg (pe_op op_pow pe_int pe_int)) (pa_cons (pe_op op_sub pe_int (pe_op op_pow pe_int pe_int)) (pa_cons (pe_op op_pow pe_int pe_int) pa_nil))))))) (pe_k (c_draw T) hr (by decide) (by rfl) (pa_cons (pv 0) (pa_cons pe_int pa_nil))) (fun _ _ => rfl)))) pss_nil)
    (pss_one (ps_expr (pe_bm PySem.F.plainAttrs_list PySem.F.slot_list_append PySem.F.type_list_append mt_append (pv 4) (pa_cons (pe_tup (pa_cons (pe_ix (ixk_tup (K := K) rfl) (pe_ix (ixk_tup (K := K) rfl) (pv 1) pe_int (fun _ _ => rfl)) (pe_k (c_draw T) hr (by decide) (by rfl) (pa_cons (pv 0) (pa_cons (pe_lenS (by rfl) T.b_len (pe_ix (ixk_tup (K := K) rfl) (pv 1) pe_int (fun _ _ => rfl))) pa_nil))) (fun _ _ => rfl)) (pa_cons (pv 6) pa_nil))) pa_nil)))))))
    (pss_one (ps_ret (pe_tupleOf (by rfl) T.b_tuple (pv 4)))))), ?_⟩
    have C30 : CPow 10 30 := ⟨by decide, by decide, by decide⟩
    have C29 : CPow 10 29 := ⟨by decide, by decide, by decide⟩
    refine ⟨Nat.zero_le _, fun D hD => upd_gen hD fun H1 s1 e1 => ?_⟩
    have nD := R.nm hD
    have R1 := R.same s1
    refine ⟨_, rfl, _, rfl, _, _, rfl, rfl, m, c, g, s, most + 1, rfl, R1, by omega, by omega, by omega, fun cnt H5 c0 c1 R5 k5 => ?_⟩
    obtain ⟨nc, hnc⟩ : ∃ n : Nat, cnt = (n : Int) := ⟨cnt.toNat, by omega⟩
    subst hnc
    have t5 := (Tk.of s1).trans (R1.tk k5)
    have eD5 := k5 _ _ nD.1 nD.2.2 e1
    have k5 : Kp m g H H5 := (Kp.of s1).trans k5
    obtain ⟨_, n', p', ps, e, hA, hN, hP, hDp⟩ := (Dp.tk t5 _ (flat_field F) hF).field
    cases e
    have hlN : (F.names.map V.str).length = F.names.length := List.length_map ..
    have f0 := ok.n0
    have f6 := ok.n6
    refine ⟨_, rfl, by omega, by omega, ?_⟩
    refine for_range (lo := 0) (n := nc) (fun i σ H2 => StepsInv K F H m c g f D most gb s i σ H2 ∧ Tk H5 H2)
      ⟨⟨none, none, s + 1, [], rfl, k5, R5, by omega, ⟨[], eD5, .nil⟩, (fun _ h => nomatch h), rfl⟩, Tk.refl⟩ (fun i σ H6 hi ⟨⟨y5, y6, s2, l, eσ, k6, R6, hs6, ⟨ys, eD6, hY⟩, hg, hlen⟩, t6⟩ => ?_) (fun σ H6 ⟨⟨y5, y6, s2, l, eσ, k6, R6, hs6, ⟨ys, eD6, hY⟩, hg, hlen⟩, t6⟩ => ?_)
    · subst eσ
      have hly := hY.len
      rw [List.length_map] at hly
      refine ⟨_, rfl, _, rfl, _, rfl, _, rfl, (show 8 ≤ sizeLine by decide), fun S hS => upd_gen hS fun H7 s7 e7 => ?_⟩
      have e7 : H7 S = some (.lst (TL.map V.int)) := e7
      have nS := R6.nm hS
      refine ⟨_, rfl, m, c, g, s2, 8, rfl, R6.same s7, by omega, by omega, by omega, fun r H8 r0 r1 R8 k8 => ?_⟩
      obtain ⟨a, rfl⟩ : ∃ i : Nat, r = (i : Int) := ⟨r.toNat, by omega⟩
      have ha : a < TL.length := by show a < 8; omega
      have hz : TL[a]? = some TL[a] := List.getElem?_eq_getElem ha
      have gz := tl_good _ (List.getElem_mem ha)
      generalize TL[a] = z at hz gz
      refine ⟨S, _, a, .int z, rfl, rfl, SqL.of (k8 _ _ nS.1 nS.2.2 e7), at_of (j := a) rfl (by rw [List.getElem?_map, hz]; rfl), ?_⟩
      have k68 : Kp m g H6 H8 := (Kp.of s7).trans k8
      refine ⟨fun σ H' => ∃ (z : Int) (s3 : Int), σ = [some (.ref m), some (.ref f), some (.int most), some (.bl gb), some (.ref D), some (.int (0 + (i : Int))), some (.int z)] ∧ GoodTimes z ∧ Kp m g H6 H' ∧ Dr H' m c g s3 ∧ s3 ≤ s2 + 3, ?_, ?_⟩
      · refine ⟨_, rfl, gb, rfl, ?_⟩
        cases gb
        · exact iteF (iteF ⟨z, s2 + 1, rfl, gz, k68, R8, by omega⟩)
        · refine iteT ⟨_, rfl, m, c, g, s2 + 1, 4, rfl, R8, by omega, by omega, by omega, fun r H9 r0 r1 R9 k9 => ⟨rfl, _, rfl, ?_⟩⟩
          have k69 := k68.trans k9
          refine ite2 (fun _ => ?_) (fun _ => ⟨z, s2 + 1 + 1, rfl, gz, k69, R9, by omega⟩)
          refine ⟨_, rfl, _, _, rfl, rfl, C29, _, _, rfl, rfl, C29, _, rfl, _, _, rfl, rfl, C30, _, _, rfl, rfl, _, _, rfl, rfl, C30, (show 6 ≤ sizeLine by decide), fun S2 hS2 => upd_gen hS2 fun H10 s10 e10 => ?_⟩
          have e10 : H10 S2 = some (.lst (GL.map V.int)) := e10
          have nS2 := R9.nm hS2
          refine ⟨_, rfl, m, c, g, s2 + 1 + 1, 6, rfl, R9.same s10, by omega, by omega, by omega, fun r H11 r0 r1 R11 k11 => ?_⟩
          obtain ⟨b, rfl⟩ : ∃ i : Nat, r = (i : Int) := ⟨r.toNat, by omega⟩
          have hb : b < GL.length := by show b < 6; omega
          have hz : GL[b]? = some GL[b] := List.getElem?_eq_getElem hb
          have gz := gl_good _ (List.getElem_mem hb)
          exact ⟨S2, _, b, .int GL[b], rfl, rfl, SqL.of (k11 _ _ nS2.1 nS2.2.2 e10), at_of (j := b) rfl (by rw [List.getElem?_map, hz]; rfl), ⟨GL[b], s2 + 1 + 1 + 1, rfl, gz, (k69.trans (Kp.of s10)).trans k11, R11, by omega⟩⟩
      · rintro σ' H12 ⟨z, s3, rfl, gz, k12, R12, hs3⟩
        have t12 := R6.tk k12
        have t512 := t6.trans t12
        have eD12 := k12 _ _ nD.1 nD.2.2 eD6
        refine ⟨_, rfl, Or.inl ⟨rfl, _, SqL.of eD12⟩, ?_⟩
        refine ⟨_, rfl, ix0 (t512.sqT hA) ⟨_, rfl, _, rfl, ix0 (t512.sqT hA) ⟨n', _, rfl, .inr (t512.sqT hN), m, c, g, s3, _, rfl, R12, by rw [hlN]; omega, by rw [hlN]; omega, by omega, fun r13 H13 r0 r1 R13 k13 => ?_⟩⟩⟩
        rw [hlN] at r1
        obtain ⟨ja, hja⟩ : ∃ a : Nat, r13 = (a : Int) := ⟨r13.toNat, by omega⟩
        have hx : F.names[ja]? = some F.names[ja] := List.getElem?_eq_getElem (by omega)
        have hxm := List.mem_of_getElem? hx
        generalize F.names[ja] = x at hx hxm
        have t13 := t12.trans (R12.tk k13)
        have eD13 := k13 _ _ nD.1 nD.2.2 eD12
        refine ⟨_, _, _, .str x, rfl, rfl, (t6.trans t13).sqT hN, at_of hja (by rw [List.getElem?_map, hx]; rfl), _, rfl, ⟨two_sz, fun p nb => upd_gen nb fun H14 s14 e14 => ?_⟩⟩
        have eD14 := s14 _ _ eD13
        have tT : Tk H13 (upd H14 D (.lst (ys ++ [.ref p]))) := (Tk.of s14).lst eD14
        refine ⟨D, ys, .ref p, rfl, rfl, eD14, small1000 (by omega), ?_⟩
        refine ⟨⟨_, _, s3 + 1, l ++ [(x, z)], rfl, (((k6.trans k12).trans k13).trans (Kp.of s14)).put hD, (R13.same s14).put nD, by omega, ⟨ys ++ [.ref p], upd_same, ?_⟩, fun y hy => ?_, by rw [List.length_append, hlen]; rfl⟩, (t6.trans t13).trans tT⟩
        · rw [List.map_append]
          exact (DpAll.tk (t13.trans tT) _ (flat_all_steps l) hY).app (.cons (Dp.of_step (s := (x, z)) ((Tk.refl.lst eD14).sqT (SqT.of e14))) .nil)
        · rcases List.mem_append.mp hy with h | h
          · exact hg y h
          · rw [List.mem_singleton.mp h]
            exact ⟨hxm, gz⟩
    · subst eσ
      have hly := hY.len
      rw [List.length_map] at hly
      refine ⟨_, rfl, .inl ⟨D, ys, rfl, SqL.of eD6, fun r hr' => upd_gen hr' fun H7 s7 e7 => ?_⟩⟩
      exact q _ r l s2 (R6.same s7) (by omega) (k6.trans (Kp.of s7)) (.tup (SqT.of e7) (DpAll.tk (Tk.of s7) _ (flat_all_steps l) hY)) hg (by omega)
end
end XB
set_option Elab.async false
set_option linter.all false
set_option maxRecDepth 100000
set_option maxHeartbeats 4000000
namespace XB
open PySem PySem.Spec PyProof.Rows L2
section
variable {P : Program} {w : World} {K : PySem.W.Frag} {mg : Str → Option Value} {base : Heap}
def spApart2 (K : PySem.W.Frag) (F : Fld) : Sp := fun vs H Q _ => ∃ (a : Addr) (x y : Str), vs = [.ref a, .str x, .str y] ∧ Dp K H (.ref a) (dField F) ∧ F.Ok ∧ x ∈ F.names ∧ y ∈ F.names ∧ ∀ H', Same H H' → Q (.bl (apart F x y)) H'
theorem c__law_apart2 (T : Tx K mg) (F : Fld) : Cl P w K mg base CX0 1 "_law_apart" (spApart2 K F) := by
  refine cl0 T.d__law_apart (ps := ["field", "one", "other"]) (fun _ _ _ _ _ _ us hl => match us, hl with | [_, _, _], _ => rfl) sc__law_apart (fun vs H Q E h => ?_) (fun f cdv A outer st H vs Q E hr h => ?_)
  · obtain ⟨a, x, y, rfl, _⟩ := h
    rfl
  · obtain ⟨a, x, y, rfl, hF, ok, ma, mb, q⟩ := h
    have nd := sc__law_apart.nd
    have hu := u65 hr
    obtain ⟨_, n, p, ps, e, hA, hN, hP, hD⟩ := hF.field
    cases e
    refine ⟨_, (pss_one (ps_ret (pe_cmpR (op_inDTk (K := K) rfl hu) (pe_tup (pa_cons (pe_callB (call_min2S rfl) (by rfl) T.b_min (by decide +kernel) (pa_cons (pv 1) (pa_cons (pv 2) pa_nil))) (pa_cons (pe_callB (call_max2S rfl) (by rfl) T.b_max (by decide +kernel) (pa_cons (pv 1) (pa_cons (pv 2) pa_nil))) pa_nil))) (pe_ix (ixk_tup (K := K) rfl) (pv 0) pe_int (fun _ _ => rfl)) (by rfl)))), ?_⟩
    refine ⟨_, rfl, _, rfl, _, _, rfl, _, rfl, _, rfl, _, _, rfl, (show 2 ≤ sizeLine by decide), fun t ht => ?_⟩
    have s1 := same_upd (o := .tup [.str (if sLt y x then y else x), .str (if sLt x y then y else x)]) ht
    refine ⟨_, rfl, _, _, _, _, rfl, rfl, (Tk.of s1).sqT hA, rfl, ?_⟩
    refine ⟨dPair ((if sLt y x then y else x), (if sLt x y then y else x)), F.pairs.map dPair, .tup (SqT.of upd_same) (.cons (.str _) (.cons (.str _) .nil)), .tup ((Tk.of s1).sqT hP) (DpAll.tk (Tk.of s1) _ (flat_pairs _) hD), sh_pair ?_ ?_, sh_pairs ok.good, ?_⟩
    · show GoodName (if sLt y x then y else x)
      split <;> first | exact ok.sgn _ ma | exact ok.sgn _ mb
    · show GoodName (if sLt x y then y else x)
      split <;> first | exact ok.sgn _ ma | exact ok.sgn _ mb
    · rw [any_pairs, apart_min ok]
      exact q _ s1
def spMeet (K : PySem.W.Frag) (F : Fld) : Sp := fun vs H Q _ => ∃ (a p : Addr) (xs : List V) (l : List (Str × Int)), vs = [.ref a, .ref p] ∧ Dp K H (.ref a) (dField F) ∧ F.Ok ∧ SqX K H p xs ∧ DpAll K H xs (l.map dStep) ∧ Names F l ∧ l.length ≤ 200 ∧
  metV K H Q (XM.met (OF F) l)
theorem c__law_meet (T : Tx K mg) (F : Fld) : Cl P w K mg base CX0 2 "_law_meet" (spMeet K F) := by
  refine cl0 T.d__law_meet (ps := ["field", "steps"]) (fun _ _ _ _ _ _ us hl => match us, hl with | [_, _], _ => rfl) sc__law_meet (fun vs H Q E h => ?_) (fun f cdv A outer st H vs Q E hr h => ?_)
  · obtain ⟨a, p, xs, l, rfl, _⟩ := h
    rfl
  · obtain ⟨a, p, xs, l, rfl, hF, ok, hS, hD, hN, hl60, q⟩ := h
    have nd := sc__law_meet.nd
    have hlx := hD.len
    rw [List.length_map] at hlx
    refine ⟨_, (pss_cons (ps_for PassesOwn.never rfl (pi_range1 (by rfl) T.b_range (pa_cons (pe_lenS (by rfl) T.b_len (pv 1)) pa_nil)) (pg_name (i := 2) nd rfl (.inl rfl))
    (pss_one (ps_for PassesOwn.never rfl (pi_range2 (by rfl) T.b_range (pa_cons (pe_op op_add (pv 2) pe_int) (pa_cons (pe_lenS (by rfl) T.b_len (pv 1)) pa_nil))) (pg_name (i := 3) nd rfl (.inl rfl))
    (pss_cons (ps_if (pt_cmpR op_eq (pe_ix (ixk_tup (K := K) rfl) (pe_ix (ixk_row (K := K) rfl) (pv 1) (pv 3) (fun _ _ => rfl)) pe_int (fun _ _ => rfl)) (pe_ix (ixk_tup (K := K) rfl) (pe_ix (ixk_row (K := K) rfl) (pv 1) (pv 2) (fun _ _ => rfl)) pe_int (fun _ _ => rfl)) (nomark _)) (pss_one (ps_ret (pe_tup (pa_cons (pv 2) (pa_cons (pv 3) pa_nil))))) pss_nil)
    (pss_one (ps_if (pt_not (pt_val (pe_k (c__law_apart2 T F) hr (by decide) (by rfl) (pa_cons (pv 0) (pa_cons (pe_ix (ixk_tup (K := K) rfl) (pe_ix (ixk_row (K := K) rfl) (pv 1) (pv 2) (fun _ _ => rfl)) pe_int (fun _ _ => rfl)) (pa_cons (pe_ix (ixk_tup (K := K) rfl) (pe_ix (ixk_row (K := K) rfl) (pv 1) (pv 3) (fun _ _ => rfl)) pe_int (fun _ _ => rfl)) pa_nil)))))) (pss_one ps_break) pss_nil))))))
    (pss_one (ps_ret pe_non))), ?_⟩
    refine ⟨_, rfl, p, xs, rfl, hS, xs.length, rfl, by omega, by omega, ?_⟩
    refine for_range (lo := 0) (n := xs.length) (fun k σ H2 => ∃ (y2 y3 : Option V), σ = [some (.ref a), some (.ref p), y2, y3] ∧ Same H H2 ∧ XM.met (OF F) l = up k (XM.met (OF F) (l.drop k)))
      ⟨none, none, rfl, Same.refl _, by rw [List.drop_zero]; unfold up; simp⟩ (fun k σ H2 hk ⟨y2, y3, eσ, s2, em⟩ => ?_) (fun σ H2 ⟨y2, y3, eσ, s2, em⟩ => ?_)
    · subst eσ
      have hs : l[k]? = some l[k] := List.getElem?_eq_getElem (by omega)
      have ms := hN _ (List.mem_of_getElem? hs)
      generalize l[k] = s at hs ms
      rw [Int.zero_add]
      refine ⟨_, rfl, (k : Int), 1, rfl, rfl, _, rfl, p, xs, rfl, hS.same s2, _, _, rfl, by omega, ?_⟩
      have hn : ((xs.length : Int) - ((k : Int) + 1)).toNat = l.length - (k + 1) := by omega
      refine for_range (lo := (k : Int) + 1) (n := ((xs.length : Int) - ((k : Int) + 1)).toNat) (fun j σ H3 => ∃ (y3 : Option V), σ = [some (.ref a), some (.ref p), some (.int (k : Int)), y3] ∧ Same H H3 ∧ XM.near (OF F) s.1 (l.drop (k + 1)) = (XM.near (OF F) s.1 (l.drop (k + 1 + j))).map (· + j))
        ⟨y3, rfl, s2, by simp⟩ (fun j σ H3 hj ⟨y3, eσ, s3, en⟩ => ?_) (fun σ H3 ⟨y3, eσ, s3, en⟩ => ?_)
      · subst eσ
        have hy : l[k + 1 + j]? = some l[k + 1 + j] := List.getElem?_eq_getElem (by omega)
        have my := hN _ (List.mem_of_getElem? hy)
        generalize l[k + 1 + j] = y at hy my
        obtain ⟨c, hc, cc⟩ := (DpAll.tk (Tk.of s3) _ (flat_all_steps l) hD).step hy
        obtain ⟨b, hb, cb⟩ := (DpAll.tk (Tk.of s3) _ (flat_all_steps l) hD).step hs
        have ej : (k : Int) + 1 + (j : Int) = ((k + 1 + j : Nat) : Int) := by omega
        rw [ej]
        refine ⟨_, rfl, _, rfl, _, _, _, _, rfl, rfl, hS.same s3, at_of (j := k + 1 + j) rfl hc, _, _, _, _, rfl, rfl, cc, rfl, _, rfl, _, rfl, _, _, _, _, rfl, rfl, hS.same s3, at_of (j := k) rfl hb, _, _, _, _, rfl, rfl, cb, rfl, rfl, _, rfl, ?_⟩
        rw [drop_at hy] at en
        have en : _ = ((if y.1 = s.1 then some 0 else if (OF F).tc y.1 s.1 then none else (XM.near (OF F) s.1 (l.drop (k + 1 + j + 1))).map (· + 1)) : Option Nat).map (· + j) := en
        rw [show decide (V.str y.1 = V.str s.1) = decide (y.1 = s.1) from decide_eq_decide.mpr ⟨fun h => V.str.inj h, fun h => congrArg _ h⟩]
        by_cases e : y.1 = s.1
        · rw [decide_eq_true e]
          rw [if_pos e] at en
          have en : XM.near (OF F) s.1 (l.drop (k + 1)) = some (0 + j) := en
          rw [Nat.zero_add] at en
          rw [met_here hs en] at em
          rw [em] at q
          refine iteT ⟨_, rfl, _, rfl, (show 2 ≤ sizeLine by decide), fun T hT => q _ T (same_new s3 hT) (SqT.of upd_same)⟩
        · rw [decide_eq_false e]
          rw [if_neg e] at en
          refine iteF ?_
          refine ⟨_, rfl, _, rfl, _, rfl, _, _, _, _, rfl, rfl, hS.same s3, at_of (j := k) rfl hb, _, _, _, _, rfl, rfl, cb, rfl, _, rfl, _, rfl, _, _, _, _, rfl, rfl, hS.same s3, at_of (j := k + 1 + j) rfl hc, _, _, _, _, rfl, rfl, cc, rfl, ?_⟩
          refine ⟨a, s.1, y.1, rfl, Dp.tk (Tk.of s3) _ (flat_field F) hF, ok, ms, my, fun H4 s4 => ⟨_, rfl, ?_⟩⟩
          rw [(OF F).symm, tc_eq ok] at en
          cases ha : apart F s.1 y.1
          · rw [ha] at en
            have en : XM.near (OF F) s.1 (l.drop (k + 1)) = none := en
            rw [met_none hs en] at em
            exact iteT ⟨_, _, rfl, s3.trans s4, em⟩
          · rw [ha] at en
            refine iteF ⟨_, rfl, s3.trans s4, ?_⟩
            rw [en]
            show ((XM.near (OF F) s.1 (l.drop (k + 1 + j + 1))).map (· + 1)).map (· + j) = _
            rw [Option.map_map, ← Nat.add_assoc]
            congr 1
            funext n
            show n + 1 + j = n + (j + 1)
            omega
      · subst eσ
        rw [hn, show l.drop (k + 1 + (l.length - (k + 1))) = [] from List.drop_eq_nil_iff.mpr (by omega)] at en
        rw [met_none hs en] at em
        exact ⟨_, _, rfl, s3, em⟩
    · subst eσ
      rw [hlx, List.drop_length] at em
      rw [em] at q
      exact q _ s2
theorem c__law_back3 (T : Tx K mg) : Cl P w K mg base CX0 1 "_law_back" (spBack K) := by
  refine cl0 T.d__law_back (ps := ["steps"]) (fun _ _ _ _ _ _ us hl => match us, hl with | [_], _ => rfl) sc__law_back (fun vs H Q E h => ?_) (fun f cdv A outer st H vs Q E hr h => ?_)
  · obtain ⟨a, l, rfl, _⟩ := h
    rfl
  · obtain ⟨a, l, rfl, hL, hl, q⟩ := h
    have nd := sc__law_back.nd
    obtain ⟨_, xs, e, hS, hD⟩ := hL.steps
    cases e
    have hlx := hD.len
    rw [List.length_map] at hlx
    refine ⟨_, pss_one (ps_ret (pe_tupleOf (by rfl) T.b_tuple (pe_lc (own := [("name", 1), ("times", 2)]) (g := gTup K 2 (gCons (gName 1) (gCons (gName 2) gNil))) (tt := tYes) (by rfl) nd (pi_tup (pe_revT (pv 0)))
      (blkOk_by (own := [("name", 1), ("times", 2)]) (N := ["steps", "name", "times"]) (sc := defScope s__law_back) (by decide +kernel))
      (fun _ _ _ _ _ => pg_tup rfl (pgs_cons (pg_name (i := 1) nd rfl (Or.inl rfl)) (pgs_cons (pg_name (i := 2) nd rfl (Or.inl rfl)) pgs_nil))) (fun _ _ _ _ _ => pts_nil)
      (fun _ _ _ _ _ => pe_tup (pa_cons (pv 1) (pa_cons (pe_un un_neg (pv 2)) pa_nil)))))), ?_⟩
    refine ⟨_, rfl, a, xs, rfl, hS, fun p hp => ⟨p, rfl, ⟨_, SqT.of upd_same⟩, fun D hD' => ?_⟩⟩
    have s0 : Same H (upd H p (.tup xs.reverse)) := same_upd hp
    have hB : SqT K (upd H p (.tup xs.reverse)) p xs.reverse := SqT.of upd_same
    have hR : DpAll K (upd H p (.tup xs.reverse)) xs.reverse (l.reverse.map dStep) := by
      rw [List.map_reverse]
      exact (DpAll.tk (Tk.of s0) _ (flat_all_steps l) hD).rev
    generalize upd H p (.tup xs.reverse) = H1 at s0 hB hR hD' ⊢
    refine lc_it (walk_tup (xs := xs.reverse)) (fun i H' => Row1 K H' D ((l.reverse.take i).map fun x => (x.1, -x.2)) ∧ Same H1 H') ⟨⟨[], upd_same, .nil⟩, same_upd hD'⟩ (fun _ _ _ ⟨_, s'⟩ => (Tk.of s').sqT hB) (fun i x H2 H3 hi ⟨⟨ys, eD, hY⟩, s'⟩ hy => ?_) (fun H2 ⟨⟨ys, eD, hY⟩, s'⟩ => ?_)
    · obtain ⟨rfl, hx⟩ := hy
      obtain ⟨dd, g1, p1⟩ := hR.get hx
      rw [List.getElem?_map] at g1
      obtain ⟨s, k1, rfl⟩ := Option.map_eq_some_iff.mp g1
      obtain ⟨b, rfl, cb⟩ := p1.step
      have hly := hY.len
      rw [List.length_map, List.length_map, List.length_take, List.length_reverse] at hly
      refine ⟨b, _, rfl, (Tk.of s').sqT cb, rfl, _, _, rfl, _, _, rfl, rfl, rfl, yes_ ?_⟩
      refine ⟨_, rfl, _, rfl, s.2, rfl, (show 2 ≤ sizeLine by decide), fun T hT => ⟨ys, ?_, small1000 (by omega), ?_, same_put (same_new s' hT) hD'⟩⟩
      · rw [upd_ne (ne_of_none eD hT)]
        exact eD
      · refine Row1.put (xs := ys) (by rw [upd_ne (ne_of_none eD hT)]; exact eD) ?_
        rw [take_snoc k1, List.map_append, List.map_append]
        exact (DpAll.tk (Tk.of (same_upd hT)) _ (flat_all_steps _) hY).app (.cons (Dp.of_step (s := (s.1, -s.2)) (SqT.of upd_same)) .nil)
    · rw [List.length_reverse, hlx, show l.length = l.reverse.length from (List.length_reverse).symm, List.take_length] at hY
      refine .inl ⟨D, ys, rfl, SqL.of eD, fun r hr' => q _ r (same_new (s0.trans s') hr') ?_⟩
      unfold XM.back
      rw [← List.map_reverse]
      exact .tup (SqT.of upd_same) (DpAll.tk (Tk.of (same_upd hr')) _ (flat_all_steps _) hY)
end
end XB
set_option Elab.async false
set_option linter.all false
set_option maxRecDepth 100000
set_option maxHeartbeats 4000000
namespace XB
open PySem PySem.Spec PyProof.Rows L2
theorem Row2.same {K : PySem.W.Frag} {H H' : Hp} {D : Addr} {l : List (Str × Int)} (h : Row2 K H D l) (s : Same H H') : Row2 K H' D l := by
  obtain ⟨xs, e, v⟩ := h
  exact ⟨xs, s _ _ e, DpAll.tk (Tk.of s) _ (flat_all_steps l) v⟩
theorem Row2.get {K : PySem.W.Frag} {H : Hp} {D : Addr} {l : List (Str × Int)} {k : Nat} {s : Str × Int} (h : Row2 K H D l) (e : l[k]? = some s) : ∃ xs b, SqL K H D xs ∧ atI xs (k : Int) = some (.ref b) ∧ SqT K H b [.str s.1, .int s.2] := by
  obtain ⟨xs, e1, v⟩ := h
  obtain ⟨b, hb, cb⟩ := v.step e
  exact ⟨xs, b, SqL.of e1, at_of (j := k) rfl hb, cb⟩
/-- two that come together, by two cuts -/
theorem melt_eq {α : Type} {l x : List α} {i j : Nat} (h1 : i < j) (h2 : j < l.length) : ((l.take j ++ l.drop (j + 1)).take i ++ x) ++ (l.take j ++ l.drop (j + 1)).drop (i + 1) = melt l x i j := by
  have l1 : (l.take j).length = j := by rw [List.length_take]; omega
  unfold melt
  rw [List.take_append_of_le_length (by omega), List.take_take, Nat.min_eq_left (by omega), List.drop_append_of_le_length (by omega), List.drop_take]
theorem dp_rep {K : PySem.W.Frag} {H : Hp} {xs : List V} {ds : List PyData} (h : DpAll K H xs ds) : ∀ n : Nat, DpAll K H (List.replicate n xs).flatten (List.replicate n ds).flatten
  | 0 => .nil
  | n + 1 => by
    rw [List.replicate_succ, List.replicate_succ, List.flatten_cons, List.flatten_cons]
    exact h.app (dp_rep h n)
def PileInv3 (K : PySem.W.Frag) (F : Fld) (H : Hp) (a p : Addr) (l : List (Str × Int)) : Nat → L2.St → Hp → Prop := fun m σ H2 => ∃ (D : Addr) (l' : List (Str × Int)) (z : V) (y4 y5 : Option V), m = l'.length ∧ σ = [some (.ref a), some (.ref p), some (.ref D), some z, y4, y5] ∧ Same H H2 ∧ Row2 K H2 D l' ∧ H D = none ∧
        Names F l' ∧ XM.NZ l' ∧ XM.act (OF F) l' [] = XM.act (OF F) l [] ∧ l'.length ≤ l.length ∧ SpotV K H2 z (XM.met (OF F) l')
section
variable {P : Program} {w : World} {K : PySem.W.Frag} {mg : Str → Option Value} {base : Heap}
theorem rowCat {H : Hp} {a b : Addr} {l m : List (Str × Int)} {Q : VK} (h1 : Row2 K H a l) (h2 : Row2 K H b m) (hl : l.length + m.length ≤ 900) (q : ∀ H' p, Same H H' → H p = none → Row2 K H' p (l ++ m) → Q (.ref p) H') : rCat (.ref a) (.ref b) H Q := by
  obtain ⟨xs, e1, v1⟩ := h1
  obtain ⟨ys, e2, v2⟩ := h2
  have l1 := v1.len
  have l2 := v2.len
  rw [List.length_map] at l1 l2
  refine catL e1 e2 (Nat.le_of_lt (small1000 (by omega))) fun H' p s hp e => q H' p s hp ⟨_, e, ?_⟩
  rw [List.map_append]
  exact (DpAll.tk (Tk.of s) _ (flat_all_steps l) v1).app (DpAll.tk (Tk.of s) _ (flat_all_steps m) v2)
theorem rowTake {H : Hp} {a : Addr} {l : List (Str × Int)} {k : Nat} {Q : VK} (h : Row2 K H a l) (q : ∀ H' p, Same H H' → H p = none → Row2 K H' p (l.take k) → Q (.ref p) H') : rSlL K (.ref a) none (some (k : Int)) H Q := by
  obtain ⟨xs, e, v⟩ := h
  refine slL e fun H' p s hp e' => q H' p s hp ⟨xs.take k, ?_, ?_⟩
  · rw [cut_init] at e'
    exact e'
  · rw [List.map_take]
    exact (DpAll.tk (Tk.of s) _ (flat_all_steps l) v).take k
theorem rowDrop {H : Hp} {a : Addr} {l : List (Str × Int)} {k : Nat} {Q : VK} (h : Row2 K H a l) (q : ∀ H' p, Same H H' → H p = none → Row2 K H' p (l.drop k) → Q (.ref p) H') : rSlL K (.ref a) (some (k : Int)) none H Q := by
  obtain ⟨xs, e, v⟩ := h
  refine slL e fun H' p s hp e' => q H' p s hp ⟨xs.drop k, ?_, ?_⟩
  · rw [cut_from] at e'
    exact e'
  · rw [List.map_drop]
    exact (DpAll.tk (Tk.of s) _ (flat_all_steps l) v).drop k
def spPile3 (K : PySem.W.Frag) (F : Fld) : Sp := fun vs H Q _ => ∃ (a p : Addr) (xs : List V) (l : List (Str × Int)), vs = [.ref a, .ref p] ∧ Dp K H (.ref a) (dField F) ∧ F.Ok ∧ SqX K H p xs ∧ DpAll K H xs (l.map dStep) ∧ Names F l ∧ XM.NZ l ∧ l.length ≤ 200 ∧
  ∀ H' r l', Same H H' → Row2 K H' r l' → H r = none → Names F l' → XM.NZ l' → XM.pl (OF F) l' = true → XM.act (OF F) l' [] = XM.act (OF F) l [] → l'.length ≤ l.length → Q (.ref r) H'
theorem c__law_pile3 (T : Tx K mg) (F : Fld) : Cl P w K mg base CX0 3 "_law_pile" (spPile3 K F) := by
  refine cl0 T.d__law_pile (ps := ["field", "steps"]) (fun _ _ _ _ _ _ us hl => match us, hl with | [_, _], _ => rfl) sc__law_pile (fun vs H Q E h => ?_) (fun f cdv A outer st H vs Q E hr h => ?_)
  · obtain ⟨a, p, xs, l, rfl, _⟩ := h
    rfl
  · obtain ⟨a, p, xs, l, rfl, hF, ok, hS, hV, hN, hZ, hl, q⟩ := h
    have nd := sc__law_pile.nd
    refine ⟨_, (pss_cons (ps_set (i := 2) nd rfl (.inl rfl) (pe_callTy call_list_of (by rfl) T.b_list (by decide +kernel) (pa_cons (pv 1) pa_nil)))
    (pss_cons (ps_set (i := 3) nd rfl (.inl rfl) (pe_k (c__law_meet T F) hr (by decide) (by rfl) (pa_cons (pv 0) (pa_cons (pv 2) pa_nil))))
    (pss_cons (ps_while PassesOwn.never (pt_cmpR op_notN (pv 3) pe_non (nomark _))
    (pss_cons (ps_par (i := 4) (j := 5) rfl nd rfl rfl (by decide) rfl rfl (pa_cons (pe_ix (ixk_tup (K := K) rfl) (pe_ix (ixk_list (K := K) rfl) (pv 2) (pe_ix (ixk_tup (K := K) rfl) (pv 3) pe_int (fun _ _ => rfl)) (fun _ _ => rfl)) pe_int (fun _ _ => rfl)) (pa_cons (pe_op op_add (pe_ix (ixk_tup (K := K) rfl) (pe_ix (ixk_list (K := K) rfl) (pv 2) (pe_ix (ixk_tup (K := K) rfl) (pv 3) pe_int (fun _ _ => rfl)) (fun _ _ => rfl)) pe_int (fun _ _ => rfl)) (pe_ix (ixk_tup (K := K) rfl) (pe_ix (ixk_list (K := K) rfl) (pv 2) (pe_ix (ixk_tup (K := K) rfl) (pv 3) pe_int (fun _ _ => rfl)) (fun _ _ => rfl)) pe_int (fun _ _ => rfl))) pa_nil)) rfl)
    (pss_cons (ps_set (i := 2) nd rfl (.inl rfl) (pe_op op_cat (pe_slice sl_list (pv 2) po_none (po_some (pe_ix (ixk_tup (K := K) rfl) (pv 3) pe_int (fun _ _ => rfl)))) (pe_slice sl_list (pv 2) (po_some (pe_op op_add (pe_ix (ixk_tup (K := K) rfl) (pv 3) pe_int (fun _ _ => rfl)) pe_int)) po_none)))
    (pss_cons (ps_set (i := 2) nd rfl (.inl rfl) (pe_op op_cat (pe_op op_cat (pe_slice sl_list (pv 2) po_none (po_some (pe_ix (ixk_tup (K := K) rfl) (pv 3) pe_int (fun _ _ => rfl)))) (pe_op op_rep (pe_lst (pa_cons (pe_tup (pa_cons (pv 4) (pa_cons (pv 5) pa_nil))) pa_nil)) (pe_callTy call_int1 (by rfl) T.b_int (by decide +kernel) (pa_cons (pe_cmpR op_ne (pv 5) pe_int (nomark _)) pa_nil)))) (pe_slice sl_list (pv 2) (po_some (pe_op op_add (pe_ix (ixk_tup (K := K) rfl) (pv 3) pe_int (fun _ _ => rfl)) pe_int)) po_none)))
    (pss_one (ps_set (i := 3) nd rfl (.inl rfl) (pe_k (c__law_meet T F) hr (by decide) (by rfl) (pa_cons (pv 0) (pa_cons (pv 2) pa_nil)))))))))
    (pss_one (ps_ret (pv 2)))))), ?_⟩
    have K1 : ∀ {H2 : Hp}, Same H H2 → Dp K H2 (.ref a) (dField F) := fun s => Dp.tk (Tk.of s) _ (flat_field F) hF
    refine ⟨_, rfl, p, xs, rfl, hS, fun D hD0 => upd_gen hD0 fun H1 s1 e1 => ?_⟩
    have hD1 : Row2 K H1 D l := ⟨xs, e1, DpAll.tk (Tk.of s1) _ (flat_all_steps l) hV⟩
    obtain ⟨xs1, eD1, hV1⟩ := id hD1
    refine ⟨_, rfl, _, rfl, a, D, xs1, l, rfl, K1 s1, ok, .inl (SqL.of eD1), hV1, hN, hl, metV_of fun H2 z s2 hz => ?_⟩
    refine ⟨PileInv3 K F H a p l, ⟨_, D, l, z, none, none, rfl, rfl, s1.trans s2, hD1.same s2, hD0, hN, hZ, rfl, Nat.le_refl _, hz⟩, ?_⟩
    rintro m σ H3 ⟨D, l', z, y4, y5, rfl, rfl, s3, hD, hD0, hN', hZ', ea, hle, hz⟩
    refine ⟨_, rfl, rfl, _, rfl, ?_⟩
    cases hm : XM.met (OF F) l' with
    | none =>
      rw [hm] at hz
      have hz : z = .non := hz
      subst hz
      refine iteF ⟨_, rfl, q _ D l' s3 hD hD0 hN' hZ' (XM.met_pl.mp hm) ea hle⟩
    | some ij =>
      obtain ⟨i, j⟩ := ij
      rw [hm] at hz
      obtain ⟨t, rfl, ht⟩ := hz
      obtain ⟨nm, s, u, hi, hj, hij, hjl, hx⟩ := melt_step hm hZ' hN'
      obtain ⟨xs3, b1, q1, q2, q3⟩ := hD.get hi
      obtain ⟨xs4, b2, q4, q5, q6⟩ := hD.get hj
      refine iteT ⟨fun σ' H' => ∃ m', m' < l'.length ∧ PileInv3 K F H a p l m' σ' H', fun _ _ h => h, ?_⟩
      refine ⟨_, rfl, _, rfl, _, _, _, _, rfl, rfl, ht, rfl, _, _, _, _, rfl, rfl, q1, q2, _, _, _, _, rfl, rfl, q3, rfl, ?_⟩
      refine ⟨_, rfl, _, rfl, _, _, _, _, rfl, rfl, ht, rfl, _, _, _, _, rfl, rfl, q1, q2, _, _, _, _, rfl, rfl, q3, rfl, ?_⟩
      refine ⟨_, rfl, _, rfl, _, _, _, _, rfl, rfl, ht, rfl, _, _, _, _, rfl, rfl, q4, q5, _, _, _, _, rfl, rfl, q6, rfl, s, u, rfl, rfl, _, _, rfl, ?_⟩
      refine ⟨_, rfl, ?_⟩
      refine noPart ⟨_, rfl, _, _, _, _, rfl, rfl, ht, rfl, (j : Int), rfl, rowTake hD fun H4 p4 s4 n4 r4 => ?_⟩
      refine ⟨_, rfl, _, rfl, _, _, _, _, rfl, rfl, (Tk.of s4).sqT ht, rfl, _, _, rfl, rfl, ((j + 1 : Nat) : Int), rfl, ?_⟩
      refine noPart (rowDrop (hD.same s4) fun H5 p5 s5 n5 r5 => ?_)
      refine rowCat (r4.same s5) r5 (by rw [List.length_take, List.length_drop]; omega) fun H6 p6 s6 n6 r6 => ?_
      have s36 := (s4.trans s5).trans s6
      refine ⟨_, rfl, ?_⟩
      refine noPart ⟨_, rfl, _, _, _, _, rfl, rfl, (Tk.of s36).sqT ht, rfl, (i : Int), rfl, rowTake r6 fun H7 p7 s7 n7 r7 => ?_⟩
      refine ⟨_, rfl, _, rfl, two_sz, fun T hT => upd_gen hT fun H8 s8 e8 => ⟨one_sz, fun L hL => upd_gen hL fun H9 s9 e9 => ?_⟩⟩
      have rL : Row2 K H9 L [(nm, s + u)] := ⟨_, e9, .cons (Dp.of_step (s := (nm, s + u)) ((Tk.of s9).sqT (SqT.of e8))) .nil⟩
      have s79 := s8.trans s9
      refine ⟨_, rfl, rfl, .inr ⟨_, rfl, ?_⟩⟩
      obtain ⟨xsL, eL, vL⟩ := id rL
      obtain ⟨k, hk, k1, hkX⟩ : ∃ k : Nat, (if (!decide (V.int (s + u) = V.int 0)) = true then (1 : Int) else 0) = (k : Int) ∧ k ≤ 1 ∧ (if s + u = 0 then [] else [(nm, s + u)]) = (List.replicate k [(nm, s + u)]).flatten := by
        rw [dec_int]
        by_cases h0 : s + u = 0
        · exact ⟨0, by simp [h0], by omega, by rw [if_pos h0]; rfl⟩
        · exact ⟨1, by simp [h0], by omega, by rw [if_neg h0]; rfl⟩
      have lL := vL.len
      rw [List.length_map, List.length_singleton] at lL
      have lX : (if s + u = 0 then [] else [(nm, s + u)]).length ≤ 1 := by split <;> simp
      obtain ⟨f1, f2, f3, f4⟩ := hx _ rfl
      generalize (if s + u = 0 then [] else [(nm, s + u)]) = X at hkX lX f1 f2 f3 f4
      refine ⟨L, (k : Int), xsL, rfl, congrArg V.int hk, eL, by omega, by omega, Nat.le_trans (show xsL.length * (k : Int).toNat ≤ 1 * 1 from Nat.mul_le_mul (by omega) (by omega)) (by decide), fun p10 n10 => upd_gen n10 fun H10 s10 e10 => ?_⟩
      have rX : Row2 K H10 p10 X := ⟨_, e10, by
        rw [hkX, List.map_flatten, List.map_replicate]
        exact dp_rep (DpAll.tk (Tk.of s10) _ (flat_all_steps _) vL) _⟩
      have s710 := s79.trans s10
      refine rowCat (r7.same s710) rX (by rw [List.length_take, List.length_append, List.length_take, List.length_drop]; omega) fun H11 p11 s11 n11 r11 => ?_
      have s711 := s710.trans s11
      have s611 := s7.trans s711
      have s311 := s36.trans s611
      refine ⟨_, rfl, _, rfl, _, _, _, _, rfl, rfl, (Tk.of s311).sqT ht, rfl, _, _, rfl, rfl, ((i + 1 : Nat) : Int), rfl, ?_⟩
      refine noPart (rowDrop (r6.same s611) fun H12 p12 s12 n12 r12 => ?_)
      have s312 := s311.trans s12
      refine rowCat (r11.same s12) r12 (by simp only [List.length_take, List.length_append, List.length_drop]; omega) fun H13 p13 s13 n13 r13 => ?_
      have s313 := s312.trans s13
      rw [melt_eq hij hjl] at r13
      obtain ⟨xs13, e13, v13⟩ := id r13
      have n13 : H p13 = none := by
        cases e : H p13 with
        | none => rfl
        | some o =>
          rw [s312 _ _ (s3 _ _ e)] at n13
          cases n13
      refine ⟨_, rfl, _, rfl, a, p13, xs13, _, rfl, K1 (s3.trans s313), ok, .inl (SqL.of e13), v13, f2, by omega, metV_of fun H14 z s14 hz => ?_⟩
      exact ⟨_, f4, p13, _, z, _, _, rfl, rfl, (s3.trans s313).trans s14, r13.same s14, n13, f2, f1, f3.trans ea, by omega, hz⟩
end
end XB
set_option Elab.async false
set_option linter.all false
set_option maxRecDepth 100000
set_option maxHeartbeats 4000000
namespace XB
open PySem PySem.Spec PyProof.Rows L2
section
variable {P : Program} {w : World} {K : PySem.W.Frag} {mg : Str → Option Value} {base : Heap}
def spFirsts3 (K : PySem.W.Frag) (F : Fld) : Sp := fun vs H Q _ => ∃ (a p : Addr) (xs : List V) (l : List (Str × Int)), vs = [.ref a, .ref p] ∧ Dp K H (.ref a) (dField F) ∧ F.Ok ∧ SqX K H p xs ∧ DpAll K H xs (l.map dStep) ∧ Names F l ∧ l.length ≤ 200 ∧
  ∀ H' r, Same H H' → H' r = some (.lst ((firstsL F l l.length).map fun k => V.int (k : Nat))) → H r = none → Q (.ref r) H'
theorem c__law_firsts3 (T : Tx K mg) (F : Fld) : Cl P w K mg base CX0 2 "_law_firsts" (spFirsts3 K F) := by
  refine cl0 T.d__law_firsts (ps := ["field", "steps"]) (fun _ _ _ _ _ _ us hl => match us, hl with | [_, _], _ => rfl) sc__law_firsts (fun vs H Q E h => ?_) (fun f cdv A outer st H vs Q E hr h => ?_)
  · obtain ⟨a, p, xs, l, rfl, _⟩ := h
    rfl
  · obtain ⟨a, p, xs, l, rfl, hF, ok, hS, hD, hN, hl60, q⟩ := h
    have nd := sc__law_firsts.nd
    have hlx := hD.len
    rw [List.length_map] at hlx
    refine ⟨_, (pss_cons (ps_set (i := 2) nd rfl (.inl rfl) (pe_lst pa_nil))
    (pss_cons (ps_for PassesOwn.never rfl (pi_range1 (by rfl) T.b_range (pa_cons (pe_lenS (by rfl) T.b_len (pv 1)) pa_nil)) (pg_name (i := 3) nd rfl (.inr rfl))
    (pss_one (ps_if (pt_cmpR (op_eqD hr.units) (pe_lc (own := [("step", 4)]) (g := (gName 4)) (tt := _) (by rfl) nd (pi_row (pe_slice (slk_row (K := K) rfl) (pv 1) po_none (po_some (pv 3)))) (blkOk_by (own := [("step", 4)]) (N := ["field", "steps", "found", "k", "step"]) (sc := defScope s__law_firsts) (by decide +kernel)) (fun _ _ _ _ _ => (pg_name (i := 4) nd rfl (Or.inl rfl))) (fun _ _ _ _ _ => pts_one (pt_not (pt_val (pe_k (c__law_apart2 T F) hr (by decide) (by rfl) (pa_cons (pv 0) (pa_cons (pe_ix (ixk_tup (K := K) rfl) (pv 4) pe_int (fun _ _ => rfl)) (pa_cons (pe_ix (ixk_tup (K := K) rfl) (pe_ix (ixk_row (K := K) rfl) (pv 1) (pv 3) (fun _ _ => rfl)) pe_int (fun _ _ => rfl)) pa_nil))))))) (fun _ _ _ _ _ => (pv 4))) (pe_lst pa_nil) (nomark _)) (pss_one (ps_expr (pe_bm PySem.F.plainAttrs_list PySem.F.slot_list_append PySem.F.type_list_append mt_append (pv 2) (pa_cons (pv 3) pa_nil)))) pss_nil)))
    (pss_one (ps_ret (pv 2))))), ?_⟩
    refine ⟨by decide, fun D hD0 => upd_gen hD0 fun H1 s1 e1 => ?_⟩
    refine ⟨_, rfl, p, xs, rfl, hS.same s1, xs.length, rfl, by omega, by omega, ?_⟩
    refine for_range (lo := 0) (n := xs.length) (fun k σ H2 => ∃ (y3 y4 : Option V), σ = [some (.ref a), some (.ref p), some (.ref D), y3, y4] ∧ Same H H2 ∧ H2 D = some (.lst ((firstsL F l k).map fun k => V.int (k : Nat))))
      ⟨none, none, rfl, s1, e1⟩ (fun k σ H2 hk ⟨y3, y4, eσ, s2, eD⟩ => ?_) (fun σ H2 ⟨y3, y4, eσ, s2, eD⟩ => ?_)
    · subst eσ
      have hs : l[k]? = some l[k] := List.getElem?_eq_getElem (by omega)
      have ms := hN _ (List.mem_of_getElem? hs)
      generalize l[k] = s at hs ms
      obtain ⟨b, hb, cb⟩ := (DpAll.tk (Tk.of s2) _ (flat_all_steps l) hD).step hs
      rw [Int.zero_add]
      refine ⟨_, rfl, ?_⟩
      refine noPart ?_
      refine ⟨_, rfl, (k : Int), rfl, p, xs, rfl, hS.same s2, fun H3 r s3 hr3 => ?_⟩
      rw [cut_init] at hr3
      have hlk : (xs.take k).length = k := by
        rw [List.length_take]
        omega
      have hDk : DpAll K H (xs.take k) ((l.take k).map dStep) := by
        rw [List.map_take]
        exact hD.take k
      refine ⟨r, _, rfl, hr3, fun J G hG W => fun D2 hD2 => ?_⟩
      refine lc_it W (fun i H' => Row2 K H' D2 (((l.take k).take i).filter fun y => (OF F).tc y.1 s.1) ∧ Same H3 H') ⟨⟨[], upd_same, .nil⟩, same_upd hD2⟩ (fun _ _ _ ⟨_, s'⟩ => hG _ s') (fun i x H4 H5 hi ⟨⟨ys, eD2, hY⟩, s'⟩ hy => ?_) (fun H4 ⟨⟨ys, eD2, hY⟩, s'⟩ => ?_)
      · obtain ⟨rfl, hx⟩ := hy
        obtain ⟨dd, g1, p1⟩ := hDk.get hx
        rw [List.getElem?_map] at g1
        obtain ⟨y, k1, rfl⟩ := Option.map_eq_some_iff.mp g1
        obtain ⟨c, rfl, cc⟩ := p1.step
        have my : y.1 ∈ F.names := hN _ (List.mem_of_mem_take (List.mem_of_getElem? k1))
        have s5 := (s2.trans s3).trans s'
        have hly := hY.len
        rw [List.length_map] at hly
        have hlf := List.length_filter_le (fun y => (OF F).tc y.1 s.1) ((l.take k).take i)
        rw [List.length_take, List.length_take] at hlf
        refine ⟨rfl, _, rfl, _, rfl, _, _, _, _, rfl, rfl, (Tk.of s5).sqT cc, rfl, _, rfl, _, rfl, _, _, _, _, rfl, rfl, hS.same s5, at_of (j := k) rfl hb, _, _, _, _, rfl, rfl, (Tk.of (s3.trans s')).sqT cb, rfl, ?_⟩
        refine ⟨a, y.1, s.1, rfl, Dp.tk (Tk.of s5) _ (flat_field F) hF, ok, my, ms, fun H6 s6 => ⟨_, rfl, ?_⟩⟩
        rw [take_snoc k1, List.filter_append]
        have et := tc_eq ok y.1 s.1
        cases ha : apart F y.1 s.1
        · rw [ha] at et
          have et : (OF F).tc y.1 s.1 = true := et
          have eD6 := s6 _ _ eD2
          refine iteT ⟨_, rfl, ys, eD6, small1000 (by omega), ?_, same_put (s'.trans s6) hD2⟩
          refine ⟨_, upd_same, ?_⟩
          rw [show List.filter (fun y => (OF F).tc y.1 s.1) [y] = [y] by simp [et], List.map_append]
          have t6 : Tk H5 (upd H6 D2 (.lst (ys ++ [.ref c]))) := (Tk.of s6).lst eD6
          exact (DpAll.tk t6 _ (flat_all_steps _) hY).app (.cons (Dp.of_step (s := y) (t6.sqT ((Tk.of s5).sqT cc))) .nil)
        · rw [ha] at et
          have et : (OF F).tc y.1 s.1 = false := et
          refine iteF ⟨?_, s'.trans s6⟩
          refine ⟨ys, s6 _ _ eD2, ?_⟩
          rw [show List.filter (fun y => (OF F).tc y.1 s.1) [y] = [] by simp [et], List.append_nil]
          exact DpAll.tk (Tk.of s6) _ (flat_all_steps _) hY
      · rw [hlk, List.take_of_length_le (by rw [List.length_take]; omega)] at hY
        refine ⟨by decide, fun E hE => upd_gen hE fun H5 s6 eE => ?_⟩
        have s26 := (s2.trans s3).trans (s'.trans s6)
        have eDD := (s3.trans (s'.trans s6)) _ _ eD
        have hYE := DpAll.tk (Tk.of s6) _ (flat_all_steps _) hY
        refine ⟨.list (((l.take k).filter fun y : Str × Int => (OF F).tc y.1 s.1).map dStep), .list [], .lst (SqL.of (s6 _ _ eD2)) hYE, .lst (SqL.of eE) .nil, sh_steps (fun y hy => ok.sgn _ (hN y (List.mem_of_mem_take (List.mem_filter.mp hy).1))), rfl, _, rfl, ?_⟩
        rw [ne_steps, firsts_snoc]
        have ef : free1 F l k = ((l.take k).filter fun y => (OF F).tc y.1 s.1).isEmpty := by
          unfold free1
          rw [hs]
          show (l.take k).all _ = _
          rw [Bool.eq_iff_iff, List.all_eq_true, List.isEmpty_iff, List.filter_eq_nil_iff]
          simp
        rw [← ef]
        cases hfr : free1 F l k
        · refine iteF ⟨_, _, rfl, s26, ?_⟩
          rw [eDD, if_neg Bool.false_ne_true, List.append_nil]
        · refine iteT ⟨_, rfl, Or.inl ⟨rfl, _, SqL.of eDD⟩, _, rfl, D, _, _, rfl, rfl, eDD, ?_, ?_⟩
          · rw [List.length_map]
            have := firsts_len (F := F) (l := l) (n := k)
            exact small1000 (by omega)
          · refine ⟨_, _, rfl, same_put s26 hD0, ?_⟩
            rw [upd_same, if_pos rfl, List.map_append]
            rfl
    · subst eσ
      rw [hlx] at eD
      exact ⟨_, rfl, q _ D s2 eD hD0⟩
end
end XB
set_option Elab.async false
set_option linter.all false
set_option maxRecDepth 100000
set_option maxHeartbeats 4000000
/-! min of a list of alike data -/
namespace XB
open PySem PySem.Spec PyProof.Rows L2
theorem cr_minD {X : Cx} {K : PySem.W.Frag} (hk : X.K = K) (hc : X.calm = true) (hu : X.A.units + 65 < cLine) : CallR X (.builtin "min") (fun vs H Q => ∃ (a : Addr) (ys : List V) (x : PyData) (xs : List PyData), vs = [.ref a] ∧ SqL K H a ys ∧ DpAll K H ys (x :: xs) ∧ PySem.W.AlikeAll (x :: xs) ∧ PyData.depthAll (x :: xs) < 64 ∧
    ∀ (i : Nat) v, ys[i]? = some v → (x :: xs)[i]? = some (PySem.W.minD x xs) → Q v H) := by
  subst hk
  intro pins s σ H vs us Q I r h
  obtain ⟨a, ys, x, xs, rfl, hs, hD, ha, hdp, q⟩ := h
  obtain ⟨its, rv, hl, _⟩ := I.list hs
  rw [Vals.ref1 r]
  obtain ⟨as, rs⟩ := Dp.readsAll I (x :: xs) ys its hD rv
  refine PySem.W.min_list_data (I.ok.hd hc) hl.isList rs ha (by omega) fun i v h' tk bs hi r hk => ?_
  have hi' : its[i]? = some v := by simpa using hi
  obtain ⟨cs, r2, hlt, _, _⟩ := PySem.W.readsAll_at rs i v hi'
  have e := (PyProof.Rows.reads_det (fun b o e _ => hk b o e) r2 r).1
  have hyl : i < ys.length := by
    rw [rv.length]
    exact (List.getElem?_eq_some_iff.mp hi').1
  obtain ⟨u, h1, h2⟩ := Vals.get rv (List.getElem?_eq_getElem hyl)
  rw [hi'] at h1
  cases h1
  refine ⟨_, H, I.kept hk, h2, q i _ (List.getElem?_eq_getElem hyl) ?_⟩
  rw [e, List.getElem?_eq_getElem hlt, List.getD_eq_getElem?_getD, List.getElem?_eq_getElem hlt]
  rfl
theorem lt_step (a b : Str) (i j : Int) : PySem.W.dataLt (.tuple [.str a, .int i]) (.tuple [.str b, .int j]) = if a = b then decide (i < j) else sLt a b := by
  unfold PySem.W.dataLt
  have e : ∀ (a : Str) (i : Int), PySem.W.keyToks (.tuple [.str a, .int i]) = [.inl 1, .inr a.cps.toList, .inl 1, .inl i, .inl 0] := fun a i => by
    simp [PySem.W.keyToks, PySem.W.keyToksAll]
  rw [e, e, lex_self]
  by_cases h : a = b
  · rw [if_pos h, h, lex_self, lex_self]
    by_cases h2 : i = j
    · rw [h2, lex_self, lex_self]
      simp
      rfl
    · rw [lex_diff (O := itemOrd) (fun q => h2 (Sum.inl.inj q))]
      rfl
  · rw [if_neg h, lex_diff (O := itemOrd) (fun q => h (PySem.W.str_of_cps (Sum.inr.inj q)))]
    rfl
end XB
set_option Elab.async false
set_option linter.all false
set_option maxRecDepth 100000
set_option maxHeartbeats 4000000
namespace XB
open PySem PySem.Spec PyProof.Rows L2
/-- the least pile of steps -/
def lpile (F : Fld) (l : List (Str × Int)) : List (Str × Int) := (XM.act (OF F) l []).reverse
/-- what stands fast while the least pile is drawn from a pile -/
structure LJ (F : Fld) (l fl ll : List (Str × Int)) : Prop where
  srt : XM.Srt (OF F) fl ll
  pl : XM.pl (OF F) (fl ++ ll) = true
  nf : XM.NZ fl
  nl : XM.NZ ll
  act : XM.act (OF F) (fl ++ ll) [] = XM.act (OF F) l []
  nm : Names F ll
  len : fl.length + ll.length ≤ 200
theorem LJ.step {F : Fld} {l fl p q : List (Str × Int)} {s : Str × Int} (I : LJ F l fl (p ++ s :: q)) (L : XM.LeastFirst (OF F) p s q) : LJ F l (fl ++ [s]) (p ++ q) := by
  have zs : s.2 ≠ 0 := I.nl s (by simp)
  have zp : XM.NZ p := fun y hy => I.nl y (by simp [hy])
  have zq : XM.NZ q := fun y hy => I.nl y (by simp [hy])
  refine ⟨I.srt.step L, ?_, I.nf.app fun y hy => by rw [List.mem_singleton.mp hy]; exact zs, zp.app zq, ?_, fun y hy => I.nm y ?_, ?_⟩
  · rw [List.append_assoc, List.singleton_append, ← XM.pl_move L.free]
    exact I.pl
  · rw [List.append_assoc, List.singleton_append, ← XM.act_move L.free I.nf zp (show XM.NF (OF F) [] from trivial)]
    exact I.act
  · rw [List.mem_append] at hy
    rcases hy with h | h <;> simp [h]
  · have := I.len
    simp at this ⊢
    omega
theorem LJ.done {F : Fld} {l fl : List (Str × Int)} (I : LJ F l fl []) : lpile F l = fl := by
  have h := I.pl
  have nf : XM.NF (OF F) fl.reverse := XM.nf_of (left := []) _ fl rfl I.srt h I.nf
  have a := XM.act_fix nf
  rw [List.reverse_reverse] at a
  have := I.act
  rw [List.append_nil, a] at this
  unfold lpile
  rw [← this, List.reverse_reverse]
/-- the pair of a first piece -/
def pr (l : List (Str × Int)) (k : Nat) : Str × Int := (nm1 l k, (k : Int))
theorem min_mem {x : PyData} : ∀ {xs : List PyData}, PySem.W.minD x xs ∈ x :: xs
  | [] => List.mem_cons_self
  | y :: xs => by
    show PySem.W.minD (if PySem.W.dataLt y x then y else x) xs ∈ _
    have := min_mem (x := if PySem.W.dataLt y x then y else x) (xs := xs)
    rcases List.mem_cons.mp this with h | h
    · rw [h]
      split <;> simp
    · exact List.mem_cons_of_mem _ (List.mem_cons_of_mem _ h)
theorem min_steps {x : Str × Int} : ∀ {xs : List (Str × Int)}, ∃ m ∈ x :: xs, PySem.W.minD (dStep x) (xs.map dStep) = dStep m ∧ ∀ y ∈ x :: xs, y.1 = m.1 ∨ sLt m.1 y.1 = true
  | [] => ⟨x, List.mem_cons_self, rfl, fun y hy => .inl (by rw [List.mem_singleton.mp hy])⟩
  | y :: xs => by
    have hd : PySem.W.dataLt (dStep y) (dStep x) = if y.1 = x.1 then decide (y.2 < x.2) else sLt y.1 x.1 := lt_step y.1 x.1 y.2 x.2
    show ∃ m ∈ x :: y :: xs, PySem.W.minD (if PySem.W.dataLt (dStep y) (dStep x) then dStep y else dStep x) (xs.map dStep) = dStep m ∧ _
    by_cases h : PySem.W.dataLt (dStep y) (dStep x) = true
    · rw [if_pos h]
      obtain ⟨m, h1, h2, h3⟩ := min_steps (x := y) (xs := xs)
      refine ⟨m, List.mem_cons_of_mem _ h1, h2, fun z hz => ?_⟩
      rcases List.mem_cons.mp hz with e | hz
      · rw [e]
        rw [hd] at h
        have hy := h3 y List.mem_cons_self
        by_cases e2 : y.1 = x.1
        · rw [← e2]
          exact hy
        · rw [if_neg e2] at h
          rcases hy with q | q
          · right
            rw [← q]
            exact h
          · exact .inr (sLt_trans _ _ _ q h)
      · exact h3 z hz
    · rw [if_neg h]
      obtain ⟨m, h1, h2, h3⟩ := min_steps (x := x) (xs := xs)
      refine ⟨m, ?_, h2, fun z hz => ?_⟩
      · rcases List.mem_cons.mp h1 with q | q
        · rw [q]
          exact List.mem_cons_self
        · exact List.mem_cons_of_mem _ (List.mem_cons_of_mem _ q)
      · rcases List.mem_cons.mp hz with e | hz
        · rw [e]
          exact h3 x List.mem_cons_self
        · rcases List.mem_cons.mp hz with e | hz
          · rw [e]
            rw [hd] at h
            have hx := h3 x List.mem_cons_self
            by_cases e2 : y.1 = x.1
            · rw [e2]
              exact hx
            · rw [if_neg e2] at h
              have : sLt x.1 y.1 = true := sLt_tot _ _ (fun q => e2 q) (by simpa using h)
              rcases hx with q | q
              · right
                rw [← q]
                exact this
              · exact .inr (sLt_trans _ _ _ q this)
          · exact h3 z (List.mem_cons_of_mem _ hz)
theorem least_of {F : Fld} {l : List (Str × Int)} {k : Nat} (hk : k ∈ firstsL F l l.length) (hm : ∀ j ∈ firstsL F l l.length, nm1 l j = nm1 l k ∨ sLt (nm1 l k) (nm1 l j) = true) :
    ∃ s, l[k]? = some s ∧ l = l.take k ++ s :: l.drop (k + 1) ∧ XM.LeastFirst (OF F) (l.take k) s (l.drop (k + 1)) := by
  obtain ⟨s, hs, hf⟩ := firsts_at hk
  have e2 : l = l.take k ++ s :: l.drop (k + 1) := by
    rw [← drop_at hs, List.take_append_drop]
  refine ⟨s, hs, e2, hf, fun p' z q' e hp hz => ?_⟩
  rw [← e2] at e
  have hz' : l[p'.length]? = some z := by
    rw [e, List.getElem?_append_right (Nat.le_refl _), Nat.sub_self]
    rfl
  have m : p'.length ∈ firstsL F l l.length := by
    refine mem_firsts.mpr ⟨(List.getElem?_eq_some_iff.mp hz').1, ?_⟩
    unfold free1
    rw [hz']
    show (l.take p'.length).all _ = true
    rw [e, List.take_left' rfl, List.all_eq_true]
    intro w hw
    rw [hp w hw]
    rfl
  have := hm _ m
  rw [nm1_of hz', nm1_of hs] at this
  exact this.resolve_left hz
def LJInv3 (K : PySem.W.Frag) (F : Fld) (H : Hp) (a p : Addr) (l : List (Str × Int)) : Nat → L2.St → Hp → Prop := fun m σ H2 => ∃ (D E : Addr) (ll fl : List (Str × Int)) (y4 y5 : Option V), m = ll.length ∧ σ = [some (.ref a), some (.ref p), some (.ref D), some (.ref E), y4, y5] ∧ Same H H2 ∧
  Row2 K H2 D ll ∧ Dp K H2 (.ref E) (dSteps fl) ∧ LJ F l fl ll
section
variable {P : Program} {w : World} {K : PySem.W.Frag} {mg : Str → Option Value} {base : Heap}
def spLawLeast3 (K : PySem.W.Frag) (F : Fld) : Sp := fun vs H Q _ => ∃ (a p : Addr) (xs : List V) (l : List (Str × Int)), vs = [.ref a, .ref p] ∧ Dp K H (.ref a) (dField F) ∧ F.Ok ∧ SqX K H p xs ∧ DpAll K H xs (l.map dStep) ∧ Names F l ∧ XM.NZ l ∧ l.length ≤ 200 ∧
  ∀ H' r, Same H H' → Dp K H' (.ref r) (dSteps (lpile F l)) → Q (.ref r) H'
theorem c__law_least3 (T : Tx K mg) (F : Fld) : Cl P w K mg base CX0 4 "_law_least" (spLawLeast3 K F) := by
  refine cl0 T.d__law_least (ps := ["field", "steps"]) (fun _ _ _ _ _ _ us hl => match us, hl with | [_, _], _ => rfl) sc__law_least (fun vs H Q E h => ?_) (fun fa cdv A outer st H vs Q E hr h => ?_)
  · obtain ⟨a, p, xs, l, rfl, _⟩ := h
    rfl
  · obtain ⟨a, p, xs, l, rfl, hF, ok, hS, hV, hN, hZ, hl, q⟩ := h
    have nd := sc__law_least.nd
    have hu := u65 hr
    refine ⟨_, (pss_cons (ps_asg (pe_tup (pa_cons (pe_k (c__law_pile3 T F) hr (by decide) (by rfl) (pa_cons (pv 0) (pa_cons (pv 1) pa_nil))) (pa_cons (pe_tup pa_nil) pa_nil))) (pg_tup rfl (pgs_cons (pg_name (i := 2) nd rfl (.inr rfl)) (pgs_cons (pg_name (i := 3) nd rfl (.inl rfl)) pgs_nil))))
    (pss_cons (ps_while PassesOwn.never (pt_cmpR (op_neD hr.units) (pv 2) (pe_lst pa_nil) (nomark _))
    (pss_cons (ps_set (i := 4) nd rfl (.inl rfl) (pe_ix (ixk_tup (K := K) rfl) (pe_callB (cr_minD (K := K) rfl rfl hu) (by rfl) T.b_min (by decide +kernel) (pa_cons (pe_lc (own := [("far", 5)]) (g := (gName 5)) (tt := tYes) (by rfl) nd (pi_list (pe_k (c__law_firsts3 T F) hr (by decide) (by rfl) (pa_cons (pv 0) (pa_cons (pv 2) pa_nil)))) (blkOk_by (own := [("far", 5)]) (N := ["field", "steps", "left", "found", "k", "far"]) (sc := defScope s__law_least) (by decide +kernel)) (fun _ _ _ _ _ => (pg_name (i := 5) nd rfl (Or.inl rfl))) (fun _ _ _ _ _ => pts_nil) (fun _ _ _ _ _ => (pe_tup (pa_cons (pe_ix (ixk_tup (K := K) rfl) (pe_ix (ixk_list (K := K) rfl) (pv 2) (pv 5) (fun _ _ => rfl)) pe_int (fun _ _ => rfl)) (pa_cons (pv 5) pa_nil))))) pa_nil)) pe_int (fun _ _ => rfl)))
    (pss_one (ps_asg (pe_tup (pa_cons (pe_op (op_catAk (K := K) rfl) (pv 3) (pe_tup (pa_cons (pe_ix (ixk_list (K := K) rfl) (pv 2) (pv 4) (fun _ _ => rfl)) pa_nil))) (pa_cons (pe_op op_cat (pe_slice sl_list (pv 2) po_none (po_some (pv 4))) (pe_slice sl_list (pv 2) (po_some (pe_op op_add (pv 4) pe_int)) po_none)) pa_nil))) (pg_tup rfl (pgs_cons (pg_name (i := 3) nd rfl (.inl rfl)) (pgs_cons (pg_name (i := 2) nd rfl (.inr rfl)) pgs_nil)))))))
    (pss_one (ps_ret (pv 3))))), ?_⟩
    refine ⟨_, rfl, _, rfl, a, p, xs, l, rfl, hF, ok, hS, hV, hN, hZ, hl, fun H1 D f s1 hR hD0 nf zf pf af lf => ⟨Nat.zero_le _, fun E hE => upd_gen hE fun H2 s2 e2 => ⟨two_sz, fun TT hT => upd_gen hT fun H3 s3 e3 => ⟨TT, _, rfl, SqT.of e3, rfl, _, _, rfl, _, _, rfl, rfl, ?_⟩⟩⟩⟩
    have s13 := (s1.trans s2).trans s3
    refine ⟨LJInv3 K F H a p l, ⟨_, D, E, f, [], none, none, rfl, rfl, s13, hR.same (s2.trans s3), .tup ((Tk.of s3).sqT (SqT.of e2)) .nil, XM.Srt.nil _, pf, (fun _ h => nomatch h), zf, af, nf, by simp; omega⟩, ?_⟩
    rintro m σ H4 ⟨D, E, ll, fl, y4, y5, rfl, rfl, s4, hR, hE, I⟩
    refine ⟨_, rfl, Nat.zero_le _, fun p0 h0 => upd_gen h0 fun H5 s5 e5 => ?_⟩
    have s05 := s4.trans s5
    have hR5 := hR.same s5
    have hE5 := tS hE s5
    obtain ⟨xs5, eD5, hX⟩ := id hR5
    have lI := I.len
    refine ⟨.list (ll.map dStep), .list [], .lst (SqL.of eD5) hX, .lst (SqL.of e5) .nil, sh_steps (fun s hs => ok.sgn _ (I.nm s hs)), rfl, _, rfl, ?_⟩
    rw [ne_steps]
    by_cases hne : ll = []
    · subst hne
      refine iteF ⟨_, rfl, q _ E s05 ?_⟩
      rw [I.done]
      exact hE5
    · rw [show (!ll.isEmpty) = true by cases ll with | nil => exact absurd rfl hne | cons _ _ => rfl]
      refine iteT ⟨fun σ' H' => ∃ m', m' < ll.length ∧ LJInv3 K F H a p l m' σ' H', fun _ _ h => h, ?_⟩
      have hlen0 := firsts_len (F := F) (l := ll) (n := ll.length)
      refine ⟨_, rfl, _, rfl, a, D, xs5, ll, rfl, Dp.tk (Tk.of s05) _ (flat_field F) hF, ok, .inl (SqL.of eD5), hX, I.nm, by omega, fun H6 r1 s6 e6 h6 => ⟨r1, rfl, ⟨_, SqL.of e6⟩, fun D2 hD2 => ?_⟩⟩
      refine lc_it (walk_list (xs := (firstsL F ll ll.length).map fun k => V.int (k : Nat))) (fun i H' => Row2 K H' D2 (((firstsL F ll ll.length).take i).map (pr ll)) ∧ Same H6 H') ⟨⟨[], upd_same, .nil⟩, same_upd hD2⟩ (fun _ H' _ ⟨_, s'⟩ => SqL.of (s' _ _ e6)) (fun i x H7o H7 hi ⟨r7, s7⟩ hy => ?_) (fun H7 ⟨r7, s7⟩ => ?_)
      · obtain ⟨rfl, hx⟩ := hy
        rw [List.getElem?_map] at hx
        obtain ⟨k, hk, rfl⟩ := Option.map_eq_some_iff.mp hx
        obtain ⟨s, hs, _⟩ := firsts_at (List.mem_of_getElem? hk)
        obtain ⟨xs7, b, q1, q2, q3⟩ := (hR5.same (s6.trans s7)).get hs
        obtain ⟨ys, e7, hY⟩ := id r7
        have lY := hY.len
        rw [List.length_map, List.length_map, List.length_take] at lY
        refine ⟨rfl, yes_ ⟨_, rfl, _, rfl, _, _, _, _, rfl, rfl, q1, q2, _, _, _, _, rfl, rfl, q3, rfl, _, rfl, two_sz, fun T hT => upd_gen hT fun H8 s8 e8 => ⟨ys, s8 _ _ e7, small1000 (by omega), ⟨_, upd_same, ?_⟩, same_put (s7.trans s8) hD2⟩⟩⟩
        have t8 : Tk H8 (upd H8 D2 (.lst (ys ++ [.ref T]))) := Tk.refl.lst (s8 _ _ e7)
        rw [take_snoc hk, List.map_append, List.map_append]
        refine (DpAll.tk ((Tk.of s8).trans t8) _ (flat_all_steps _) hY).app (.cons (Dp.of_step (s := pr ll k) (t8.sqT ?_)) .nil)
        show SqT K H8 T [.str (nm1 ll k), .int (k : Int)]
        rw [nm1_of hs]
        exact SqT.of e8
      · rw [List.length_map, List.take_length] at r7
        obtain ⟨ys, e7, hY⟩ := id r7
        obtain ⟨k0, kr, ef⟩ : ∃ k0 kr, firstsL F ll ll.length = k0 :: kr := by
          cases e : firstsL F ll ll.length with
          | nil =>
            have := firsts_some (F := F) hne
            rw [e] at this
            cases this
          | cons x r => exact ⟨x, r, rfl⟩
        rw [ef, List.map_cons, List.map_cons] at hY
        obtain ⟨mm, m1, m2, m3⟩ := min_steps (x := pr ll k0) (xs := kr.map (pr ll))
        have mf : mm ∈ (firstsL F ll ll.length).map (pr ll) := by
          rw [ef, List.map_cons]
          exact m1
        obtain ⟨k, mk, rfl⟩ := List.mem_map.mp mf
        obtain ⟨s, hs, esp, hL⟩ := least_of mk fun j hj => by
          have : pr ll j ∈ pr ll k0 :: kr.map (pr ll) := by
            rw [← List.map_cons, ← ef]
            exact List.mem_map_of_mem hj
          exact m3 _ this
        have dep : ∀ {l : List (Str × Int)}, PyData.depthAll (l.map dStep) < 64 := fun {l} => by
          have := deep_steps l
          omega
        refine ⟨D2, ys, dStep (pr ll k0), (kr.map (pr ll)).map dStep, rfl, SqL.of e7, hY, ⟨fun x hx y hy => ?_, fun x hx => ?_⟩, by rw [← List.map_cons (f := dStep)]; exact dep, fun i v hv hm => ?_⟩
        · rw [← List.map_cons (f := dStep)] at hx hy
          obtain ⟨u, _, rfl⟩ := List.mem_map.mp hx
          obtain ⟨w, _, rfl⟩ := List.mem_map.mp hy
          rfl
        · rw [← List.map_cons (f := dStep)] at hx
          obtain ⟨u, _, rfl⟩ := List.mem_map.mp hx
          intro q
          cases q
        · obtain ⟨d, g1, p1⟩ := hY.get hv
          rw [hm, m2] at g1
          cases g1
          obtain ⟨b, rfl, cb⟩ := p1.step
          refine ix1 cb ?_
          have s07 := (s05.trans s6).trans s7
          have hR7 := hR5.same (s6.trans s7)
          have hE7 := tS hE5 (s6.trans s7)
          obtain ⟨xs8, c, q1, q2, q3⟩ := hR7.get hs
          have kl : k < ll.length := (mem_firsts.mp mk).1
          refine ⟨_, rfl, _, rfl, _, rfl, _, _, _, _, rfl, rfl, q1, q2, one_sz, fun T8 n8 => upd_gen n8 fun H8 s8 e8 => ?_⟩
          refine catD (m := [s]) (tS hE7 s8) (.tup (SqT.of e8) (.cons (Dp.of_step (s := s) ((Tk.of s8).sqT q3)) .nil)) (by rw [List.length_singleton]; omega) fun H9 p9 s9 h9 => ?_
          have s79 := s8.trans s9
          refine ⟨_, rfl, ?_⟩
          refine noPart ?_
          refine ⟨_, rfl, (k : Int), rfl, rowTake (hR7.same s79) fun H10 p10 s10 h10 r10 => ?_⟩
          have s710 := s79.trans s10
          refine ⟨_, rfl, _, rfl, _, _, rfl, rfl, ((k + 1 : Nat) : Int), rfl, ?_⟩
          refine noPart ?_
          refine rowDrop (hR7.same s710) fun H11 p11 s11 h11 r11 => ?_
          refine rowCat (r10.same s11) r11 (by rw [List.length_take, List.length_drop]; omega) fun H12 p12 s12 h12 r12 => ?_
          have s912 := (s10.trans s11).trans s12
          refine ⟨two_sz, fun T13 n13 => upd_gen n13 fun H13 s13 e13 => ⟨T13, _, rfl, SqT.of e13, rfl, _, _, rfl, _, _, rfl, rfl, ?_⟩⟩
          have I2 : LJ F l fl (ll.take k ++ s :: ll.drop (k + 1)) := by
            rw [← esp]
            exact I
          exact ⟨_, by rw [List.length_append, List.length_take, List.length_drop]; omega, p12, p9, _, _, _, _, rfl, rfl, (s07.trans s79).trans (s912.trans s13), r12.same s13, tS h9 (s912.trans s13), I2.step hL⟩
end
end XB
set_option Elab.async false
set_option linter.all false
set_option maxRecDepth 100000
set_option maxHeartbeats 4000000
namespace XB
open PySem PySem.Spec PyProof.Rows L2
section
variable {P : Program} {w : World} {K : PySem.W.Frag} {mg : Str → Option Value} {base : Heap}
def spLength3 (K : PySem.W.Frag) (F : Fld) : Sp := fun vs H Q _ => ∃ (a p : Addr) (xs : List V) (l : List (Str × Int)), vs = [.ref a, .ref p] ∧ Dp K H (.ref a) (dField F) ∧ F.Ok ∧ SqX K H p xs ∧ DpAll K H xs (l.map dStep) ∧ Names F l ∧ XM.NZ l ∧ l.length ≤ 200 ∧
  ∀ H', Same H H' → Q (.int (XM.ln (XM.act (OF F) l []) : Nat)) H'
theorem c__law_length3 (T : Tx K mg) (F : Fld) : Cl P w K mg base CX0 4 "_law_length" (spLength3 K F) := by
  refine cl0 T.d__law_length (ps := ["field", "steps"]) (fun _ _ _ _ _ _ us hl => match us, hl with | [_, _], _ => rfl) sc__law_length (fun vs H Q E h => ?_) (fun f cdv A outer st H vs Q E hr h => ?_)
  · obtain ⟨a, p, xs, l, rfl, _⟩ := h
    rfl
  · obtain ⟨a, p, xs, l, rfl, hF, ok, hS, hV, hN, hZ, hl, q⟩ := h
    have nd := sc__law_length.nd
    refine ⟨_, pss_one (ps_ret (pe_callB (cr_sum rfl) (by rfl) T.b_sum (by decide +kernel) (pa_cons (pe_lc (own := [("name", 2), ("times", 3)]) (g := gTup K 2 (gCons (gName 2) (gCons (gName 3) gNil))) (tt := tYes) (by rfl) nd (pi_list (pe_k (c__law_pile3 T F) hr (by decide) (by rfl) (pa_cons (pv 0) (pa_cons (pv 1) pa_nil))))
      (blkOk_by (own := [("name", 2), ("times", 3)]) (N := ["field", "steps", "name", "times"]) (sc := defScope s__law_length) (by decide +kernel))
      (fun _ _ _ _ _ => pg_tup rfl (pgs_cons (pg_name (i := 2) nd rfl (Or.inl rfl)) (pgs_cons (pg_name (i := 3) nd rfl (Or.inl rfl)) pgs_nil))) (fun _ _ _ _ _ => pts_nil)
      (fun _ _ _ _ _ => pe_callB call_abs (by rfl) T.b_abs (by decide +kernel) (pa_cons (pv 3) pa_nil))) pa_nil))), ?_⟩
    refine ⟨_, rfl, _, rfl, a, p, xs, l, rfl, hF, ok, hS, hV, hN, hZ, hl, fun H1 r f s1 hR hD0 nf zf pf af lf => ?_⟩
    obtain ⟨ys, eR, hY⟩ := hR
    have hly := hY.len
    rw [List.length_map] at hly
    refine ⟨r, rfl, ⟨_, SqL.of eR⟩, fun D hD => ?_⟩
    refine lc_it (walk_list (xs := ys)) (fun i H' => H' D = some (.lst ((((f.take i).map fun s => if s.2 < 0 then -s.2 else s.2)).map V.int)) ∧ Same H1 H') ⟨upd_same, same_upd hD⟩ (fun _ _ _ ⟨_, s'⟩ => SqL.of (s' _ _ eR)) (fun i x H2o H2 hi ⟨eD, s'⟩ hy => ?_) (fun H2 ⟨eD, s'⟩ => ?_)
    · obtain ⟨rfl, hx⟩ := hy
      obtain ⟨dd, g1, p1⟩ := hY.get hx
      rw [List.getElem?_map] at g1
      obtain ⟨s, k1, rfl⟩ := Option.map_eq_some_iff.mp g1
      obtain ⟨b, rfl, cb⟩ := p1.step
      refine ⟨b, _, rfl, (Tk.of s').sqT cb, rfl, _, _, rfl, _, _, rfl, rfl, rfl, yes_ ?_⟩
      refine ⟨_, rfl, s.2, rfl, _, eD, ?_, ?_, same_put s' hD⟩
      · rw [List.length_map, List.length_map, List.length_take]
        exact small1000 (by omega)
      · rw [upd_same, take_snoc k1, List.map_append, List.map_append]
        rfl
    · rw [hly, List.take_length] at eD
      refine ⟨D, _, rfl, SqL.of eD, ?_⟩
      have e : lenOf f = (XM.ln (XM.act (OF F) l []) : Nat) := by
        rw [len_ln, ← XM.ln_pile zf pf, af]
      have := q H2 (s1.trans s')
      rw [← e] at this
      exact this
def spFar (K : PySem.W.Frag) (F : Fld) : Sp := fun vs H Q _ => ∃ (a p r : Addr) (l m : List (Str × Int)), vs = [.ref a, .ref p, .ref r] ∧ Dp K H (.ref a) (dField F) ∧ F.Ok ∧ Dp K H (.ref p) (dSteps l) ∧ Dp K H (.ref r) (dSteps m) ∧ GoodAll F l ∧ GoodAll F m ∧ l.length + m.length ≤ 200 ∧
  ∀ H', Same H H' → Q (.int (XM.far (OF F) l m : Nat)) H'
theorem c__law_far (T : Tx K mg) (F : Fld) : Cl P w K mg base CX0 5 "_law_far" (spFar K F) := by
  refine cl0 T.d__law_far (ps := ["field", "one", "other"]) (fun _ _ _ _ _ _ us hl => match us, hl with | [_, _, _], _ => rfl) sc__law_far (fun vs H Q E h => ?_) (fun f cdv A outer st H vs Q E hr h => ?_)
  · obtain ⟨a, p, r, l, m, rfl, _⟩ := h
    rfl
  · obtain ⟨a, p, r, l, m, rfl, hF, ok, hL, hM, gl, gm, hl, q⟩ := h
    have nd := sc__law_far.nd
    refine ⟨_, (pss_one (ps_ret (pe_k (c__law_length3 T F) hr (by decide) (by rfl) (pa_cons (pv 0) (pa_cons (pe_op (op_catAk (K := K) rfl) (pe_k (c__law_back3 T) hr (by decide) (by rfl) (pa_cons (pv 1) pa_nil)) (pe_tupleOf (by rfl) T.b_tuple (pv 2))) pa_nil))))), ?_⟩
    obtain ⟨_, ys, e, hyS, hyV⟩ := id hM.steps
    cases e
    refine ⟨_, rfl, _, rfl, p, l, rfl, hL, by omega, fun H1 b s1 hb => ⟨_, rfl, ?_⟩⟩
    refine .inr ⟨r, ys, rfl, (Tk.of s1).sqT hyS, catD hb (tS hM s1) (by rw [len_back]; omega) fun H2 p2 s2 h2 => ?_⟩
    have s12 := s1.trans s2
    obtain ⟨_, zs, e, hzS, hzV⟩ := id h2.steps
    cases e
    exact ⟨a, p2, zs, _, rfl, tF hF s12, ok, .inr hzS, hzV, fun z hz => (List.mem_append.mp hz).elim (names_back gl.names z) (gm.names z), (XM.back_nz gl.nz).app gm.nz, by rw [List.length_append, len_back]; omega, fun H3 s3 => q H3 (s12.trans s3)⟩
end
end XB
set_option Elab.async false
set_option linter.all false
set_option maxRecDepth 100000
set_option maxHeartbeats 8000000
namespace XB
open PySem PySem.Spec PyProof.Rows L2
def F3 : Fld := ⟨ML.take 3, [("a", "b")]⟩
theorem ok3 : F3.Ok := fld_okM (by decide) (by decide) (by decide)
def Aa (n : Int) : Str × Int := ("a", n)
def Bb (n : Int) : Str × Int := ("b", n)
def Cc (n : Int) : Str × Int := ("c", n)
def goodS (F : Fld) (l : List (Str × Int)) : Bool := decide (l.length ≤ 60) && l.all fun s => F.names.contains s.1 && decide (s.2 ≠ 0) && decide (-(10 ^ 30) ≤ s.2) && decide (s.2 ≤ 10 ^ 30)
theorem good_s {F : Fld} {l : List (Str × Int)} (h : goodS F l = true) : GoodScript F l := by
  unfold goodS at h
  rw [Bool.and_eq_true, decide_eq_true_eq, List.all_eq_true] at h
  refine ⟨h.1, fun s hs => ?_⟩
  have := h.2 s hs
  simp only [Bool.and_eq_true, decide_eq_true_eq] at this
  exact ⟨List.contains_iff_mem.mp this.1.1.1, this.1.1.2, this.1.2, this.2⟩
theorem hand4 : XM.far (OF F3) [Aa 2, Cc 1] [Aa 3, Bb (-1), Cc 1] = 4 := by decide +kernel
theorem handT : decide (XM.far (OF F3) [Aa 1] [] + XM.far (OF F3) [] [Bb (10 ^ 30)] = XM.far (OF F3) [Aa 1] [Bb (10 ^ 30)]) = true := by decide +kernel
theorem handF : decide (XM.far (OF F3) [Aa 1] [] + XM.far (OF F3) [] [Aa 2] = XM.far (OF F3) [Aa 1] [Aa 2]) = false := by decide +kernel
def unit (s : Str × Int) : Str × Int := (s.1, XM.sg s.2)
theorem unit_good {F : Fld} {s : Str × Int} (h : s.1 ∈ F.names) : (unit s).1 ∈ F.names ∧ GoodTimes (unit s).2 := by
  refine ⟨h, ?_⟩
  show GoodTimes (XM.sg s.2)
  unfold XM.sg
  split <;> exact ⟨by decide, by decide, by decide⟩
theorem part_good {F : Fld} {l m : List (Str × Int)} (gl : GoodAll F l) (gm : GoodAll F m) : GoodAll F (((lpile F (XM.back l ++ m)).take 1).map unit) := fun s hs => by
  obtain ⟨x, hx, rfl⟩ := List.mem_map.mp hs
  refine unit_good ?_
  exact names_rev (names_act (F := F) (l := XM.back l ++ m) (r := []) (fun z hz => (List.mem_append.mp hz).elim (names_back gl.names z) (gm.names z)) (fun _ h => nomatch h)) x (List.mem_of_mem_take hx)
theorem far_unit {F : Fld} {l m : List (Str × Int)} (gl : GoodAll F l) (gm : GoodAll F m) : XM.far (OF F) l (l ++ ((lpile F (XM.back l ++ m)).take 1).map unit) + XM.far (OF F) (l ++ ((lpile F (XM.back l ++ m)).take 1).map unit) m = XM.far (OF F) l m := by
  cases h : lpile F (XM.back l ++ m) with
  | nil =>
    show XM.far (OF F) l (l ++ []) + XM.far (OF F) (l ++ []) m = _
    rw [List.append_nil, XM.far_self gl.nz, Nat.zero_add]
  | cons x w =>
    obtain ⟨h1, h2⟩ := XM.far_part (O := OF F) (a := x.1) (t := x.2) gl.nz gm.nz h
    show XM.far (OF F) l (l ++ [unit x]) + XM.far (OF F) (l ++ [unit x]) m = _
    have h1 : XM.far (OF F) l (l ++ [unit x]) = 1 := h1
    have h2 : XM.far (OF F) (l ++ [unit x]) m + 1 = XM.far (OF F) l m := h2
    omega
theorem ln_lt {F : Fld} : ∀ {l : List (Str × Int)}, GoodAll F l → XM.ln l ≤ l.length * 10 ^ 30
  | [], _ => Nat.le_refl _
  | s :: l, h => by
    have h1 := (h s List.mem_cons_self).2
    have := ln_lt (l := l) fun x hx => h x (List.mem_cons_of_mem _ hx)
    have e : XM.ln (s :: l) = s.2.natAbs + XM.ln l := rfl
    obtain ⟨_, a, b⟩ := h1
    rw [e, List.length_cons, Nat.add_mul]
    omega
theorem far_sz {F : Fld} {l m : List (Str × Int)} (gl : GoodAll F l) (gm : GoodAll F m) (h : l.length + m.length ≤ 60) : Sz (.int (XM.far (OF F) l m : Nat)) 0 := by
  refine sz_int ?_
  have h1 : XM.far (OF F) l m ≤ XM.ln (XM.back l ++ m) := XM.ln_act
  rw [XM.ln_app, XM.ln_back] at h1
  have h2 := ln_lt gl
  have h3 := ln_lt gm
  have h4 : l.length * 10 ^ 30 + m.length * 10 ^ 30 ≤ 60 * 10 ^ 30 := by
    rw [← Nat.add_mul]
    exact Nat.mul_le_mul_right _ h
  have h5 : 60 * 10 ^ 30 < 10 ^ 50 := by decide
  show ((XM.far (OF F) l m : Nat) : Int).natAbs < 10 ^ 50
  rw [Int.natAbs_natCast]
  omega
theorem flat_all (ls : List (List (Str × Int))) : flatAll (ls.map dSteps) = true := flatAll_of fun d hd => by
  obtain ⟨y, _, rfl⟩ := List.mem_map.mp hd
  exact flat_steps y
theorem int_eq (a b : Nat) : decide (V.int (a : Int) = V.int (b : Int)) = decide (a = b) := decide_eq_decide.mpr ⟨fun h => by injection h with h; omega, fun h => by rw [h]⟩
section
variable {P : Program} {w : World} {K : PySem.W.Frag} {mg : Str → Option Value} {base : Heap}
theorem fg_law (T : Tx K mg) {fl : Addr} {fd : FuncData} (FL : Fun K "law" "law" s_law fl fd) : FnG P w K mg base CX0 8 fl fd ["script"] (spLaw K) := by
  refine fg0 FL sc_law (fun vs H Q E h => sp_law_len h) (fun fa cdv A outer st H vs Q E hgu hr h => ?_)
  · obtain ⟨a, ns, rfl, hS, hl, q⟩ := h
    have nd := sc_law.nd
    have hu : (A.deeper (envOfC "law" (defScope s_law) st.heap.objs.size fa cdv)).units + 70 < cLine := by
      have := hr.un
      omega
    refine ⟨_, (pss_cons (ps_set (i := 1) nd rfl (.inr rfl) (pe_k (c_begun T) hr (by decide) (by rfl) (pa_cons (pv 0) pa_nil)))
    (pss_cons (ps_for PassesOwn.never rfl (pi_range1 (by rfl) T.b_range (pa_cons (pe_op op_add pe_int (pe_callB (call_min2 rfl) (by rfl) T.b_min (by decide +kernel) (pa_cons pe_int (pa_cons (pe_lenS (by rfl) T.b_len (pv 0)) pa_nil)))) pa_nil)) (pg_name (i := 2) nd rfl (.inl rfl))
    (pss_cons (ps_set (i := 3) nd rfl (.inr rfl) (pe_k (c__law_field3 T) hr (by decide) (by rfl) (pa_cons (pv 1) (pa_cons pe_int pa_nil))))
    (pss_cons (ps_asg (pe_lc (own := [("k", 12)]) (g := (gName 12)) (tt := tYes) (by rfl) nd (pi_range1 (by rfl) T.b_range (pa_cons pe_int pa_nil)) (blkOk_by (own := [("k", 12)]) (N := ["script", "m", "turn", "field", "one", "two", "three", "far", "near", "rest", "told_so", "part", "k", "name", "times"]) (sc := defScope s_law) (by decide +kernel)) (fun _ _ _ _ _ => (pg_name (i := 12) nd rfl (Or.inl rfl))) (fun _ _ _ _ _ => pts_nil) (fun _ _ _ _ _ => (pe_k (c__law_steps T) hr (by decide) (by rfl) (pa_cons (pv 1) (pa_cons (pv 3) (pa_cons pe_int (pa_cons pe_bl pa_nil))))))) (pg_unl rfl (pgs_cons (pg_name (i := 4) nd rfl (.inl rfl)) (pgs_cons (pg_name (i := 5) nd rfl (.inl rfl)) (pgs_cons (pg_name (i := 6) nd rfl (.inl rfl)) pgs_nil)))))
    (pss_cons (ps_par3 (i := 7) (j := 8) (l := 9) rfl nd rfl rfl rfl (by decide) (by decide) (by decide) rfl rfl rfl (pa_cons (pe_gF (fun F => (c__law_far T F).toG) hgu hr (by decide) (by rfl) (pa_cons (pv 3) (pa_cons (pv 4) (pa_cons (pv 5) pa_nil)))) (pa_cons (pe_gF (fun F => (c__law_far T F).toG) hgu hr (by decide) (by rfl) (pa_cons (pv 3) (pa_cons (pv 5) (pa_cons (pv 6) pa_nil)))) (pa_cons (pe_gF (fun F => (c__law_far T F).toG) hgu hr (by decide) (by rfl) (pa_cons (pv 3) (pa_cons (pv 4) (pa_cons (pv 6) pa_nil)))) pa_nil))) rfl)
    (pss_cons (ps_set (i := 10) nd rfl (.inl rfl) (pe_lst (pa_cons (pe_gF (fun F => (c_distance T F).toG) hgu hr (by decide) (by rfl) (pa_cons (pv 3) (pa_cons (pv 4) (pa_cons (pv 5) pa_nil)))) (pa_cons (pe_gF (fun F => (c_distance T F).toG) hgu hr (by decide) (by rfl) (pa_cons (pv 3) (pa_cons (pv 5) (pa_cons (pv 4) pa_nil)))) (pa_cons (pe_gF (fun F => (c_distance T F).toG) hgu hr (by decide) (by rfl) (pa_cons (pv 3) (pa_cons (pv 4) (pa_cons (pv 5) pa_nil)))) pa_nil)))))
    (pss_cons (ps_if (PW.pt (pw_or (pt_not (pt_val (pe_g (g__law_like T) hgu hr (by decide) (by rfl) (pa_cons (pv 10) (pa_cons (pe_lst (pa_cons (pv 7) (pa_cons (pv 7) (pa_cons (pv 7) pa_nil)))) pa_nil))))) (pw_or1 (pt_cmpR op_ne (pe_gF (fun F => (c_are_alike T F).toG) hgu hr (by decide) (by rfl) (pa_cons (pv 3) (pa_cons (pv 4) (pa_cons (pv 5) pa_nil)))) (pe_cmpR op_eq (pv 7) pe_int (nomark _)) (nomark _))))) pss_never pss_nil)
    (pss_cons (ps_if (pt_cmpR op_gt (pe_gF (fun F => (c_distance T F).toG) hgu hr (by decide) (by rfl) (pa_cons (pv 3) (pa_cons (pv 4) (pa_cons (pv 6) pa_nil)))) (pe_op op_add (pe_gF (fun F => (c_distance T F).toG) hgu hr (by decide) (by rfl) (pa_cons (pv 3) (pa_cons (pv 4) (pa_cons (pv 5) pa_nil)))) (pe_gF (fun F => (c_distance T F).toG) hgu hr (by decide) (by rfl) (pa_cons (pv 3) (pa_cons (pv 5) (pa_cons (pv 6) pa_nil))))) (nomark _)) pss_never pss_nil)
    (pss_cons (ps_if (PW.pt (pw_or (pt_cmpR op_ne (pe_gF (fun F => (c_distance T F).toG) hgu hr (by decide) (by rfl) (pa_cons (pv 3) (pa_cons (pe_op (op_catAk (K := K) rfl) (pv 6) (pv 4)) (pa_cons (pe_op (op_catAk (K := K) rfl) (pv 6) (pv 5)) pa_nil)))) (pv 7) (nomark _)) (pw_or1 (pt_cmpR op_ne (pe_gF (fun F => (c_distance T F).toG) hgu hr (by decide) (by rfl) (pa_cons (pv 3) (pa_cons (pv 4) (pa_cons (pv 4) pa_nil)))) pe_int (nomark _))))) pss_never pss_nil)
    (pss_cons (ps_if (PW.pt (pw_or (pt_cmpR op_ne (pe_gF (fun F => (c_is_between T F).toG) hgu hr (by decide) (by rfl) (pa_cons (pv 3) (pa_cons (pv 4) (pa_cons (pv 5) (pa_cons (pv 6) pa_nil))))) (pe_cmpR op_eq (pe_op op_add (pv 7) (pv 8)) (pv 9) (nomark _)) (nomark _)) (pw_or1 (pt_cmpR op_notBl (pe_gF (fun F => (c_is_between T F).toG) hgu hr (by decide) (by rfl) (pa_cons (pv 3) (pa_cons (pv 4) (pa_cons (pv 4) (pa_cons (pv 5) pa_nil))))) pe_bl (nomark _))))) pss_never pss_nil)
    (pss_cons (ps_if (pt_cmpR op_ne (pe_gF (fun F => (c_distance T F).toG) hgu hr (by decide) (by rfl) (pa_cons (pv 3) (pa_cons (pe_tup pa_nil) (pa_cons (pv 5) pa_nil)))) (pe_gF (fun F => (c__law_length3 T F).toG) hgu hr (by decide) (by rfl) (pa_cons (pv 3) (pa_cons (pv 5) pa_nil))) (nomark _)) pss_never pss_nil)
    (pss_cons (ps_set (i := 11) nd rfl (.inl rfl) (pe_slice sl_tupA (pe_gF (fun F => (c__law_least3 T F).toG) hgu hr (by decide) (by rfl) (pa_cons (pv 3) (pa_cons (pe_op (op_catAk (K := K) rfl) (pe_k (c__law_back3 T) hr (by decide) (by rfl) (pa_cons (pv 4) pa_nil)) (pv 5)) pa_nil))) po_none (po_some pe_int)))
    (pss_cons (ps_set (i := 11) nd rfl (.inl rfl) (pe_tupleOf (by rfl) T.b_tuple (pe_lc (own := [("name", 13), ("times", 14)]) (g := (gTup K 2 (gCons (gName 13) (gCons (gName 14) gNil)))) (tt := tYes) (by rfl) nd (pi_tup (pv 11)) (blkOk_by (own := [("name", 13), ("times", 14)]) (N := ["script", "m", "turn", "field", "one", "two", "three", "far", "near", "rest", "told_so", "part", "k", "name", "times"]) (sc := defScope s_law) (by decide +kernel)) (fun _ _ _ _ _ => (pg_tup rfl (pgs_cons (pg_name (i := 13) nd rfl (Or.inl rfl)) (pgs_cons (pg_name (i := 14) nd rfl (Or.inl rfl)) pgs_nil)))) (fun _ _ _ _ _ => pts_nil) (fun _ _ _ _ _ => (pe_tup (pa_cons (pv 13) (pa_cons (pe_ifExp (pt_cmpR op_gt (pv 14) pe_int (nomark _)) pe_int (pe_un un_neg pe_int)) pa_nil)))))))
    (pss_one (ps_if (PW.pt (pw_or (pt_not (pt_val (pe_gF (fun F => (c_is_between T F).toG) hgu hr (by decide) (by rfl) (pa_cons (pv 3) (pa_cons (pv 4) (pa_cons (pe_op (op_catAk (K := K) rfl) (pv 4) (pv 11)) (pa_cons (pv 5) pa_nil))))))) (pw_or1 (pt_not (pt_val (pe_gF (fun F => (c_is_between T F).toG) hgu hr (by decide) (by rfl) (pa_cons (pv 3) (pa_cons (pv 5) (pa_cons (pe_op (op_catAk (K := K) rfl) (pv 4) (pv 11)) (pa_cons (pv 4) pa_nil)))))))))) pss_never pss_nil))))))))))))))
    (pss_cons (ps_set (i := 3) nd rfl (.inr rfl) (pe_tup (pa_cons (pe_tup (pa_cons pe_str (pa_cons pe_str (pa_cons pe_str pa_nil)))) (pa_cons (pe_tup (pa_cons (pe_tup (pa_cons pe_str (pa_cons pe_str pa_nil))) pa_nil)) pa_nil))))
    (pss_cons (ps_if (pt_cmpR op_ne (pe_gF (fun F => (c_distance T F).toG) hgu hr (by decide) (by rfl) (pa_cons (pv 3) (pa_cons (pe_tup (pa_cons (pe_tup (pa_cons pe_str (pa_cons pe_int pa_nil))) (pa_cons (pe_tup (pa_cons pe_str (pa_cons pe_int pa_nil))) pa_nil))) (pa_cons (pe_tup (pa_cons (pe_tup (pa_cons pe_str (pa_cons pe_int pa_nil))) (pa_cons (pe_tup (pa_cons pe_str (pa_cons (pe_un un_neg pe_int) pa_nil))) (pa_cons (pe_tup (pa_cons pe_str (pa_cons pe_int pa_nil))) pa_nil)))) pa_nil)))) pe_int (nomark _)) pss_never pss_nil)
    (pss_cons (ps_if (pt_not (pt_val (pe_gF (fun F => (c_is_between T F).toG) hgu hr (by decide) (by rfl) (pa_cons (pv 3) (pa_cons (pe_tup (pa_cons (pe_tup (pa_cons pe_str (pa_cons pe_int pa_nil))) pa_nil)) (pa_cons (pe_tup pa_nil) (pa_cons (pe_tup (pa_cons (pe_tup (pa_cons pe_str (pa_cons (pe_op op_pow pe_int pe_int) pa_nil))) pa_nil)) pa_nil))))))) pss_never pss_nil)
    (pss_one (ps_ret (pe_not (pe_gF (fun F => (c_is_between T F).toG) hgu hr (by decide) (by rfl) (pa_cons (pv 3) (pa_cons (pe_tup (pa_cons (pe_tup (pa_cons pe_str (pa_cons pe_int pa_nil))) pa_nil)) (pa_cons (pe_tup pa_nil) (pa_cons (pe_tup (pa_cons (pe_tup (pa_cons pe_str (pa_cons pe_int pa_nil))) pa_nil)) pa_nil))))))))))))), ?_⟩
    have C30 : CPow 10 30 := ⟨by decide, by decide, by decide⟩
    refine ⟨_, rfl, a, ns, rfl, hS, hl, fun H1 m c g s1 _ _ _ R1 => ?_⟩
    have lns : (ns.map V.int).length = ns.length := List.length_map ..
    refine ⟨_, rfl, a, _, rfl, .inl (s1.seq hS), 8, _, rfl, 4, _, rfl, rfl, _, rfl, by split <;> omega, by split <;> omega, ?_⟩
    have hcnt : (4 + (if ((ns.map V.int).length : Int) < 8 then ((ns.map V.int).length : Int) else 8)).toNat ≤ 12 := by split <;> omega
    refine for_range (lo := 0) (n := _) (fun i σ H2 => ∃ (y2 y3 y4 y5 y6 y7 y8 y9 y10 y11 y12 y13 y14 : Option V) (s2 : Int), σ = [some (.ref a), some (.ref m), y2, y3, y4, y5, y6, y7, y8, y9, y10, y11, y12, y13, y14] ∧ Dr H2 m c g s2 ∧ s2 ≤ 120 * (i : Int))
      ⟨_, _, _, _, _, _, _, _, _, _, _, _, _, 0, rfl, R1, by omega⟩ (fun i σ H2 hi ⟨y2, y3, y4, y5, y6, y7, y8, y9, y10, y11, y12, y13, y14, s2, eσ, R2, hs2⟩ => ?_) (fun σ H2 ⟨y2, y3, y4, y5, y6, y7, y8, y9, y10, y11, y12, y13, y14, s2, eσ, R2, hs2⟩ => ?_)
    · subst eσ
      refine ⟨_, rfl, m, c, g, s2, 5, rfl, R2, by decide, by decide, by omega, fun H3 f F s3 R3 hs3 k3 hF3 ok => ?_⟩
      refine ⟨3, rfl, by decide, by decide, fun D hD => ?_⟩
      have nD := R3.nm hD
      refine lc_range (lo := 0) (n := 3) (fun j H' => ∃ (rs : List V) (ls : List (List (Str × Int))) (s' : Int), H' D = some (.lst rs) ∧ DpAll K H' rs (ls.map dSteps) ∧ (∀ l ∈ ls, GoodAll F l ∧ l.length ≤ 6) ∧ ls.length = j ∧ Dr H' m c g s' ∧ s' ≤ s3 + 25 * (j : Int) ∧ Tk H3 H')
        ⟨[], [], s3, upd_same, .nil, (fun _ h => nomatch h), rfl, R3.same (same_upd hD), by omega, Tk.of (same_upd hD)⟩ (fun j H4 hj ⟨rs, ls, s4, eD, hR, hg, hlj, R4, hs4, t4⟩ => ?_) (fun H4 ⟨rs, ls, s4, eD, hR, hg, hlj, R4, hs4, t4⟩ => ?_)
      · have lrs := hR.len
        rw [List.length_map] at lrs
        refine ⟨rfl, yes_ ⟨_, rfl, _, rfl, m, c, g, f, s4, 6, true, F, rfl, R4, Dp.tk t4 _ (flat_field F) hF3, ok, by decide, by decide, by omega, fun H5 r l s5 R5 hs5 k5 hL gL hl6 => ?_⟩⟩
        have eD5 := k5 _ _ nD.1 nD.2.2 eD
        have t5 := R4.tk k5
        have tP : Tk H5 (upd H5 D (.lst (rs ++ [.ref r]))) := Tk.refl.lst eD5
        refine ⟨rs, eD5, small1000 (by omega), rs ++ [.ref r], ls ++ [l], s5, upd_same, ?_, fun z hz => ?_, by rw [List.length_append, hlj]; rfl, R5.put nD, by omega, (t4.trans t5).trans tP⟩
        · rw [List.map_append]
          exact (DpAll.tk (t5.trans tP) _ (flat_all ls) hR).app (.cons (Dp.tk tP _ (flat_steps l) hL) .nil)
        · rcases List.mem_append.mp hz with h | h
          · exact hg z h
          · rw [List.mem_singleton.mp h]
            exact ⟨gL, by omega⟩
      · obtain ⟨l1, l2, l3, rfl⟩ : ∃ l1 l2 l3, ls = [l1, l2, l3] := by
          match ls, hlj with
          | [x, y, z], _ => exact ⟨x, y, z, rfl⟩
        obtain ⟨r1, r2, r3, rfl, h1, h2, h3⟩ : ∃ r1 r2 r3 : Addr, rs = [.ref r1, .ref r2, .ref r3] ∧ Dp K H4 (.ref r1) (dSteps l1) ∧ Dp K H4 (.ref r2) (dSteps l2) ∧ Dp K H4 (.ref r3) (dSteps l3) := by
          cases hR with
          | cons d1 hR =>
          cases hR with
          | cons d2 hR =>
          cases hR with
          | cons d3 hR =>
          cases hR
          obtain ⟨_, _, e1, _⟩ := id d1.steps
          obtain ⟨_, _, e2, _⟩ := id d2.steps
          obtain ⟨_, _, e3, _⟩ := id d3.steps
          subst e1 e2 e3
          exact ⟨_, _, _, rfl, d1, d2, d3⟩
        obtain ⟨g1, n1⟩ := hg l1 (by simp)
        obtain ⟨g2, n2⟩ := hg l2 (by simp)
        obtain ⟨g3, n3⟩ := hg l3 (by simp)
        have hF4 := Dp.tk t4 _ (flat_field F) hF3
        have gs1 : GoodScript F l1 := ⟨by omega, g1⟩
        have gs2 : GoodScript F l2 := ⟨by omega, g2⟩
        have gs3 : GoodScript F l3 := ⟨by omega, g3⟩
        clear hg hR hF3
        refine ⟨D, _, rfl, SqL.of eD, rfl, _, _, rfl, _, _, rfl, _, _, rfl, rfl, ?_⟩
        refine ⟨_, rfl, _, rfl, _, rfl, F, f, r1, r2, l1, l2, rfl, hF4, ok, h1, h2, g1, g2, by omega, fun H5 s5 => ?_⟩
        refine ⟨_, rfl, _, rfl, _, rfl, F, f, r2, r3, l2, l3, rfl, tF hF4 s5, ok, tS h2 s5, tS h3 s5, g2, g3, by omega, fun H6 s6 => ?_⟩
        have t46 := s5.trans s6
        refine ⟨_, rfl, _, rfl, _, rfl, F, f, r1, r3, l1, l3, rfl, tF hF4 t46, ok, tS h1 t46, tS h3 t46, g1, g3, by omega, fun H7 s7 => ⟨_, _, _, rfl, ?_⟩⟩
        have t47 := t46.trans s7
        have hF7 := tF hF4 t47
        have d1 := tS h1 t47
        have d2 := tS h2 t47
        have d3 := tS h3 t47
        have R7 := R4.same t47
        clear h1 h2 h3 hF4
        have z1 := g1.nz
        have z2 := g2.nz
        have z3 := g3.nz
        have fs : ∀ {H' : Hp} {x y : Addr} {u v : List (Str × Int)}, Same H7 H' → Dp K H' (.ref x) (dSteps u) → GoodScript F u → Dp K H' (.ref y) (dSteps v) → GoodScript F v → FS2 K F u v [.ref f, .ref x, .ref y] H' := fun s hu gu hv gv => ⟨f, _, _, rfl, tF hF7 s, ok, hu, gu, hv, gv⟩
        have fs3 : ∀ {H' : Hp} {x y z : Addr} {u v w : List (Str × Int)}, Same H7 H' → Dp K H' (.ref x) (dSteps u) → GoodScript F u → Dp K H' (.ref y) (dSteps v) → GoodScript F v → Dp K H' (.ref z) (dSteps w) → GoodScript F w → FS3 K F u v w [.ref f, .ref x, .ref y, .ref z] H' := fun s hu gu hv gv hw gw => ⟨f, _, _, _, rfl, tF hF7 s, ok, hu, gu, hv, gv, hw, gw⟩
        -- told_so
        refine ⟨_, rfl, _, rfl, _, rfl, F, l1, l2, fs (Same.refl _) d1 gs1 d2 gs2, fun H8 s8 => ?_⟩
        refine ⟨_, rfl, _, rfl, _, rfl, F, l2, l1, fs s8 (tS d2 s8) gs2 (tS d1 s8) gs1, fun H9 s9 => ?_⟩
        have s79 := s8.trans s9
        refine ⟨_, rfl, _, rfl, _, rfl, F, l1, l2, fs s79 (tS d1 s79) gs1 (tS d2 s79) gs2, fun H10 s10 => ⟨three_sz, fun L nL => upd_gen nL fun H11 s11 e11 => ?_⟩⟩
        rw [XM.far_symm z2 z1] at e11
        have s711 := (s79.trans s10).trans s11
        have szf := far_sz g1 g2 (by omega)
        have hzz : ∀ {H' : Hp} {p : Addr}, H' p = some (.lst [.int (XM.far (OF F) l1 l2 : Nat), .int (XM.far (OF F) l1 l2 : Nat), .int (XM.far (OF F) l1 l2 : Nat)]) → Dp K H' (.ref p) (.list [.int (XM.far (OF F) l1 l2 : Nat), .int (XM.far (OF F) l1 l2 : Nat), .int (XM.far (OF F) l1 l2 : Nat)]) := fun e => .lst (SqL.of e) (.cons (.int _) (.cons (.int _) (.cons (.int _) .nil)))
        refine ⟨_, rfl, _, rfl, _, rfl, _, rfl, three_sz, fun L2 nL2 => upd_gen nL2 fun H12 s12 e12 => ?_⟩
        have s712 := s711.trans s12
        refine ⟨.ref L, .ref L2, _, rfl, hzz (s12 _ _ e11), hzz e12, (SzA.cons szf (by simp [PyData.depth]) (SzA.cons szf (by simp [PyData.depth]) (SzA.cons szf (by simp [PyData.depth]) SzA.nil))).lst.mono (by decide), _, rfl, iteF ?_⟩
        refine ⟨_, rfl, _, rfl, _, rfl, F, l1, l2, fs s712 (tS d1 s712) gs1 (tS d2 s712) gs2, fun H13 s13 => ⟨_, rfl, rfl, rfl, _, rfl, ?_⟩⟩
        have s713 := s712.trans s13
        refine ite2 (fun h => absurd h ?_) (fun _ => ?_)
        · have e0 : decide (V.int ((XM.far (OF F) l1 l2 : Nat) : Int) = V.int 0) = decide (XM.act (OF F) l1 [] = XM.act (OF F) l2 []) := by
            rw [show (0 : Int) = ((0 : Nat) : Int) from rfl, int_eq]
            exact decide_eq_decide.mpr (XM.far_zero z1 z2)
          rw [e0]
          simp
        -- the third way round
        refine ⟨_, rfl, _, rfl, _, rfl, F, l1, l3, fs s713 (tS d1 s713) gs1 (tS d3 s713) gs3, fun H14 s14 => ?_⟩
        have s714 := s713.trans s14
        refine ⟨_, rfl, _, rfl, _, rfl, F, l1, l2, fs s714 (tS d1 s714) gs1 (tS d2 s714) gs2, fun H15 s15 => ?_⟩
        have s715 := s714.trans s15
        refine ⟨_, rfl, _, rfl, _, rfl, F, l2, l3, fs s715 (tS d2 s715) gs2 (tS d3 s715) gs3, fun H16 s16 => ⟨_, _, rfl, rfl, _, _, rfl, rfl, _, rfl, ?_⟩⟩
        have s716 := s715.trans s16
        refine ite2 (fun h => absurd (of_decide_eq_true h) ?_) (fun _ => ?_)
        · have := XM.far_tri (O := OF F) z1 z2 z3
          omega
        -- the same ahead of both
        refine ⟨_, rfl, _, rfl, _, rfl, catD (tS d3 s716) (tS d1 s716) (by omega) fun H17 p17 s17 h17 => ?_⟩
        refine ⟨_, rfl, _, rfl, catD (tS d3 (s716.trans s17)) (tS d2 (s716.trans s17)) (by omega) fun H18 p18 s18 h18 => ?_⟩
        have s718 := (s716.trans s17).trans s18
        refine ⟨F, _, _, fs s718 (tS h17 s18) ⟨by rw [List.length_append]; omega, g3.app g1⟩ h18 ⟨by rw [List.length_append]; omega, g3.app g2⟩, fun H19 s19 => ⟨_, rfl, rfl, _, rfl, ?_⟩⟩
        have s719 := s718.trans s19
        refine ite2 (fun h => absurd h ?_) (fun _ => ?_)
        · rw [XM.far_ahead z3 z1]
          simp
        refine ⟨_, rfl, _, rfl, _, rfl, F, l1, l1, fs s719 (tS d1 s719) gs1 (tS d1 s719) gs1, fun H20 s20 => ⟨rfl, _, rfl, ?_⟩⟩
        have s720 := s719.trans s20
        refine ite2 (fun h => absurd h ?_) (fun _ => ?_)
        · rw [XM.far_self z1]
          simp
        -- between
        refine ⟨_, rfl, _, rfl, _, rfl, _, rfl, F, l1, l2, l3, fs3 s720 (tS d1 s720) gs1 (tS d2 s720) gs2 (tS d3 s720) gs3, fun H21 s21 => ⟨_, rfl, _, rfl, _, _, rfl, rfl, _, rfl, rfl, rfl, _, rfl, ?_⟩⟩
        have s721 := s720.trans s21
        refine ite2 (fun h => absurd h ?_) (fun _ => ?_)
        · have e0 : decide (V.int ((XM.far (OF F) l1 l2 : Nat) + (XM.far (OF F) l2 l3 : Nat) : Int) = V.int (XM.far (OF F) l1 l3 : Nat)) = decide (XM.far (OF F) l1 l2 + XM.far (OF F) l2 l3 = XM.far (OF F) l1 l3) := decide_eq_decide.mpr ⟨fun h => by injection h with h; omega, fun h => by rw [← h]; rfl⟩
          rw [e0]
          simp
        refine ⟨_, rfl, _, rfl, _, rfl, _, rfl, F, l1, l1, l2, fs3 s721 (tS d1 s721) gs1 (tS d1 s721) gs1 (tS d2 s721) gs2, fun H22 s22 => ⟨_, _, rfl, rfl, _, rfl, ?_⟩⟩
        have s722 := s721.trans s22
        refine ite2 (fun h => absurd h ?_) (fun _ => ?_)
        · rw [XM.far_self z1]
          simp
        -- from the empty one
        refine ⟨_, rfl, Nat.zero_le _, fun p23 n23 => upd_gen n23 fun H23 s23 e23 => ⟨_, rfl, ?_⟩⟩
        have s723 := s722.trans s23
        refine ⟨F, [], l2, fs s723 (.tup (SqT.of e23) .nil) ⟨by decide, fun _ h => nomatch h⟩ (tS d2 s723) gs2, fun H24 s24 => ?_⟩
        have s724 := s723.trans s24
        obtain ⟨_, ys2, e2, hy2S, hy2V⟩ := id (tS d2 s724).steps
        cases e2
        refine ⟨_, rfl, _, rfl, F, f, _, ys2, l2, rfl, tF hF7 s724, ok, .inr hy2S, hy2V, g2.names, z2, by omega, fun H25 s25 => ⟨rfl, _, rfl, ?_⟩⟩
        have s725 := s724.trans s25
        refine ite2 (fun h => absurd h ?_) (fun _ => ?_)
        · rw [XM.far_nil]
          simp
        -- a part of the way
        refine ⟨_, rfl, _, rfl, _, l1, rfl, tS d1 s725, by omega, fun H26 b26 s26 h26 => ⟨_, rfl, catD h26 (tS d2 (s725.trans s26)) (by rw [len_back]; omega) fun H27 p27 s27 h27 => ?_⟩⟩
        have s727 := (s725.trans s26).trans s27
        obtain ⟨_, ys27, e27, hy27S, hy27V⟩ := id h27.steps
        cases e27
        refine ⟨F, f, _, ys27, _, rfl, tF hF7 s727, ok, .inr hy27S, hy27V, fun z hz => (List.mem_append.mp hz).elim (names_back g1.names z) (g2.names z), (XM.back_nz z1).app z2, by rw [List.length_append, len_back]; omega, fun H28 r28 s28 h28 => ?_⟩
        refine noPart ⟨((1 : Nat) : Int), rfl, slTo (k := 1) h28 fun H29 r29 s29 h29 => ?_⟩
        have s729 := (s727.trans s28).trans s29
        have gP := part_good g1 g2
        have fu := far_unit g1 g2
        have lP : ((lpile F (XM.back l1 ++ l2)).take 1).length ≤ 1 := by rw [List.length_take]; omega
        generalize (lpile F (XM.back l1 ++ l2)).take 1 = pt at h29 gP fu lP
        obtain ⟨_, ys29, e29, hy29S, hy29V⟩ := id h29.steps
        cases e29
        have l29 := hy29V.len
        rw [List.length_map] at l29
        refine ⟨_, rfl, r29, rfl, ⟨_, hy29S⟩, fun E hE => ?_⟩
        refine lc_it (walk_tup (xs := ys29)) (fun j H' => Row2 K H' E ((pt.take j).map unit) ∧ Same H29 H') ⟨⟨[], upd_same, .nil⟩, same_upd hE⟩ (fun _ _ _ ⟨_, s'⟩ => (Tk.of s').sqT hy29S) (fun j x H30o H30 hj ⟨⟨ys, eE, hY⟩, s30⟩ hy => ?_) (fun H30 ⟨⟨ys, eE, hY⟩, s30⟩ => ?_)
        · obtain ⟨rfl, hx⟩ := hy
          obtain ⟨dd, q1, p1⟩ := hy29V.get hx
          rw [List.getElem?_map] at q1
          obtain ⟨s, k1, rfl⟩ := Option.map_eq_some_iff.mp q1
          obtain ⟨b, rfl, cb⟩ := p1.step
          have lY := hY.len
          rw [List.length_map, List.length_map, List.length_take] at lY
          have fin : ∀ z : Int, z = XM.sg s.2 → ∀ {H' : Hp} {T : Addr}, Same H30 H' → H' T = some (.tup [.str s.1, .int z]) → ∃ acc, H' E = some (.lst acc) ∧ acc.length < sizeLine ∧ Row2 K (upd H' E (.lst (acc ++ [.ref T]))) E ((pt.take (j + 1)).map unit) ∧ Same H29 (upd H' E (.lst (acc ++ [.ref T]))) := fun z hz H' T s' e => by
            have eE' := s' _ _ eE
            refine ⟨ys, eE', small1000 (by omega), ⟨_, upd_same, ?_⟩, same_put (s30.trans s') hE⟩
            rw [take_snoc k1, List.map_append, List.map_append]
            have t' : Tk H30 (upd H' E (.lst (ys ++ [.ref T]))) := (Tk.of s').lst eE'
            refine (DpAll.tk t' _ (flat_all_steps _) hY).app (.cons (Dp.of_step (s := unit s) ((Tk.refl.lst eE').sqT ?_)) .nil)
            rw [hz] at e
            exact SqT.of e
          refine ⟨b, _, rfl, (Tk.of s30).sqT cb, rfl, _, _, rfl, _, _, rfl, rfl, rfl, yes_ ⟨_, rfl, _, rfl, _, _, rfl, rfl, _, rfl, ?_⟩⟩
          refine ite2 (fun h => ?_) (fun h => ?_)
          · have h : 0 < s.2 := of_decide_eq_true h
            exact ⟨two_sz, fun T nT => upd_gen nT fun H31 s31 e31 => fin 1 (by unfold XM.sg; rw [if_pos h]) s31 e31⟩
          · have h : ¬ 0 < s.2 := fun q => h (decide_eq_true q)
            exact ⟨_, rfl, two_sz, fun T nT => upd_gen nT fun H31 s31 e31 => fin (-1) (by unfold XM.sg; rw [if_neg h]) s31 e31⟩
        · rw [l29, List.take_length] at hY
          have s730 := s729.trans s30
          refine .inl ⟨E, ys, rfl, SqL.of eE, fun pT npT => upd_gen npT fun H31 s31 e31 => ?_⟩
          have s731 := s730.trans s31
          have hP : Dp K H31 (.ref pT) (dSteps (pt.map unit)) := .tup (SqT.of e31) (DpAll.tk (Tk.of s31) _ (flat_all_steps _) hY)
          have lU : (pt.map unit).length ≤ 1 := by rw [List.length_map]; exact lP
          have gsP : GoodScript F (l1 ++ pt.map unit) := ⟨by rw [List.length_append]; omega, g1.app gP⟩
          refine ⟨_, rfl, _, rfl, _, rfl, _, rfl, catD (tS d1 s731) hP (by omega) fun H32 p32 s32 h32 => ⟨_, rfl, ?_⟩⟩
          have s732 := s731.trans s32
          refine ⟨F, l1, _, l2, fs3 s732 (tS d1 s732) gs1 h32 gsP (tS d2 s732) gs2, fun H33 s33 => ⟨_, rfl, ?_⟩⟩
          have s733 := s732.trans s33
          rw [decide_eq_true fu]
          refine iteF ?_
          refine ⟨_, rfl, _, rfl, _, rfl, _, rfl, catD (tS d1 s733) (tS hP (s32.trans s33)) (by omega) fun H34 p34 s34 h34 => ⟨_, rfl, ?_⟩⟩
          have s734 := s733.trans s34
          refine ⟨F, l2, _, l1, fs3 s734 (tS d2 s734) gs2 h34 gsP (tS d1 s734) gs1, fun H35 s35 => ⟨_, rfl, ?_⟩⟩
          have fu2 : XM.far (OF F) l2 (l1 ++ pt.map unit) + XM.far (OF F) (l1 ++ pt.map unit) l1 = XM.far (OF F) l2 l1 := by
            rw [XM.far_symm z2 gsP.nz, XM.far_symm gsP.nz z1, XM.far_symm z2 z1, ← fu, Nat.add_comm]
          rw [decide_eq_true fu2]
          refine iteF ?_
          exact ⟨_, _, _, _, _, _, _, _, _, _, _, _, _, s4, rfl, R7.same (s734.trans s35), by omega⟩
    · subst eσ
      refine ⟨three_sz, fun n1 h1 => upd_gen h1 fun J1 j1 e1 => ⟨two_sz, fun n2 h2 => upd_gen h2 fun J2 j2 e2 => ⟨one_sz, fun n3 h3 => upd_gen h3 fun J3 j3 e3 => ⟨two_sz, fun n4 h4 => upd_gen h4 fun J4 j4 e4 => ?_⟩⟩⟩⟩
      have hF : Dp K J4 (.ref n4) (dField F3) := .tup (SqT.of e4) (.cons (.tup ((Tk.of (j2.trans (j3.trans j4))).sqT (SqT.of e1)) (.cons (.str _) (.cons (.str _) (.cons (.str _) .nil)))) (.cons (.tup ((Tk.of j4).sqT (SqT.of e3)) (.cons (.tup ((Tk.of (j3.trans j4)).sqT (SqT.of e2)) (.cons (.str _) (.cons (.str _) .nil))) .nil)) .nil))
      have st : ∀ {H' H'' : Hp} {p : Addr} {s : Str × Int}, Same H' H'' → H' p = some (.tup [.str s.1, .int s.2]) → Dp K H'' (.ref p) (dStep s) := fun s e => Dp.of_step ((Tk.of s).sqT (SqT.of e))
      refine ⟨_, rfl, two_sz, fun a1 k1 => upd_gen k1 fun L1 i1 f1 => ⟨two_sz, fun a2 k2 => upd_gen k2 fun L2 i2 f2 => ⟨two_sz, fun a3 k3 => upd_gen k3 fun L3 i3 f3 => ?_⟩⟩⟩
      refine ⟨two_sz, fun b1 k4 => upd_gen k4 fun L4 i4 f4 => ⟨_, rfl, two_sz, fun b2 k5 => upd_gen k5 fun L5 i5 f5 => ⟨two_sz, fun b3 k6 => upd_gen k6 fun L6 i6 f6 => ⟨three_sz, fun b4 k7 => upd_gen k7 fun L7 i7 f7 => ?_⟩⟩⟩⟩
      have i37 : Same L3 L7 := ((i4.trans i5).trans i6).trans i7
      have i07 : Same J4 L7 := ((i1.trans i2).trans i3).trans i37
      have gA : GoodScript F3 [Aa 2, Cc 1] := good_s (by decide +kernel)
      have gB : GoodScript F3 [Aa 3, Bb (-1), Cc 1] := good_s (by decide +kernel)
      refine ⟨F3, [Aa 2, Cc 1], [Aa 3, Bb (-1), Cc 1], ⟨n4, a3, b4, rfl, tF hF i07, ok3, .tup (SqT.of (i37 _ _ f3)) (.cons (st (s := Aa 2) (i2.trans (i3.trans i37)) f1) (.cons (st (s := Cc 1) (i3.trans i37) f2) .nil)), gA, .tup (SqT.of f7) (.cons (st (s := Aa 3) (i5.trans (i6.trans i7)) f4) (.cons (st (s := Bb (-1)) (i6.trans i7) f5) (.cons (st (s := Cc 1) i7 f6) .nil))), gB⟩, fun L8 i8 => ⟨rfl, _, rfl, ?_⟩⟩
      refine ite2 (fun h => absurd h ?_) (fun _ => ?_)
      · rw [hand4]
        simp
      have i08 := i07.trans i8
      refine ⟨_, rfl, two_sz, fun a1 k1 => upd_gen k1 fun M1 x1 f1 => ⟨one_sz, fun a2 k2 => upd_gen k2 fun M2 x2 f2 => ⟨Nat.zero_le _, fun a3 k3 => upd_gen k3 fun M3 x3 f3 => ?_⟩⟩⟩
      refine ⟨_, _, rfl, rfl, C30, two_sz, fun a4 k4 => upd_gen k4 fun M4 x4 f4 => ⟨one_sz, fun a5 k5 => upd_gen k5 fun M5 x5 f5 => ?_⟩⟩
      have x25 : Same M2 M5 := (x3.trans x4).trans x5
      have x05 : Same J4 M5 := i08.trans ((x1.trans x2).trans x25)
      have gE : GoodScript F3 [] := ⟨by decide, fun _ h => nomatch h⟩
      have g1 : GoodScript F3 [Aa 1] := good_s (by decide +kernel)
      have g3 : GoodScript F3 [Bb (10 ^ 30)] := good_s (by decide +kernel)
      have g2 : GoodScript F3 [Aa 2] := good_s (by decide +kernel)
      refine ⟨F3, [Aa 1], [], [Bb (10 ^ 30)], ⟨n4, a2, a3, a5, rfl, tF hF x05, ok3, .tup (SqT.of (x25 _ _ f2)) (.cons (st (s := Aa 1) (x2.trans x25) f1) .nil), g1, .tup (SqT.of ((x4.trans x5) _ _ f3)) .nil, gE, .tup (SqT.of f5) (.cons (st (s := Bb (10 ^ 30)) x5 f4) .nil), g3⟩, fun M6 x6 => ⟨_, rfl, ?_⟩⟩
      rw [handT]
      refine iteF ?_
      have x06 := x05.trans x6
      refine ⟨_, rfl, two_sz, fun a1 k1 => upd_gen k1 fun N1 y1 f1 => ⟨one_sz, fun a2 k2 => upd_gen k2 fun N2 y2 f2 => ⟨Nat.zero_le _, fun a3 k3 => upd_gen k3 fun N3 y3 f3 => ?_⟩⟩⟩
      refine ⟨two_sz, fun a4 k4 => upd_gen k4 fun N4 y4 f4 => ⟨one_sz, fun a5 k5 => upd_gen k5 fun N5 y5 f5 => ?_⟩⟩
      have y25 : Same N2 N5 := (y3.trans y4).trans y5
      have y05 : Same J4 N5 := x06.trans ((y1.trans y2).trans y25)
      refine ⟨F3, [Aa 1], [], [Aa 2], ⟨n4, a2, a3, a5, rfl, tF hF y05, ok3, .tup (SqT.of (y25 _ _ f2)) (.cons (st (s := Aa 1) (y2.trans y25) f1) .nil), g1, .tup (SqT.of ((y4.trans y5) _ _ f3)) .nil, gE, .tup (SqT.of f5) (.cons (st (s := Aa 2) y5 f4) .nil), g2⟩, fun N6 y6 => ?_⟩
      rw [handF]
      exact ⟨_, rfl, q _⟩
end
end XB
set_option Elab.async false
set_option linter.all false
set_option maxRecDepth 100000
set_option maxHeartbeats 4000000
/-! the head of a law whose promise holds where no repr runs around -/
namespace XB
open PySem PySem.Spec PyProof.Rows L2
section
variable {P : Program} {w : World} {K : PySem.W.Frag} {mg mb : Str → Option Value} {k : Nat} {fa a : Addr} {fd : FuncData} {x : Str} {sp : Sp} {st : Shared} {vs : List Value} {ns : List Int}
def scriptO (vs : List Value) : Obj := { cls := .type "list", data := .seq vs.toArray }
theorem end_g (kin : K.In st.heap) (gl : st.heap.Ns mainGlobals mg) (bl : st.heap.Ns builtinsNs mb) (bb : ∀ y : Str, y ≠ "__name__" → mb y = bootBuiltins y) (nl : st.heap.NoLimit) (ge : st.gens = #[])
    (at_ : st.heap.get? a = some (scriptO vs)) (whl : IntsAre vs ns) (short : ns.length ≤ sizeLine) (room : Room k callerA)
    (prom : ∀ base : Heap, K.In base → base.Ns mainGlobals mg → FnG P w K mg base CX0 k fa fd [x] sp) (bnd : ∀ (s : Shared) (u : Value), BindsTo s fd ⟨[u], []⟩ [(x, u)])
    (holds : ∀ H : Hp, SqL K H a (ns.map V.int) → sp [.ref a] H (fun v _ => v = .bl true) fun _ _ _ => False) :
    codeAny (model P w) callerA (.call (.ref fa) ⟨[.ref a], []⟩) (fun r t => r = .ok (.ret (.bool true)) ∧ OldK st.heap t.heap ∧ t.os = st.os ∧ AllBare t.gens) st := by
  have hv := vals_ints whl
  obtain ⟨G, hG⟩ : ∃ G : Hp, ∀ b, G b = if b = a ∧ (K.lookup a).isNone = true then some (.frz (scriptO vs) (.lst (ns.map V.int))) else none := ⟨fun b => if b = a ∧ (K.lookup a).isNone = true then _ else none, fun _ => rfl⟩
  have only : ∀ b u, G b = some u → b = a ∧ K.lookup a = none ∧ u = .frz (scriptO vs) (.lst (ns.map V.int)) := fun b u q => by
    rw [hG] at q
    by_cases c : b = a ∧ (K.lookup a).isNone = true
    · rw [if_pos c] at q
      exact ⟨c.1, by simpa using c.2, (Option.some.inj q).symm⟩
    · rw [if_neg c] at q
      cases q
  have row : SqL K G a (ns.map V.int) := by
    cases q : K.lookup a with
    | none => exact .inl (.inr ⟨scriptO vs, by rw [hG, if_pos ⟨rfl, by rw [q]; rfl⟩]⟩)
    | some o =>
      have q2 := kin a o q
      rw [at_] at q2
      have q3 : o = scriptO vs := (Option.some.inj q2).symm
      subst q3
      exact .inr ⟨_, vs.toArray, _, q, rfl, rfl, rfl, by rw [List.size_toArray, whl.length]; exact short, by simpa using hv⟩
  have sound : HOk P w G st.heap := fun b u q => by
    obtain ⟨rfl, _, rfl⟩ := only b u q
    exact ⟨at_, by rw [List.length_map]; exact short, vs, 0, hv, at_⟩
  have stays : ∀ {b : Addr} {o : Obj}, st.heap.get? b = some o → (b = a → o ≠ scriptO vs ∨ ∃ u, K.lookup a = some u) → (hidT st.heap G).get? b = some o := fun {b o} q c => by
    refine hidT_get q ?_
    cases g : G b with
    | none => rfl
    | some u =>
      obtain ⟨e1, e2, _⟩ := only b u g
      rcases c e1 with z | ⟨u', z⟩
      · rw [e1, at_] at q
        exact absurd (Option.some.inj q).symm z
      · rw [e2] at z
        cases z
  have names : ∀ {b : Addr} {f : Str → Option Value}, st.heap.Ns b f → (hidT st.heap G).Ns b f := fun {b f} h => by
    obtain ⟨o, es, ep, q, d, r⟩ := h
    refine ⟨o, es, ep, stays q fun _ => .inl fun z => ?_, d, r⟩
    rw [z] at d
    have d : Data.seq vs.toArray _ = Data.dict es ep := d
    cases d
  have kin' : K.In (hidT st.heap G) := fun b o q => stays (kin b o q) fun e => .inr ⟨o, by rw [← e]; exact q⟩
  have md : Mod K mg (hidT st.heap G) := ⟨kin', names gl, ⟨mb, names bl, bb⟩, by obtain ⟨mc, n1, n2⟩ := nl; exact ⟨mc, names n1, n2⟩⟩
  have none_in : ∀ {b : Addr}, b ∉ ([] : List Addr) := fun {b} z => by cases z
  have e0 : Env0 P w K mg (hidT st.heap G) callerA [] st G := { frames := rfl, mod := md, bs := fun _ _ q => of_hidT q, bsz := Nat.le_of_eq (hidT_size _ _), funs := trivial, frf := fun b z => absurd (show b ∈ ([] : List Addr) from z) none_in, hok := sound, bare := .of_eq ge }
  have ran := (prom _ kin' (names gl)).goes (A := callerA) (outer := []) (Q := fun v _ => v = .bl true) (E := fun _ _ _ => False) (args := ⟨[.ref a], []⟩) (us := [.ref a]) (vs := [.ref a]) rfl room e0 (bnd st (.ref a)) (.cons (show Value.ref a = Value.ref a from rfl) .nil) (holds G row)
  refine codeAny_mono ran ?_
  intro r t q
  match r, q with
  | .ok (.ret u), q =>
    obtain ⟨v, G', e1, e2, un, ok', rv, ev⟩ := q
    have ev : v = .bl true := ev
    subst ev
    have eu : u = Value.bool true := rv
    rw [eu]
    refine ⟨rfl, OldK.of_keep fun b o hb => ?_, e1, e2⟩
    cases g : G b with
    | none => exact un.keep b o hb g (fun z => absurd (show b ∈ ([] : List Addr) from z) none_in) none_in
    | some y =>
      obtain ⟨_, _, rfl⟩ := only b y g
      have c1 := (sound b _ g).1
      have c2 := (ok' b _ (un.frzs b _ _ g)).1
      rw [hb] at c1
      rw [c2, ← c1]
  | .ok .next, q => exact False.elim q
  | .ok .brk, q => exact False.elim q
  | .ok .cont, q => exact False.elim q
  | .error _, q => exact False.elim q
theorem walk_g {l : PySem.W.OpenLaw} {n k : Nat} {q : Program} {loose : List Str} {XP : (Str → Option Value) → Heap → Prop} {YP : World → Heap → Prop} {d : DefRec} {K : Params → PySem.W.Frag} {sp : PySem.W.Frag → Sp} {x : Str}
    (most : l.most = some n) (fits : n ≤ sizeLine) (plain : d.params.defaults = []) (room : Room k callerA) (inn : ∀ (w : World) (h : Heap), YP w h → (K w.params).In h)
    (prom : ∀ (w : World) (mg : Str → Option Value) (fa : Addr) (h : Heap), (K w.params).In h → h.Ns mainGlobals mg → mg d.name = some (.ref fa) →
      ∃ fd : FuncData, (∀ (s : Shared) (u : Value), BindsTo s fd ⟨[u], []⟩ [(x, u)]) ∧ ∀ base : Heap, (K w.params).In base → base.Ns mainGlobals mg → FnG l.prog w (K w.params) mg base CX0 k fa fd [x] (sp (K w.params)))
    (holds : ∀ (K : PySem.W.Frag) (H : Hp) (a : Addr) (ns : List Int), ns.length ≤ n → SqL K H a (ns.map V.int) → sp K [.ref a] H (fun v _ => v = .bl true) fun _ _ _ => False) : PySem.W.WalkO q loose XP YP l.row.toRowW d [] (fun f vs => PySem.call f vs) := by
  refine Att.attach_call most plain fun w s0 st mg mb fa o pm cd doc a vs ns gg y ho hd hcd hmg hobj hints hlen hgen => ?_
  have kin := inn w _ y
  obtain ⟨fd, b, pr⟩ := prom w mg fa _ kin gg.T.g hmg
  exact end_g kin gg.T.g gg.T.b gg.T.builtins gg.T.nolimit hgen hobj hints (Nat.le_trans hlen fits) room pr b fun H s => holds _ H a ns hlen s
/-- the same, with what the head tells of the globals beside the written part -/
theorem walk_gX {TX : (Str → Option Value) → Prop} {l : PySem.W.OpenLaw} {n k : Nat} {q : Program} {loose : List Str} {XP : (Str → Option Value) → Heap → Prop} {YP : World → Heap → Prop} {d : DefRec} {K : Params → PySem.W.Frag} {sp : PySem.W.Frag → Sp} {x : Str}
    (most : l.most = some n) (fits : n ≤ sizeLine) (plain : d.params.defaults = []) (room : Room k callerA) (told : ∀ (mg : Str → Option Value) (h : Heap), XP mg h → TX mg) (inn : ∀ (w : World) (h : Heap), YP w h → (K w.params).In h)
    (prom : ∀ (w : World) (mg : Str → Option Value) (fa : Addr) (h : Heap), (K w.params).In h → h.Ns mainGlobals mg → mg d.name = some (.ref fa) → TX mg →
      ∃ fd : FuncData, (∀ (s : Shared) (u : Value), BindsTo s fd ⟨[u], []⟩ [(x, u)]) ∧ ∀ base : Heap, (K w.params).In base → base.Ns mainGlobals mg → FnG l.prog w (K w.params) mg base CX0 k fa fd [x] (sp (K w.params)))
    (holds : ∀ (K : PySem.W.Frag) (H : Hp) (a : Addr) (ns : List Int), ns.length ≤ n → SqL K H a (ns.map V.int) → sp K [.ref a] H (fun v _ => v = .bl true) fun _ _ _ => False) : PySem.W.WalkO q loose XP YP l.row.toRowW d [] (fun f vs => PySem.call f vs) := by
  refine Att.attach_call most plain fun w s0 st mg mb fa o pm cd doc a vs ns gg y ho hd hcd hmg hobj hints hlen hgen => ?_
  have kin := inn w _ y
  obtain ⟨fd, b, pr⟩ := prom w mg fa _ kin gg.T.g hmg (told _ _ gg.X)
  exact end_g kin gg.T.g gg.T.b gg.T.builtins gg.T.nolimit hgen hobj hints (Nat.le_trans hlen fits) room pr b fun H s => holds _ H a ns hlen s
end
end XB
set_option Elab.async false
set_option linter.all false
set_option maxRecDepth 100000
namespace XB
open PySem PySem.Spec PyProof.Rows L2
theorem dn_mk {K : PySem.W.Frag} {h : Heap} {mg : Str → Option Value} {x : Str} {st : Stmt} {f : Addr} {oc : Value} {od an : Option Addr} {osl : Array (Option Value)} {kV doc pm cdv ct : Value} (X : K.In h) (G : h.Ns mainGlobals mg)
    (a : PySem.W.nsIn K mainGlobals x = some (some (.ref f))) (l : K.lookup f = some ⟨oc, od, .func (PySem.W.fnOf x x (defArgs st) (defBody st) (defScope st) .none kV doc pm an cdv ct), osl⟩)
    (c : PySem.W.codeIn K cdv x = true) (k : PySem.W.keepIn K (.ref f) = true) : Dn K mg x st := ⟨f, _, fun_mk l c k, PySem.W.mg_of X G a⟩
theorem int_mk {K : PySem.W.Frag} {h : Heap} {mg : Str → Option Value} {x : Str} {z n : Int} {t : Tok} (X : K.In h) (G : h.Ns mainGlobals mg) (a : PySem.W.nsIn K mainGlobals x = some (some (.int z t))) (e : z = n) : ∃ t, mg x = some (.int n t) :=
  ⟨t, by rw [← e]; exact PySem.W.mg_of X G a⟩
theorem loose_int {p : Program} {n : Str} {z : Int} {mg : Str → Option Value} {h : Heap} (x : PySem.W.XL p [(n, PySem.W.WData.int z)] mg h) : ∃ t, mg n = some (.int z t) := by
  obtain ⟨v, a, b⟩ := x.2.val _ List.mem_cons_self
  cases b
  exact ⟨_, a⟩
theorem law_mk {P : Program} {w : World} {K : PySem.W.Frag} {h : Heap} {mg : Str → Option Value} {fa f : Addr} {oc : Value} {od an : Option Addr} {osl : Array (Option Value)} {kV doc pm cdv ct : Value} (X : K.In h) (G : h.Ns mainGlobals mg) (hfa : mg "law" = some (.ref fa)) (T : Tx K mg)
    (a : PySem.W.nsIn K mainGlobals "law" = some (some (.ref f))) (l : K.lookup f = some ⟨oc, od, .func (PySem.W.fnOf "law" "law" (defArgs s_law) (defBody s_law) (defScope s_law) .none kV doc pm an cdv ct), osl⟩)
    (c : PySem.W.codeIn K cdv "law" = true) (k : PySem.W.keepIn K (.ref f) = true) :
    ∃ fd : FuncData, (∀ (s : Shared) (v : Value), BindsTo s fd ⟨[v], []⟩ [("script", v)]) ∧ ∀ base : Heap, K.In base → base.Ns mainGlobals mg → FnG P w K mg base CX0 8 fa fd ["script"] (spLaw K) := by
  have e := hfa.symm.trans (PySem.W.mg_of X G a)
  cases e
  exact ⟨_, fun s v => .of_eq rfl, fun base _ _ => fg_law T (fun_mk (st := s_law) l c k)⟩
end XB
open PySem PySem.W PyProof.Rows in
set_option maxRecDepth 100000 in
set_option maxHeartbeats 0 in
theorem PySem.Challenge.cw_deedpiles_k85_whole_distances_holds : PySem.Challenge.rw_deedpiles_k85_whole_distances.Holds := by
  w_on; o_law; k_head; (case hw => w_witness2)
  k_fill
  refine XB.walk_gX (TX := fun mg => (∃ t, mg "MOST_TIMES" = some (.int (10 ^ 30) t))) (l := PySem.Challenge.rw_deedpiles_k85_whole_distances) (n := 63) (k := 8) (x := "script") (sp := XB.spLaw) rfl (by decide) rfl ⟨rfl, by decide, by decide⟩ ?told (fun w h Y => PySem.W.kIn_of Y) ?F (fun _ _ a ns hl s => ⟨a, ns, rfl, s, Nat.le_trans hl (by decide), fun _ => rfl⟩)
  case told =>
    intro mg h x
    exact XB.loose_int x
  case F =>
    intro w mg fa h KX G hmg hMT
    refine' XB.law_mk KX G hmg ?T ?la ?ll ?lc ?lk
    case T =>
      constructor
      case b_ValueError =>
        refine' PySem.W.mg_none_of KX G ?z1a
        (case z1a => k_is)
      case b_abs =>
        refine' PySem.W.mg_none_of KX G ?z2a
        (case z2a => k_is)
      case b_all =>
        refine' PySem.W.mg_none_of KX G ?z3a
        (case z3a => k_is)
      case b_bool =>
        refine' PySem.W.mg_none_of KX G ?z4a
        (case z4a => k_is)
      case b_enumerate =>
        refine' PySem.W.mg_none_of KX G ?z5a
        (case z5a => k_is)
      case b_int =>
        refine' PySem.W.mg_none_of KX G ?z6a
        (case z6a => k_is)
      case b_isinstance =>
        refine' PySem.W.mg_none_of KX G ?z7a
        (case z7a => k_is)
      case b_len =>
        refine' PySem.W.mg_none_of KX G ?z8a
        (case z8a => k_is)
      case b_list =>
        refine' PySem.W.mg_none_of KX G ?z9a
        (case z9a => k_is)
      case b_max =>
        refine' PySem.W.mg_none_of KX G ?z10a
        (case z10a => k_is)
      case b_min =>
        refine' PySem.W.mg_none_of KX G ?z11a
        (case z11a => k_is)
      case b_range =>
        refine' PySem.W.mg_none_of KX G ?z12a
        (case z12a => k_is)
      case b_repr =>
        refine' PySem.W.mg_none_of KX G ?z13a
        (case z13a => k_is)
      case b_str =>
        refine' PySem.W.mg_none_of KX G ?z14a
        (case z14a => k_is)
      case b_sum =>
        refine' PySem.W.mg_none_of KX G ?z15a
        (case z15a => k_is)
      case b_tuple =>
        refine' PySem.W.mg_none_of KX G ?z16a
        (case z16a => k_is)
      case b_zip =>
        refine' PySem.W.mg_none_of KX G ?z17a
        (case z17a => k_is)
      case g_MOST_NAMES =>
        refine' XB.int_mk KX G ?z18a ?z18q
        (case z18a => k_is)
        (case z18q => rfl)
      case g_MOST_LETTERS =>
        refine' XB.int_mk KX G ?z19a ?z19q
        (case z19a => k_is)
        (case z19q => rfl)
      case g_MOST_STEPS =>
        refine' XB.int_mk KX G ?z20a ?z20q
        (case z20a => k_is)
        (case z20q => rfl)
      case g_MOST_TIMES => exact hMT
      case d_is_whole =>
        refine' XB.dn_mk KX G ?z22a ?z22l ?z22c ?z22k
        (case z22a => k_is)
        (case z22l => k_is)
        (case z22c => k_is)
        (case z22k => k_is)
      case d_is_pair =>
        refine' XB.dn_mk KX G ?z23a ?z23l ?z23c ?z23k
        (case z23a => k_is)
        (case z23l => k_is)
        (case z23c => k_is)
        (case z23k => k_is)
      case d_is_ascending =>
        refine' XB.dn_mk KX G ?z24a ?z24l ?z24c ?z24k
        (case z24a => k_is)
        (case z24l => k_is)
        (case z24c => k_is)
        (case z24k => k_is)
      case d_need_field =>
        refine' XB.dn_mk KX G ?z25a ?z25l ?z25c ?z25k
        (case z25a => k_is)
        (case z25l => k_is)
        (case z25c => k_is)
        (case z25k => k_is)
      case d_touch_table =>
        refine' XB.dn_mk KX G ?z26a ?z26l ?z26c ?z26k
        (case z26a => k_is)
        (case z26l => k_is)
        (case z26c => k_is)
        (case z26k => k_is)
      case d_names_touching =>
        refine' XB.dn_mk KX G ?z27a ?z27l ?z27c ?z27k
        (case z27a => k_is)
        (case z27l => k_is)
        (case z27c => k_is)
        (case z27k => k_is)
      case d_are_apart =>
        refine' XB.dn_mk KX G ?z28a ?z28l ?z28c ?z28k
        (case z28a => k_is)
        (case z28l => k_is)
        (case z28c => k_is)
        (case z28k => k_is)
      case d_are_names =>
        refine' XB.dn_mk KX G ?z29a ?z29l ?z29c ?z29k
        (case z29a => k_is)
        (case z29l => k_is)
        (case z29c => k_is)
        (case z29k => k_is)
      case d_is_name =>
        refine' XB.dn_mk KX G ?z30a ?z30l ?z30c ?z30k
        (case z30a => k_is)
        (case z30l => k_is)
        (case z30c => k_is)
        (case z30k => k_is)
      case d_are_pairs =>
        refine' XB.dn_mk KX G ?z31a ?z31l ?z31c ?z31k
        (case z31a => k_is)
        (case z31l => k_is)
        (case z31c => k_is)
        (case z31k => k_is)
      case d_is_pair_of =>
        refine' XB.dn_mk KX G ?z32a ?z32l ?z32c ?z32k
        (case z32a => k_is)
        (case z32l => k_is)
        (case z32c => k_is)
        (case z32k => k_is)
      case d_need_script =>
        refine' XB.dn_mk KX G ?z33a ?z33l ?z33c ?z33k
        (case z33a => k_is)
        (case z33l => k_is)
        (case z33c => k_is)
        (case z33k => k_is)
      case d_is_step =>
        refine' XB.dn_mk KX G ?z34a ?z34l ?z34c ?z34k
        (case z34a => k_is)
        (case z34l => k_is)
        (case z34c => k_is)
        (case z34k => k_is)
      case d_is_great_step =>
        refine' XB.dn_mk KX G ?z35a ?z35l ?z35c ?z35k
        (case z35a => k_is)
        (case z35l => k_is)
        (case z35c => k_is)
        (case z35k => k_is)
      case d_is_times =>
        refine' XB.dn_mk KX G ?z36a ?z36l ?z36c ?z36k
        (case z36a => k_is)
        (case z36l => k_is)
        (case z36c => k_is)
        (case z36k => k_is)
      case d_least_pile =>
        refine' XB.dn_mk KX G ?z37a ?z37l ?z37c ?z37k
        (case z37a => k_is)
        (case z37l => k_is)
        (case z37c => k_is)
        (case z37k => k_is)
      case d_are_alike =>
        refine' XB.dn_mk KX G ?z38a ?z38l ?z38c ?z38k
        (case z38a => k_is)
        (case z38l => k_is)
        (case z38c => k_is)
        (case z38k => k_is)
      case d_piled =>
        refine' XB.dn_mk KX G ?z39a ?z39l ?z39c ?z39k
        (case z39a => k_is)
        (case z39l => k_is)
        (case z39c => k_is)
        (case z39k => k_is)
      case d_last_touched =>
        refine' XB.dn_mk KX G ?z40a ?z40l ?z40c ?z40k
        (case z40a => k_is)
        (case z40l => k_is)
        (case z40c => k_is)
        (case z40k => k_is)
      case d_place_behind =>
        refine' XB.dn_mk KX G ?z41a ?z41l ?z41c ?z41k
        (case z41a => k_is)
        (case z41l => k_is)
        (case z41c => k_is)
        (case z41k => k_is)
      case d_length_of =>
        refine' XB.dn_mk KX G ?z42a ?z42l ?z42c ?z42k
        (case z42a => k_is)
        (case z42l => k_is)
        (case z42c => k_is)
        (case z42k => k_is)
      case d_back =>
        refine' XB.dn_mk KX G ?z43a ?z43l ?z43c ?z43k
        (case z43a => k_is)
        (case z43l => k_is)
        (case z43c => k_is)
        (case z43k => k_is)
      case d_distance =>
        refine' XB.dn_mk KX G ?z44a ?z44l ?z44c ?z44k
        (case z44a => k_is)
        (case z44l => k_is)
        (case z44c => k_is)
        (case z44k => k_is)
      case d_is_between =>
        refine' XB.dn_mk KX G ?z45a ?z45l ?z45c ?z45k
        (case z45a => k_is)
        (case z45l => k_is)
        (case z45c => k_is)
        (case z45k => k_is)
      case d_leading =>
        refine' XB.dn_mk KX G ?z46a ?z46l ?z46c ?z46k
        (case z46a => k_is)
        (case z46l => k_is)
        (case z46c => k_is)
        (case z46k => k_is)
      case d_distance_of =>
        refine' XB.dn_mk KX G ?z47a ?z47l ?z47c ?z47k
        (case z47a => k_is)
        (case z47l => k_is)
        (case z47c => k_is)
        (case z47k => k_is)
      case d__law_mixed =>
        refine' XB.dn_mk KX G ?z48a ?z48l ?z48c ?z48k
        (case z48a => k_is)
        (case z48l => k_is)
        (case z48c => k_is)
        (case z48k => k_is)
      case d__law_folded =>
        refine' XB.dn_mk KX G ?z49a ?z49l ?z49c ?z49k
        (case z49a => k_is)
        (case z49l => k_is)
        (case z49c => k_is)
        (case z49k => k_is)
      case d__law_draw =>
        refine' XB.dn_mk KX G ?z50a ?z50l ?z50c ?z50k
        (case z50a => k_is)
        (case z50l => k_is)
        (case z50c => k_is)
        (case z50k => k_is)
      case d__law_begun =>
        refine' XB.dn_mk KX G ?z51a ?z51l ?z51c ?z51k
        (case z51a => k_is)
        (case z51l => k_is)
        (case z51c => k_is)
        (case z51k => k_is)
      case d__law_like =>
        refine' XB.dn_mk KX G ?z52a ?z52l ?z52c ?z52k
        (case z52a => k_is)
        (case z52l => k_is)
        (case z52c => k_is)
        (case z52k => k_is)
      case d__law_field =>
        refine' XB.dn_mk KX G ?z53a ?z53l ?z53c ?z53k
        (case z53a => k_is)
        (case z53l => k_is)
        (case z53c => k_is)
        (case z53k => k_is)
      case d__law_steps =>
        refine' XB.dn_mk KX G ?z54a ?z54l ?z54c ?z54k
        (case z54a => k_is)
        (case z54l => k_is)
        (case z54c => k_is)
        (case z54k => k_is)
      case d__law_apart =>
        refine' XB.dn_mk KX G ?z55a ?z55l ?z55c ?z55k
        (case z55a => k_is)
        (case z55l => k_is)
        (case z55c => k_is)
        (case z55k => k_is)
      case d__law_meet =>
        refine' XB.dn_mk KX G ?z56a ?z56l ?z56c ?z56k
        (case z56a => k_is)
        (case z56l => k_is)
        (case z56c => k_is)
        (case z56k => k_is)
      case d__law_pile =>
        refine' XB.dn_mk KX G ?z57a ?z57l ?z57c ?z57k
        (case z57a => k_is)
        (case z57l => k_is)
        (case z57c => k_is)
        (case z57k => k_is)
      case d__law_firsts =>
        refine' XB.dn_mk KX G ?z58a ?z58l ?z58c ?z58k
        (case z58a => k_is)
        (case z58l => k_is)
        (case z58c => k_is)
        (case z58k => k_is)
      case d__law_least =>
        refine' XB.dn_mk KX G ?z59a ?z59l ?z59c ?z59k
        (case z59a => k_is)
        (case z59l => k_is)
        (case z59c => k_is)
        (case z59k => k_is)
      case d__law_back =>
        refine' XB.dn_mk KX G ?z60a ?z60l ?z60c ?z60k
        (case z60a => k_is)
        (case z60l => k_is)
        (case z60c => k_is)
        (case z60k => k_is)
      case d__law_length =>
        refine' XB.dn_mk KX G ?z61a ?z61l ?z61c ?z61k
        (case z61a => k_is)
        (case z61l => k_is)
        (case z61c => k_is)
        (case z61k => k_is)
      case d__law_far =>
        refine' XB.dn_mk KX G ?z62a ?z62l ?z62c ?z62k
        (case z62a => k_is)
        (case z62l => k_is)
        (case z62c => k_is)
        (case z62k => k_is)
      case d_law =>
        refine' XB.dn_mk KX G ?z63a ?z63l ?z63c ?z63k
        (case z63a => k_is)
        (case z63l => k_is)
        (case z63c => k_is)
        (case z63k => k_is)
    (case la => k_is)
    (case ll => k_is)
    (case lc => k_is)
    (case lk => k_is)
