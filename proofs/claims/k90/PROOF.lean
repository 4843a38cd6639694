import PyProof.Rows.All
import HandS.ForMost
import HandS.Wide
import HandS.Walk
import HandS.WordsExc
import HandS.Codes
import HandS.ExcInit
import KE.KExcInit
import PyProof.ExcBaseAll.OverflowError
import HandS.ExcField
import HandS.ExcIs
import HandS.IsInst
import KE.KExcIs
import HandS.ExcValue
import OpenK.KMeth
import HandS.Star
import PyProof.ReprRoads
import PyProof.CallFns
import HandS.TupLe
import HandS.Zip
import HandS.Deep
import HandS.DictComp
import HandS.TupAny
import KE.GoesMore
import KE.GoesEnum
import PyProof.EnumMake
import PyProof.Draws
import HandS.ExcOwn
import HandS.Lambda
import HandS.Conv
import HandS.Property
import HandS.Style
import KE.KRevSl
import HandS.TupMul
import HandS.Ends
import HandS.EndTab
import KE.KOpsOwn
import PySem.Challenge.RW_deedpiles_k90_whole_values
import HandS.More
import HandS.Flow
import HandS.Strs
import PyProof.ReprBulk
import KE.SortData
import PyProof.AutoSeq1
import HandS.Comp
import KE.DataMinMax
import HandS.NoneIn
set_option Elab.async false
set_option linter.all false
set_option maxRecDepth 100000
set_option maxHeartbeats 4000000
namespace XB
open PySem PySem.Spec PyProof.Rows L2
/-! ### defs of the text, called by their names -/
structure Cl (P : Program) (w : World) (K : PySem.W.Frag) (mg : Str → Option Value) (base : Heap) (CX : CXT) (k : Nat) (x : Str) (sp : Sp) : Prop where
  ex : ∃ (f : Addr) (fd : FuncData) (ps : List Str), FnOk P w K mg base CX k f fd ps sp ∧ mg x = some (.ref f) ∧ PySem.W.keepIn K (.ref f) = true ∧ Binds K fd ps []
/-- a def that stands in the module under its own name -/
structure Dn (K : PySem.W.Frag) (mg : Str → Option Value) (x : Str) (st : Stmt) : Prop where
  ex : ∃ (f : Addr) (fd : FuncData), Fun K x x st f fd ∧ mg x = some (.ref f)
section
variable {P : Program} {w : World} {K : PySem.W.Frag} {mg : Str → Option Value} {base : Heap}
theorem cl0 {x : Str} {st : Stmt} {N ps : List Str} {k : Nat} {sp : Sp} (D : Dn K mg x st)
    (hb : ∀ (kV doc pm : Value) (an : Option Addr) (cdv ct : Value) (us : List Value), us.length = ps.length → bindArgs (PySem.W.fnOf x x (defArgs st) (defBody st) (defScope st) .none kV doc pm an cdv ct) ⟨us, []⟩ = pure (ps.zip us))
    (S : FnScope N ps (defScope st)) (len : ∀ vs H Q E, sp vs H Q E → vs.length = ps.length)
    (hbody : ∀ (f : Addr) (cdv : Value) (A : Around) (outer : List Env) (s : Shared) (H : Hp) (vs : List V) (Q : VK) (E : XK), Room k (A.deeper (envOfC x (defScope st) s.heap.objs.size f cdv)) → sp vs H Q E →
      ∃ t, PSs (cxOf CX0 P w K mg base N x (defScope st) f cdv A outer s H E).nox (defBody st) t ∧ t { nx := fun _ H' => Q .non H', rt := Q } (start N vs) H) : Cl P w K mg base CX0 (k + 1) x sp := by
  obtain ⟨f, fd, F, hm⟩ := D.ex
  exact ⟨f, fd, ps, F.ok S len (fun cdv A outer s H vs Q E hr h => hbody f cdv A outer s H vs Q E hr h), hm, F.kp, F.binds hb⟩
end
section
variable {X : Cx} {k j : Nat} {x : Str} {sp : Sp} {p pos : Pos} {e : Expr} {es : List Expr} {t : TA}
theorem pe_k (c : Cl X.prog X.w X.K X.mg X.base CX0 k x sp) (hr : Room j X.A) (hk : k ≤ j) (hg : Gl X x) (ha : PA X (e :: es) t)
    (hdb : (x == ("__debug__" : Str)) = false := by decide) (he : starEach (e :: es) X.env = (false, eval e X.env) :: starEach es X.env := by rfl) (hpl : (backTo pos (starEach es X.env)).any (·.1) = false := by rfl) :
    PE X (.Call (.Name x p) (e :: es) [] pos) (tCall sp [] E0 t) := by
  obtain ⟨f, fd, ps, F, hm, kp, b⟩ := c.ex
  exact pe_call F (hr.mono hk) hg hm kp b .nil pass0 ha hdb he hpl
end
/-! ### heaps -/
theorem same_upd {H : Hp} {p : Addr} {o : HO} (h : H p = none) : Same H (upd H p o) := fun b x e => by
  rw [upd_ne (ne_of_none e h)]
  exact e
theorem Same.put {H H1 : Hp} {D : Addr} {o : HO} (s : Same H H1) (hD : H D = none) : Same H (upd H1 D o) := fun b x e => by
  rw [upd_ne (ne_of_none e hD)]
  exact s b x e
theorem Same.new {H H1 : Hp} {D : Addr} {o : HO} (s : Same H H1) (hD : H1 D = none) : Same H (upd H1 D o) := fun b x e => by
  rw [upd_ne (ne_of_none (s b x e) hD)]
  exact s b x e
theorem same_put {H H1 : Hp} {D : Addr} {o : HO} (s : Same H H1) (hD : H D = none) : Same H (upd H1 D o) := Same.put s hD
theorem same_new {H H1 : Hp} {D : Addr} {o : HO} (s : Same H H1) (hD : H1 D = none) : Same H (upd H1 D o) := Same.new s hD
theorem yes_ {σ : L2.St} {H : Hp} {A B : Hp → Prop} (h : A H) : tYes σ H (fun b H3 => if b = true then A H3 else B H3) := by
  show if true = true then A H else B H
  rw [if_pos rfl]
  exact h
/-- the int that stands at a place of a row of ints -/
theorem int_at {ns : List Int} {i : Nat} {x : V} (h : (ns.map V.int)[i]? = some x) : ∃ z, ns[i]? = some z ∧ x = V.int z := by
  rw [List.getElem?_map] at h
  cases e : ns[i]? with
  | none =>
    rw [e] at h
    cases h
  | some z =>
    rw [e] at h
    exact ⟨z, rfl, (Option.some.inj h).symm⟩
theorem str_at {ns : List Str} {i : Nat} {x : V} (h : (ns.map V.str)[i]? = some x) : ∃ z, ns[i]? = some z ∧ x = V.str z := by
  rw [List.getElem?_map] at h
  obtain ⟨z, e, rfl⟩ := Option.map_eq_some_iff.mp h
  exact ⟨z, e, rfl⟩
theorem map_set {xs : List Int} (k : Nat) (z : Int) : (xs.map V.int).set k (.int z) = (xs.set k z).map V.int := by
  rw [List.map_set]
theorem ixN_of {n : Nat} {z : Int} {k : Nat} (e : z = (k : Int)) (h : k < n) : ixN n z = some k := by
  unfold ixN
  rw [if_pos (by omega), if_pos (by omega), e]
  rfl
theorem atI_of {xs : List Int} {z : Int} {k : Nat} {v : Int} (e : z = (k : Int)) (h : xs[k]? = some v) : atI (xs.map V.int) z = some (V.int v) := by
  refine at_of e ?_
  rw [List.getElem?_map, h]
  rfl
end XB
set_option Elab.async false
set_option linter.all false
set_option maxRecDepth 100000
set_option maxHeartbeats 4000000
/-! own exceptions of another built-in class than ValueError -/
namespace PySem
namespace XOK
open Builtin Builtin.ObjectAttr HandSPX PySem.Spec PyProof.Rows
section
variable {prog : Program} {w : World} {A : Around} {E : Value → Shared → Prop} {R : Result → Shared → Prop} {hp : Heap} {g : Array GenState} {d : Drawn} {t : Nat} {os : OsState}
theorem osaG {K : W.Frag} {nm : Str} {tk : Tok} {y : Value} {a C : Addr} {fv : Array Value} {cd : ClassData} (KI : K.In hp) (ea : hp.get? a = some { cls := .ref C, data := .fields fv }) (ec : W.clsIn K C = some cd)
    (pa : ∀ self, refuseLoop self "__setattr__" cd.mro = pure ()) (ob : cd.mro.contains (.type "object") = true) (ne : cd.mro.isEmpty = false) (hd : cd.hasDict = true) (nf : W.findIn K (.ref C) nm = some none)
    (hq : ∀ h' tk' dx, (∀ b o, b ≠ a → hp.get? b = some o → h'.get? b = some o) → hp.objs.size ≤ dx → dx ≠ a → h'.get? a = some { cls := .ref C, dict := some dx, data := .fields fv } → h'.Ns1 dx (fun z => if z = nm then some y else none) → R (.ok (.ret .none)) ⟨h', g, d, tk', os⟩) :
    codeAny (model prog w) A (.call (.builtin "object.__setattr__") ⟨[.ref a, .str nm tk, y], []⟩) R ⟨hp, g, d, t, os⟩ := by
  have J : W.InstAt hp a { cls := .ref C, data := .fields fv } C none := ⟨ea, rfl, rfl, trivial⟩
  have ZF := F.store_object
  have nax : a ≠ hp.objs.size := Nat.ne_of_lt (Heap.lt_size ea)
  have isO : W.Looks (model prog w) hp (isInstance (.ref a) (.type "object")) true := J.type.andThen (W.looks_mroIn KI (by unfold W.mroIn; rw [ec, Option.bind_some, ne, if_neg (by decide), ob]))
  refine codeAny_call_builtin ZF.slot.plain ZF.entry ?_
  refine @W.check_slot (model prog w) _ _ ⟨hp, g, d, t, os⟩ "object.__setattr__" "object" "__setattr__" (.ref a) [.str nm tk, y] [] _ ZF.kind ZF.split isO (ZF.args (.ref a) (.str nm tk) y) ?_
  have lm : W.Looks (model prog w) hp (mroOf (.ref C)) cd.mro := (W.looks_clsIn KI ec).andThen .now
  have lt : W.Looks (model prog w) hp (storeTaker? none) none := .now
  have lc : W.Looks (model prog w) hp (classData C) cd := W.looks_clsIn KI ec
  rw [W.osa_eq, refuse_eq]
  refine wpAny_bind (wpAny_bind (J.type.at (wpAny_bind (lm.at ?_))))
  rw [pa]
  refine wpAny_pure (wpAny_bind (J.type.at (wpAny_bind ((W.looks_findIn KI nf).at (wpAny_bind (lt.at ?_))))))
  show wpAny _ _ (storeInOwnDict (.ref a) (.ref C) (.str nm tk) nm y false) _ _ _
  obtain ⟨c1, c2, c3, c4, c5, c6, c7, c8, c9, c10, c11⟩ := cd
  dsimp only at hd
  subst hd
  unfold storeInOwnDict ownDictForStores
  repeat (first | with_reducible refine store_in_new ?_ ?_ | with_reducible refine wpAny_loadPart_at ea ?_ | with_reducible refine lc.at ?_ | wp_step)
  · refine ⟨_, #[], _, (Heap.get?_update_ne _ _ _ _ nax.symm).trans (Heap.get?_push_at rfl rfl), rfl, fun e he => ?_, fun _ => rfl⟩
    exact absurd he (by simp)
  · intro h' tk' nd sb
    have e2 : (hp.push { cls := .type "dict", data := .dict #[] }).get? a = some { cls := .ref C, data := .fields fv } := Heap.get?_push_of_some _ ea
    refine hq h' tk' hp.objs.size (fun b o nb eb => ?_) (Nat.le_refl _) nax.symm ((sb.2 a nax).trans (Heap.get?_update_self _ e2 rfl)) nd
    exact (sb.2 b (Nat.ne_of_lt (Heap.lt_size eb))).trans ((Heap.get?_update_ne _ _ _ _ nb).trans (Heap.get?_push_of_some _ eb))
end
end XOK
end PySem
namespace XB
open PySem PySem.Spec PyProof.Rows L2
/-- what the written part says of an own class of some built-in exception -/
structure OexG (K : PySem.W.Frag) (C : Addr) : Prop where
  cls : ∃ nm q N bs bm sn sub ab col dd k0 k1 k2 k3 k5, ∃ (B newId initId : String) (bmB : List Value), K.lookup C = some (excClassObj nm q C N bs bm true sn sub ab col dd k0 k1 k2 k3 k5 newId) ∧ ExcBaseFacts B newId initId bmB ∧ (∀ Y : String, bm.contains (.type Y) = bmB.contains (.type Y)) ∧
    (∀ self, PySem.refuseLoop self "__setattr__" (.ref C :: bm) = pure ()) ∧ (Value.ref C :: bm).contains (.type "object") = true
  sa : PySem.W.findIn K (.ref C) "__setattr__" = some (some (.builtin "object.__setattr__"))
  exC : PySem.W.subIn K (.ref C) (.type "BaseException") = some true
  tyC : PySem.W.typeIn K (.ref C) = some (.type "type")
  kC : PySem.W.keepIn K (.ref C) = true
section
variable {X : Cx} {pins : List (Addr × Obj)} {σ : L2.St} {H : Hp} {s : Shared} {a C : Addr} {f : Str} {y : V} {u : Value} {Q : Unit → Shared → Prop} {E : Value → Shared → Prop} {A : Around}
theorem ostG (T : OexG X.K C) (I : Inv X pins σ H s) (e : H a = some (exo a C none)) (nf : PySem.W.findIn X.K (.ref C) f = some none) (ry : RelV y u)
    (h : ∀ dx s', H dx = none → dx ≠ a → Inv X pins σ (upd (upd H dx (exd dx [(f, y)])) a (exo a C (some dx))) s' → Q () s') : wpAny (model X.prog X.w) A (setAttr (.ref a) f u) Q E s := by
  obtain ⟨nm, q, N, bs, bm, sn, sub, ab, col, dd, k0, k1, k2, k3, k5, B, ni, ii, bmB, hC, hF, hT, hp, hob⟩ := T.cls
  have ec : PySem.W.clsIn X.K C = some { name := nm, bases := bs, mro := .ref C :: bm, ns := N, qualname := q, hasDict := true, slotNames := sn, subclasses := sub, abstract := ab, collection := col, hasDel := false } := by
    unfold PySem.W.clsIn
    rw [hC] <;> rfl
  obtain ⟨t1, ho⟩ := exo_at I.hok e
  obtain ⟨hh, g, dr, tk, os⟩ := s
  refine PySem.W.set_plain I.kIn (od := none) (ox := { cls := .ref C, dict := none, data := .fields #[.ref t1, .none, .none, .none, .bool false, .none] }) ⟨ho, rfl, rfl, trivial⟩ T.sa ?_
  refine PySem.XOK.osaG I.kIn ho ec hp hob rfl rfl nf fun h' tk' dx kp le ne ex ns => ?_
  have fr : H dx = none := I.hok.fresh le
  have nd : ∀ {b : Addr} {o : Obj}, hh.get? b = some o → b ≠ dx := fun {b o} z e0 => by
    have w := Heap.lt_size z
    rw [e0] at w
    exact absurd w (Nat.not_lt.mpr le)
  have na : ∀ {b : Addr}, H b = none → b ≠ a := fun {b} n z => by
    rw [z, e] at n
    cases n
  have U : Un X.fs [] H (upd (upd H dx (exd dx [(f, y)])) a (exo a C (some dx))) hh h' := by
    refine ⟨fun b o z n _ _ => kp b o (na n) z, fun b o z n _ _ => ⟨o.slots, kp b o (na n) z⟩, fun b o z n _ => ?_, fun b o z _ => ?_, fun b xs z => ?_, fun b o v z => ?_, fun b ps z => ⟨#[], ?_⟩⟩
    · rw [upd_ne (na n), upd_ne (nd z), n]
    · by_cases hb : b = a
      · rw [hb]
        exact ⟨_, ex⟩
      · exact ⟨o, kp b o hb z⟩
    · rw [upd_ne (at_ne e z exo_tup), upd_ne (ne_of_none z fr), z]
    · rw [upd_ne (at_ne e z exo_frz), upd_ne (ne_of_none z fr), z]
    · rw [upd_ne (at_ne e z exo_tbl), upd_ne (ne_of_none z fr), z, Array.append_empty]
  refine h dx _ fr ne (I.un (t' := tk') U fun b o z => ?_)
  by_cases hb : b = a
  · subst hb
    rw [upd_same] at z
    cases z
    exact exo_ok ex
  · rw [upd_ne hb] at z
    by_cases hd : b = dx
    · subst hd
      rw [upd_same] at z
      cases z
      exact exd_ok ns (relO_put (fs := []) ry fun _ => True.intro)
    · rw [upd_ne hd] at z
      refine (I.hok b o z).stay (fun c v hc w => kp c v ?_ w) (fun c hc => ?_) (fun c xs hc => ?_)
      · rcases hc with hc | hc
        · rwa [hc]
        · exact at_ne e hc exo_own
      · rw [upd_ne (at_ne e hc exo_own), upd_ne (ne_of_none hc fr), hc]
      · rw [upd_ne (at_ne e hc exo_tup), upd_ne (ne_of_none hc fr), hc]
end
/-- self.f = e, the first field -/
def tOsG (K : PySem.W.Frag) (f : Str) (to te : TE) : TS := fun D σ H => te σ H fun y H1 => to σ H1 fun x H2 => ∃ a C : Addr, x = .ref a ∧ OexG K C ∧ PySem.W.findIn K (.ref C) f = some none ∧ H2 a = some (exo a C none) ∧ ∀ dx, H2 dx = none → dx ≠ a → D.nx σ (upd (upd H2 dx (exd dx [(f, y)])) a (exo a C (some dx)))
theorem ps_osG {X : Cx} {o e : Expr} {to te : TE} {f : Str} {p' pos : Pos} (ho : PE X o to) (he : PE X e te) (hs : swapsWith e (some (.Attribute o f p')) pos.line X.env = pure false := by rfl) : PS X (.Assign [.Attribute o f p'] e pos) (tOsG X.K f to te) := by
  constructor
  intro pins s σ H D I h
  refine plainObj_wpAny_Assign_Attribute (thn (he.run pins s σ H _ I h) ?_) hs
  rintro v s1 ⟨y, H1, I1, r1, q1⟩
  refine thn (ho.run pins s1 σ H1 _ I1 q1) ?_
  rintro u s2 ⟨x, H2, I2, r2, a, C, rfl, T, nf, ea, q⟩
  obtain rfl : u = Value.ref a := r2
  exact ostG T I2 ea nf r1 fun dx s' n ne J => ⟨σ, _, J, q dx n ne⟩
end XB
set_option Elab.async false
set_option linter.all false
set_option maxRecDepth 100000
set_option maxHeartbeats 4000000
/-! own exceptions as values: made by a call, their fields read, isinstance -/
namespace XB
open PySem PySem.Spec PyProof.Rows L2
/-- at a: an exception that was raised and kept -/
def exg (a : Addr) (cls : Value) (d : Option Addr) : HO := .ext fun h => ∃ (o : Obj) (vs : Array Value), h.get? a = some o ∧ o.cls = cls ∧ o.dict = d ∧ o.data = .fields vs
theorem exg_ok {P : Program} {w : World} {H : Hp} {h : Heap} {a : Addr} {cls : Value} {d : Option Addr} {o : Obj} {vs : Array Value} (e : h.get? a = some o) (h1 : o.cls = cls) (h2 : o.dict = d) (h3 : o.data = .fields vs) : ObjOk P w H h a (exg a cls d) :=
  ⟨⟨o, vs, e, h1, h2, h3⟩, ⟨o, e⟩, fun g1 g2 z k => by
    obtain ⟨o', vs', q, r⟩ := z
    exact ⟨o', vs', k _ q, r⟩⟩
theorem exg_at {P : Program} {w : World} {H : Hp} {h : Heap} {a : Addr} {cls : Value} {d : Option Addr} (hok : HOk P w H h) (e : H a = some (exg a cls d)) : ∃ (o : Obj) (vs : Array Value), h.get? a = some o ∧ o.cls = cls ∧ o.dict = d ∧ o.data = .fields vs := by
  have x : ObjOk P w H h a (.ext fun h => ∃ (o : Obj) (vs : Array Value), h.get? a = some o ∧ o.cls = cls ∧ o.dict = d ∧ o.data = .fields vs) := hok a _ e
  exact x.1
/-- an exception that stands, with its fields -/
def XOb (H : Hp) (a C : Addr) (fs : List (Str × V)) : Prop := ∃ dx, (H a = some (exo a C (some dx)) ∨ H a = some (exg a (.ref C) (some dx))) ∧ (H dx = some (exd dx fs) ∨ H dx = some (.xd fs))
theorem XOb.same {H H' : Hp} {a C : Addr} {fs : List (Str × V)} (h : XOb H a C fs) (s : Same H H') : XOb H' a C fs := by
  obtain ⟨dx, h1, h2⟩ := h
  exact ⟨dx, h1.imp (s _ _) (s _ _), h2.imp (s _ _) (s _ _)⟩
theorem xob_inst {X : Cx} {pins : List (Addr × Obj)} {σ : L2.St} {H : Hp} {s : Shared} {a C : Addr} {fs : List (Str × V)} (I : Inv X pins σ H s) (h : XOb H a C fs) :
    ∃ (ox od : Obj) (mA : Str → Option Value), PySem.W.InstAt s.heap a ox C (some od) ∧ (∀ n, PySem.W.lookIn n od = some (mA n)) ∧ ∀ n, RelO (fs.lookup n) (mA n) := by
  obtain ⟨dx, e, ed⟩ := h
  have hd : ∃ mA, s.heap.Ns1 dx mA ∧ ∀ f, RelO (fs.lookup f) (mA f) := by
    rcases ed with ed | ed
    · exact exd_at I.hok ed
    · exact I.hok dx _ ed
  obtain ⟨mA, hns, hr⟩ := hd
  obtain ⟨od, hod, hl⟩ := lookIn_ns hns
  rcases e with e | e
  · obtain ⟨t1, ho⟩ := exo_at I.hok e
    exact ⟨_, od, mA, ⟨ho, rfl, rfl, hod⟩, hl, hr⟩
  · obtain ⟨o, vs, h1, h2, h3, h4⟩ := exg_at I.hok e
    exact ⟨o, od, mA, ⟨h1, h2, by unfold PySem.W.notCls; rw [h4] <;> rfl, by rw [h3]; exact hod⟩, hl, hr⟩
section
variable {X : Cx}
/-- e.n of such an exception -/
@[irreducible] def rXo (K : PySem.W.Frag) (n : Str) (x : V) (H1 : Hp) (Q : VK) : Prop := ∃ (a C : Addr) (fs : List (Str × V)) (v : V), x = .ref a ∧ ExcC K C ∧ PySem.W.findIn K (.ref C) n = some none ∧ XOb H1 a C fs ∧ fs.lookup n = some v ∧ Q v H1
def tXo (K : PySem.W.Frag) (n : Str) (te : TE) : TE := fun σ H Q => te σ H fun x H1 => rXo K n x H1 Q
theorem pe_xo {K : PySem.W.Frag} (hk : X.K = K) {e : Expr} {te : TE} {pos : Pos} {n : Str} (he : PE X e te) (hb : attributeBase e n X.env (eval e X.env) = eval e X.env := by rfl) : PE X (.Attribute e n pos) (tXo K n te) := by
  subst hk
  constructor
  intro pins s σ H Q I h
  refine attr_of hb (thn (he.run pins s σ H _ I h) ?_)
  rintro u s1 ⟨x, H1, I1, rx, hh⟩
  unfold rXo at hh
  obtain ⟨a, C, fs, v, rfl, T, hno, hO, hv, q⟩ := hh
  obtain rfl : u = Value.ref a := rx
  obtain ⟨ox, od, mA, J, hl, hr⟩ := xob_inst I1 hO
  obtain ⟨z, hz, rz⟩ := RelO.some_of (v := v) (o := mA n) (by rw [← hv]; exact hr n)
  refine HandSPX.exc_get I1.kIn J T.hg T.hk T.hs (PySem.W.findObj_own T.hd hno rfl ?_) (handed_of rz) ⟨v, H1, I1.tok _, rz, q⟩
  rw [hl, hz]
@[irreducible] def rIsX (K : PySem.W.Frag) : List V → Hp → VK → Prop := fun xs H Q => ∃ (a C : Addr) (fs : List (Str × V)) (c : V) (u : Value) (b : Bool), xs = [.ref a, c] ∧ ClsV c u ∧ ExcC K C ∧ XOb H a C fs ∧ PySem.W.kitOne K (.ref C) u = some b ∧ Q (.bl b) H
theorem call_isX {K : PySem.W.Frag} (hk : X.K = K) : CallR X (.builtin "isinstance") (rIsX K) := by
  subst hk
  intro pins s σ H xs us Q I r h
  unfold rIsX at h
  obtain ⟨a, C, fs, c, u, b, rfl, k, T, hO, e, q⟩ := h
  obtain ⟨u1, u2, rfl, r1, r2⟩ := vals2 r
  have e2 := k.eq r2
  subst e2
  obtain rfl : u1 = Value.ref a := r1
  obtain ⟨ox, od, mA, J, _, _⟩ := xob_inst I hO
  have hcl : (PySem.W.clsIn X.K C).isSome = true := by
    have hd := T.hd
    unfold PySem.W.hasDictIn at hd
    cases hc : PySem.W.clsIn X.K C with
    | some _ => rfl
    | none =>
      rw [hc] at hd
      cases hd
  exact PySem.W.kia_one (PySem.W.kitx_exc hcl T.hg T.hk T.hs T.ha T.hn T.ht T.hm) I.kIn J e (fun z => nomatch z) fun tk => ⟨.bl b, H, I.tok tk, rfl, q⟩
/-- C(e, ..) as a value -/
def tMkV (C : Addr) (sp : Sp) (ta : TA) : TE := fun σ H Q => ta σ H fun vs H1 => vs.length ≤ 1000 ∧ ∀ a, H1 a = none → sp (.ref a :: vs) (upd H1 a (exo a C none)) (fun v H2 => v = .non ∧ Q (.ref a) H2) fun _ _ _ => False
theorem pe_oex {CX : CXT} {x : Str} {C fI : Addr} {k : Nat} {fd : FuncData} {ps : List Str} {sp : Sp} {e : Expr} {es : List Expr} {p pos : Pos} {ta : TA} (T : OexG X.K C) (iC : PySem.W.findIn X.K (.ref C) "__init__" = some (some (.ref fI)))
    (tI : PySem.W.typeIn X.K (.ref fI) = some (.type "function")) (F1 : FnOk X.prog X.w X.K X.mg X.base CX k fI fd ps sp) (hr : Room (k + 1) X.A) (hb : Binds X.K fd ps []) (hx : Passes CX X fun _ _ _ => False) (hg : Gl X x) (hm : X.mg x = some (.ref C)) (ha : PA X (e :: es) ta)
    (hdb : (x == ("__debug__" : Str)) = false := by decide) (he : starEach (e :: es) X.env = (false, eval e X.env) :: starEach es X.env := by rfl) (hpl : (backTo pos (starEach es X.env)).any (·.1) = false := by rfl) :
    PE X (.Call (.Name x p) (e :: es) [] pos) (tMkV C sp ta) := by
  constructor
  intro pins s σ H Q I h
  obtain ⟨nm, q, N, bs, bm, sn, sub, ab, col, dd, k0, k1, k2, k3, k5, B, ni, ii, bmB, hC, hF, hT, _, _⟩ := T.cls
  refine wpAny_Call_Name_kw (ld_glob I hg hm ?_ hdb)
  refine PySem.W.callWith_K (h₀ := X.base) I.ok.mod.kin T.kC (thn (ha.run pos pins s σ H _ I h) ?_) he hpl
  rintro us ⟨hp, g, dr, tk, os⟩ ⟨vs, H1, I1, r1, hz, q1⟩
  refine ⟨I1.kIn, ?_⟩
  show wpAny _ _ (call (.ref C) us) _ _ _
  have up1 : hp.objs.size ≤ hp.objs.size + 1 := by omega
  have hq := q1 (hp.objs.size + 1) (I1.hok.fresh up1)
  obtain ⟨h2, eh2⟩ : ∃ h2, h2 = (hp.push (PySem.W.kdv_tup us)).push (PySem.HandSPX.excO C hp.objs.size) := ⟨_, rfl⟩
  have kk : ∀ b o, hp.get? b = some o → h2.get? b = some o := fun b o z => by
    rw [eh2]
    exact Heap.get?_push_of_some _ (Heap.get?_push_of_some _ z)
  have hget : h2.get? (hp.objs.size + 1) = some (PySem.HandSPX.excO C hp.objs.size) := by
    rw [eh2]
    heap_get
  have I2 : Inv X pins σ (upd H1 (hp.objs.size + 1) (exo (hp.objs.size + 1) C none)) ⟨h2, g, dr, tk, os⟩ := I1.laid (t' := tk) (a := hp.objs.size + 1) (h' := h2) kk up1 (exo_ok hget)
  have r2 : Vals (V.ref (hp.objs.size + 1) :: vs) (Value.ref (hp.objs.size + 1) :: us) := .cons rfl r1
  have hl : (Value.ref (hp.objs.size + 1) :: us).length = ps.length := r2.length.symm.trans (F1.len _ _ _ _ hq)
  have hus : us.length ≤ sizeLine := by
    have z := Paired.length r1
    rw [sizeLine_eq]
    omega
  have hb2 := hb ⟨h2, g, dr, tk, os⟩ (Value.ref (hp.objs.size + 1) :: us) I2.kIn (by rw [List.append_nil]; exact hl)
  rw [List.append_nil] at hb2
  refine wpAny_call (PySem.HandSPX.call_own hF hT (I1.kIn _ _ hC) (PySem.W.looks_findIn I1.kIn iC) (fun self => PySem.W.bind_fn I1.kIn self tI) hus ?_)
  rw [← eh2]
  refine codeAny_mono (F1.run _ X.stack _ _ ⟨Value.ref (hp.objs.size + 1) :: us, []⟩ (Value.ref (hp.objs.size + 1) :: us) _ _ (fun _ _ _ => False) (hr.make C us []) (I2.env0.make C us []) hb2 r2 hq) ?_
  rintro (er | fl) s' hq'
  · exact hx pins σ _ _ er s' I2 hq'
  · cases fl with
    | ret u =>
      obtain ⟨v, H2, os2, bare2, un2, hok2, rv, ev, q2⟩ := hq'
      subst ev
      exact ⟨rv, .ref (hp.objs.size + 1), H2, I2.call' (ch := []) os2 un2 hok2 bare2 (fun b z => absurd z (by simp)), rfl, q2⟩
    | next => exact False.elim hq'
    | brk => exact False.elim hq'
    | cont => exact False.elim hq'
end
end XB
namespace XB
open PySem PySem.Spec PyProof.Rows L2
/-! ### own exception classes under their names -/
/-- what the written part says of an own exception class of ValueError, whose __init__ is st -/
structure Ek (K : PySem.W.Frag) (mg : Str → Option Value) (x q : Str) (st : Stmt) : Prop where
  ex : ∃ (C fI : Addr) (fd : FuncData), mg x = some (.ref C) ∧ OexG K C ∧ ExcC K C ∧ PySem.W.findIn K (.ref C) "__init__" = some (some (.ref fI)) ∧ PySem.W.typeIn K (.ref fI) = some (.type "function") ∧ Fun K "__init__" q st fI fd
/-- of a class: a name that it does not know -/
def NoF (K : PySem.W.Frag) (mg : Str → Option Value) (x f : Str) : Prop := ∀ C, mg x = some (.ref C) → PySem.W.findIn K (.ref C) f = some none
def Kit (K : PySem.W.Frag) (mg : Str → Option Value) (x y : Str) (b : Bool) : Prop := ∀ C D, mg x = some (.ref C) → mg y = some (.ref D) → PySem.W.kitOne K (.ref C) (.ref D) = some b
def KitB (K : PySem.W.Frag) (mg : Str → Option Value) (x : Str) (y : String) (b : Bool) : Prop := ∀ C, mg x = some (.ref C) → PySem.W.kitOne K (.ref C) (.type y) = some b
def Exm (K : PySem.W.Frag) (mg : Str → Option Value) (x y : Str) (b : Bool) : Prop := ∀ C D, mg x = some (.ref C) → mg y = some (.ref D) → PySem.W.exmOne K (.ref C) (.ref D) = some b
/-- an exception of the class of that name -/
def Ex1 (K : PySem.W.Frag) (mg : Str → Option Value) (x : Str) (H : Hp) (a : Addr) (fs : List (Str × V)) : Prop := ∃ C, mg x = some (.ref C) ∧ ExcC K C ∧ XOb H a C fs
theorem Ex1.same {K : PySem.W.Frag} {mg : Str → Option Value} {x : Str} {H H' : Hp} {a : Addr} {fs : List (Str × V)} (h : Ex1 K mg x H a fs) (s : Same H H') : Ex1 K mg x H' a fs := by
  obtain ⟨C, h1, h2, h3⟩ := h
  exact ⟨C, h1, h2, h3.same s⟩
theorem cls_eq {mg : Str → Option Value} {x : Str} {C D : Addr} (h : mg x = some (.ref C)) (g : mg x = some (.ref D)) : C = D := Value.ref.inj (Option.some.inj (h.symm.trans g))
/-- e.f -/
theorem xo_at {K : PySem.W.Frag} {mg : Str → Option Value} {x n : Str} {H : Hp} {a : Addr} {fs : List (Str × V)} {y : V} {Q : VK} (h : Ex1 K mg x H a fs) (nf : NoF K mg x n) (e : fs.lookup n = some y) (q : Q y H) : rXo K n (.ref a) H Q := by
  obtain ⟨C, hC, T, hO⟩ := h
  unfold rXo
  exact ⟨a, C, fs, y, rfl, T, nf C hC, hO, e, q⟩
theorem is_at {K : PySem.W.Frag} {mg : Str → Option Value} {x y : Str} {H : Hp} {a D : Addr} {fs : List (Str × V)} {b : Bool} {Q : VK} (h : Ex1 K mg x H a fs) (k : Kit K mg x y b) (hD : mg y = some (.ref D)) (q : Q (.bl b) H) : rIsX K [.ref a, .ref D] H Q := by
  obtain ⟨C, hC, T, hO⟩ := h
  unfold rIsX
  exact ⟨a, C, fs, .ref D, .ref D, b, rfl, .own D, T, hO, k C D hC hD, q⟩
theorem is_atB {K : PySem.W.Frag} {mg : Str → Option Value} {x : Str} {y : String} {H : Hp} {a : Addr} {fs : List (Str × V)} {b : Bool} {Q : VK} (h : Ex1 K mg x H a fs) (k : KitB K mg x y b) (q : Q (.bl b) H) : rIsX K [.ref a, .ty y] H Q := by
  obtain ⟨C, hC, T, hO⟩ := h
  unfold rIsX
  exact ⟨a, C, fs, .ty y, .type y, b, rfl, .ty y, T, hO, k C hC, q⟩
/-- the promise of an __init__ that sets one field -/
def spIni (K : PySem.W.Frag) (C : Addr) (f : Str) : Sp := fun vs H Q _ => ∃ (a : Addr) (y : V), vs = [.ref a, y] ∧ H a = some (exo a C none) ∧ ∀ dx, H dx = none → dx ≠ a → Q .non (upd (upd H dx (exd dx [(f, y)])) a (exo a C (some dx)))
structure MkE (P : Program) (w : World) (K : PySem.W.Frag) (mg : Str → Option Value) (base : Heap) (k : Nat) (x f : Str) : Prop where
  ex : ∃ (C fI : Addr) (fd : FuncData) (ps : List Str), mg x = some (.ref C) ∧ OexG K C ∧ ExcC K C ∧ PySem.W.findIn K (.ref C) "__init__" = some (some (.ref fI)) ∧ PySem.W.typeIn K (.ref fI) = some (.type "function") ∧ FnOk P w K mg base CX0 k fI fd ps (spIni K C f) ∧ Binds K fd ps [] ∧ ∀ (s : Shared) (u v : Value), BindsTo s fd ⟨[u], [(f, v)]⟩ (ps.zip [u, v])
section
variable {P : Program} {w : World} {K : PySem.W.Frag} {mg : Str → Option Value} {base : Heap}
theorem mke0 {x q f : Str} {st : Stmt} {N ps : List Str} {k : Nat} (D : Ek K mg x q st) (hp : ps.length = 2)
    (hb : ∀ (kV doc pm : Value) (an : Option Addr) (cdv ct : Value) (us : List Value), us.length = ps.length → bindArgs (PySem.W.fnOf "__init__" q (defArgs st) (defBody st) (defScope st) .none kV doc pm an cdv ct) ⟨us, []⟩ = pure (ps.zip us))
    (hk : ∀ (kV doc pm : Value) (an : Option Addr) (cdv ct u v : Value), bindArgs (PySem.W.fnOf "__init__" q (defArgs st) (defBody st) (defScope st) .none kV doc pm an cdv ct) ⟨[u], [(f, v)]⟩ = pure (ps.zip [u, v]))
    (S : FnScope N ps (defScope st))
    (hbody : ∀ (C f' : Addr) (cdv : Value) (A : Around) (outer : List Env) (s : Shared) (H : Hp) (vs : List V) (Q : VK) (E : XK), OexG K C → mg x = some (.ref C) → Room k (A.deeper (envOfC q (defScope st) s.heap.objs.size f' cdv)) → spIni K C f vs H Q E →
      ∃ t, PSs (cxOf CX0 P w K mg base N q (defScope st) f' cdv A outer s H E).nox (defBody st) t ∧ t { nx := fun _ H' => Q .non H', rt := Q } (start N vs) H) : MkE P w K mg base (k + 1) x f := by
  obtain ⟨C, fI, fd, h1, h2, h3, h4, h5, F⟩ := D.ex
  refine ⟨C, fI, fd, ps, h1, h2, h3, h4, h5, F.ok S (fun vs H Q E h => ?_) (fun cdv A outer s H vs Q E hr h => hbody C fI cdv A outer s H vs Q E h2 h1 hr h), F.binds hb, fun s u v => ?_⟩
  · obtain ⟨a, y, rfl, _⟩ := h
    rw [hp]
    rfl
  · obtain ⟨oc, od, kV, doc, pm, an, cdv, ct, osl, rfl, lk, hcd⟩ := F.ex
    exact .of_eq (hk kV doc pm an cdv ct u v)
end
section
variable {X : Cx}
@[irreducible] def rNew (K : PySem.W.Frag) (mg : Str → Option Value) (x f : Str) (σ : L2.St) (y : V) (H1 : Hp) (Q : VK) : Prop := ∀ C, mg x = some (.ref C) → ExcC K C → (tNil σ H1 fun ys H2 => (y :: ys).length ≤ 1000 ∧ ∀ a, H2 a = none → spIni K C f (.ref a :: (y :: ys)) (upd H2 a (exo a C none)) (fun v H3 => v = .non ∧ Q (.ref a) H3) fun _ _ _ => False)
def tNew (K : PySem.W.Frag) (mg : Str → Option Value) (x f : Str) (te : TE) : TE := fun σ H Q => te σ H fun y H1 => rNew K mg x f σ y H1 Q
theorem pe_new {k j : Nat} {x f : Str} {e : Expr} {te : TE} {p pos : Pos} (c : MkE X.prog X.w X.K X.mg X.base k x f) (hr : Room j X.A) (hk : k + 1 ≤ j) (hg : Gl X x) (ha : PE X e te)
    (hdb : (x == ("__debug__" : Str)) = false := by decide) (he : starEach [e] X.env = (false, eval e X.env) :: starEach [] X.env := by rfl) (hpl : (backTo pos (starEach ([] : List Expr) X.env)).any (·.1) = false := by rfl) :
    PE X (.Call (.Name x p) [e] [] pos) (tNew X.K X.mg x f te) := by
  obtain ⟨C, fI, fd, ps, h1, h2, h3, h4, h5, F, b, _⟩ := c.ex
  have r := pe_oex (pos := pos) (p := p) h2 h4 h5 F (hr.mono hk) b pass0 hg h1 (pa_cons (hs := he) ha pa_nil) hdb he hpl
  constructor
  intro pins s σ H Q I h
  refine r.run pins s σ H Q I ?_
  have e1 : ∀ P : Addr → Prop, (∀ C', X.mg x = some (.ref C') → ExcC X.K C' → P C') = P C := fun P => propext ⟨fun g => g C h1 h3, fun g C' z _ => by rw [cls_eq z h1]; exact g⟩
  unfold tNew rNew at h
  simp only [e1] at h
  exact h
/-- C(e) made: how it stands -/
theorem new_at {K : PySem.W.Frag} {mg : Str → Option Value} {x f : Str} {y : V} {σ : L2.St} {H1 : Hp} {Q : VK} (q : ∀ H' a, Same H1 H' → Ex1 K mg x H' a [(f, y)] → Q (.ref a) H') : rNew K mg x f σ y H1 Q := by
  unfold rNew
  intro C hC T
  refine (show 1 ≤ 1000 ∧ _ from ⟨by decide, fun a ha => ⟨a, y, rfl, upd_same, fun dx hdx hne => ⟨rfl, q _ a (fun b o z => ?_) ⟨C, hC, T, dx, .inl upd_same, .inl ?_⟩⟩⟩⟩)
  · have hb : b ≠ a := fun w => by
      rw [w, ha] at z
      cases z
    have hd : b ≠ dx := fun w => by
      rw [← w, upd_ne hb, z] at hdx
      cases hdx
    rw [upd_ne hb, upd_ne hd, upd_ne hb]
    exact z
  · rw [upd_ne hne, upd_same]
end
end XB
set_option Elab.async false
set_option linter.all false
set_option maxRecDepth 100000
set_option maxHeartbeats 4000000
/-! an own exception made by a call with keywords alone -/
namespace PySem
namespace XOK
open Builtin Builtin.ObjectAttr HandSPX PySem.Spec PyProof.Rows
section
variable {prog : Program} {w : World} {A : Around} {E : Value → Shared → Prop} {R : Result → Shared → Prop} {h : Heap} {g : Array GenState} {d : Drawn} {t : Nat} {os : OsState}
variable {nm q : Str} {C N : Addr} {bs bm bmB : List Value} {hdct : Bool} {sn : List Str} {sub : List Value} {ab : Bool} {col : Option Bool} {dd : Option Addr} {k0 k1 k2 k3 k5 : Option Value} {B newId initId : String} {kw : List (Str × Value)}
theorem chk_type (hC : h.get? C = some (excClassObj nm q C N bs bm hdct sn sub ab col dd k0 k1 k2 k3 k5 newId)) {M : Model} {Q : Unit → Shared → Prop} (hq : Q () ⟨h, g, d, t, os⟩) : wpAny M A (checkBuiltinCall "type.__call__" ⟨[.ref C], kw⟩) Q E ⟨h, g, d, t, os⟩ := by
  have z3 := tc_sub
  have zT : (⟨h, g, d, t, os⟩ : Shared).TypeIs (.ref C) "type" := ⟨_, hC, rfl⟩
  simp only [tc_split, tc_kind, checkBuiltinCall]
  repeat (any_goals (first | assumption | with_reducible refine wpAny_onRaise ?_ | with_reducible refine wpAny_loadPart_at hC ?_ | with_reducible refine wpAny_map ?_ | wp_step))
theorem chk_new (F : ExcBaseFacts B newId initId bmB) (hT : ∀ Y : String, bm.contains (.type Y) = bmB.contains (.type Y)) {M : Model} {Q : Unit → Shared → Prop}
    (hC : h.get? C = some (excClassObj nm q C N bs bm hdct sn sub ab col dd k0 k1 k2 k3 k5 newId)) (hq : Q () ⟨h, g, d, t, os⟩) : wpAny M A (checkBuiltinCall newId ⟨[.ref C], kw⟩) Q E ⟨h, g, d, t, os⟩ := by
  have zc : (Value.ref C :: bm).contains (.type B) = true := by rw [List.contains_cons, hT, F.hasB, Bool.or_true]
  have zs := F.noStar
  simp only [F.newRow, F.newSplit, F.newKind, checkBuiltinCall]
  repeat (first | refine wpAny_loadPart_at hC ?_ | refine wpAny_staticBase_exc hC ?_ | (refine wpAny_isSubtype_exc hC ?_; rw [zc]) | refine wpAny_madeBy_exc hC ?_ | simp only [Bool.false_eq_true, bne_self_eq_false, if_false] | wp_step)
  exact hq
theorem make_new (F : ExcBaseFacts B newId initId bmB) (hT : ∀ Y : String, bm.contains (.type Y) = bmB.contains (.type Y)) (hC : h.get? C = some (excClassObj nm q C N bs bm hdct sn sub ab col dd k0 k1 k2 k3 k5 newId))
    (hq : R (.ok (.ret (.ref (h.objs.size + 1)))) ⟨(h.push { cls := .type "tuple", data := .seq #[] }).push { cls := .ref C, data := .fields #[.ref h.objs.size, .none, .none, .none, .bool false, .none] }, g, d, t, os⟩) :
    codeAny (model prog w) A (.builtin newId ⟨[.ref C], kw⟩) R ⟨h, g, d, t, os⟩ := by
  have z1 : (Value.ref C :: bm).contains (.type B) = true := by rw [List.contains_cons, hT, F.hasB, Bool.or_true]
  have z2 : (Value.ref C :: bm).contains (.type "AttributeError") = false := by rw [List.contains_cons, hT, F.noAttr, Bool.or_false]; rfl
  have z3 : (Value.ref C :: bm).contains (.type "NameError") = false := by rw [List.contains_cons, hT, F.noName, Bool.or_false]; rfl
  have zl : ([] : List Value).length ≤ sizeLine := Nat.zero_le _
  have ze := F.ends
  refine codeAny_builtinAt F.entry ?_
  unfold Builtin.«BaseException.__new__»
  refine wpAt_bind (show wpAt _ _ _ (stack >>= _) _ _ _ from ?_)
  refine wpAt_bind (wpAt_stack fun pa lo => wpAt_of_wpAny ?_)
  wp_walk
  refine (wpAt_of_wpAny ?_)
  rw [F.owner]
  repeat (first | with_reducible refine wpAny_loadPart_at hC ?_ | with_reducible refine wpAny_madeHere_exc F.canon hC ?_ | (with_reducible refine wpAny_isSubtype_exc hC ?_; first | rw [z1] | rw [z2] | rw [z3]) | wp_step)
  show R _ _
  rw [Heap.size_push]
  exact hq
theorem type_kw (F : ExcBaseFacts B newId initId bmB) (hT : ∀ Y : String, bm.contains (.type Y) = bmB.contains (.type Y)) {fI : Addr} {Q : Fin → Shared → Prop} (hC : h.get? C = some (excClassObj nm q C N bs bm hdct sn sub ab col dd k0 k1 k2 k3 k5 newId))
    (hi : W.Looks (model prog w) h (typeLookup (.ref C) "__init__") (some (.ref fI))) (hb : ∀ self, W.Looks (model prog w) h (bindSpecial (.ref fI) self) (.ref fI, [self]))
    (hq : codeAny (model prog w) A (.call (.ref fI) ⟨[.ref (h.objs.size + 1)], kw⟩) (fun r s' => match r with | .ok (.ret v) => v = .none ∧ Q (.done (.ret (.ref (h.objs.size + 1)))) s' | .ok _ => False | .error e => E e s')
      ⟨(h.push (W.kdv_tup [])).push (excO C h.objs.size), g, d, t, os⟩) : wpAny (model prog w) A (Builtin.«type.__call__» ⟨[.ref C], kw⟩) Q E ⟨h, g, d, t, os⟩ := by
  repeat (first | with_reducible refine wpAny_madeBy_exc hC ?_ | with_reducible refine wpAny_loadPart_at hC ?_ | wp_step)
  refine codeAny_call_builtin_code (Code.quiet_builtin _ F.quiet) (chk_new F hT hC (make_new F hT hC ?_))
  show wpAny _ _ _ _ _ _
  obtain ⟨h2, e2⟩ : ∃ h2, h2 = (h.push (W.kdv_tup [])).push (excO C h.objs.size) := ⟨_, rfl⟩
  have kp : ∀ b o, h.get? b = some o → h2.get? b = some o := fun b o e => by
    rw [e2]
    exact Heap.get?_push_of_some _ (Heap.get?_push_of_some _ e)
  have hg : h2.get? (h.objs.size + 1) = some (excO C h.objs.size) := by
    rw [e2]
    heap_get
  have hC2 := kp _ _ hC
  have zz : (Value.ref C :: bm).contains (.ref C) = true := by simp
  have j1 := hi.keeps kp
  have j2 := (hb (.ref (h.objs.size + 1))).keeps kp
  rw [← e2] at hq
  rw [show (h.push { cls := .type "tuple", data := .seq #[] }).push { cls := .ref C, data := .fields #[.ref h.objs.size, .none, .none, .none, .bool false, .none] } = h2 from e2.symm]
  unfold isInstance
  repeat (first | (with_reducible refine wpAny_isSubtype_exc hC2 ?_; rw [zz]) | with_reducible refine wpAny_loadPart_at hg ?_ | wp_step)
  show wpAny _ _ (typeLookup (.ref C) _) _ _ _
  refine j1.at (wpAny_holding (wpAny_bind (j2.at (wpAny_bind (wpAny_call (codeAny_mono hq ?_))))))
  rintro (e | fl) s' z
  · exact z
  · cases fl with
    | ret v =>
      obtain ⟨rfl, z⟩ := z
      first
        | exact wpAny_pure (wpAny_pure z)
        | (wp_walk; exact z)
    | next => exact False.elim z
    | brk => exact False.elim z
    | cont => exact False.elim z
theorem call_kw (F : ExcBaseFacts B newId initId bmB) (hT : ∀ Y : String, bm.contains (.type Y) = bmB.contains (.type Y)) {fI : Addr} (hC : h.get? C = some (excClassObj nm q C N bs bm hdct sn sub ab col dd k0 k1 k2 k3 k5 newId))
    (hi : W.Looks (model prog w) h (typeLookup (.ref C) "__init__") (some (.ref fI))) (hb : ∀ self, W.Looks (model prog w) h (bindSpecial (.ref fI) self) (.ref fI, [self]))
    (hq : codeAny (model prog w) (A.under (.builtin "type.__call__" ⟨[.ref C], kw⟩)) (.call (.ref fI) ⟨[.ref (h.objs.size + 1)], kw⟩) (W.InitBack (h.objs.size + 1) R) ⟨(h.push (W.kdv_tup [])).push (excO C h.objs.size), g, d, t, os⟩) :
    codeAny (model prog w) A (.call (.ref C) ⟨[], kw⟩) R ⟨h, g, d, t, os⟩ := by
  have y1 := tc_lookup
  have y2 := tc_bind (.ref C)
  have yT : (⟨h, g, d, t, os⟩ : Shared).TypeIs (.ref C) "type" := ⟨_, hC, rfl⟩
  refine codeAny_of_tree (show wpAny _ _ (callAny (.ref C) _) _ _ _ from ?_)
  repeat (any_goals (first | assumption | with_reducible refine wpAny_loadPart_at hC ?_ | wp_step))
  refine ⟨rfl, codeAny_call_builtin_at (Code.quiet_builtin _ (by decide +kernel)) entry_typeCall (chk_type hC (type_kw F hT hC hi hb (codeAny_mono hq ?_)))⟩
  rintro (e | fl) s' z
  · exact z
  · cases fl <;> exact z
end
end XOK
end PySem
namespace XB
open PySem PySem.Spec PyProof.Rows L2
section
variable {X : Cx}
/-- C(f = e) -/
theorem pe_newK {k j : Nat} {x f : Str} {e : Expr} {te : TE} {p pos kpos : Pos} (c : MkE X.prog X.w X.K X.mg X.base k x f) (hr : Room j X.A) (hk : k + 1 ≤ j) (hg : Gl X x) (ha : PE X e te)
    (hall : (backToKw pos (keywordEach [⟨some f, e, kpos⟩] X.env)).all (·.1.isSome) = true := by rfl) (hks : (backToKw pos (keywordEach [⟨some f, e, kpos⟩] X.env)).filterMap (·.1) = [f] := by rfl) (hdb : (x == ("__debug__" : Str)) = false := by decide)
    (hpl : ((backTo pos (starEach ([] : List Expr) X.env)).any (·.1) || (backToKw pos (keywordEach [⟨some f, e, kpos⟩] X.env)).any (·.1.isNone)) = false := by rfl) :
    PE X (.Call (.Name x p) [] [⟨some f, e, kpos⟩] pos) (tNew X.K X.mg x f te) := by
  obtain ⟨C, fI, fd, ps, h1, h2, h3, h4, h5, F, _, b⟩ := c.ex
  constructor
  intro pins s σ H Q I h
  obtain ⟨nm, q, N, bs, bm, sn, sub, ab, col, dd, k0, k1, k2, k3, k5, B, ni, ii, bmB, hC, hF, hT, _, _⟩ := h2.cls
  refine wpAny_Call_Name_kw (ld_glob I hg h1 ?_ hdb)
  refine PySem.W.callWith_KW0 (h₀ := X.base) I.ok.mod.kin h2.kC hall ?_ hpl
  have e1 : ∀ P : Addr → Prop, (∀ C', X.mg x = some (.ref C') → ExcC X.K C' → P C') = P C := fun P => propext ⟨fun g => g C h1 h3, fun g C' z _ => by rw [cls_eq z h1]; exact g⟩
  unfold tNew rNew at h
  simp only [e1] at h
  refine thn ((pk_cons ha pk_nil).run pos pins s σ H _ I (show tCons te tNil σ H (fun vs H2 => vs.length ≤ 1000 ∧ ∀ a, H2 a = none → spIni X.K C f (.ref a :: vs) (upd H2 a (exo a C none)) (fun v H3 => v = .non ∧ Q (.ref a) H3) fun _ _ _ => False) from h)) ?_
  rintro ws ⟨hp, g, dr, tk, os⟩ ⟨zs, H1, I1, rz, hz, q1⟩
  refine ⟨I1.kIn, ?_⟩
  rw [hks]
  have up1 : hp.objs.size ≤ hp.objs.size + 1 := by omega
  have hq := q1 (hp.objs.size + 1) (I1.hok.fresh up1)
  obtain ⟨a', y', ev, _⟩ := id hq
  obtain ⟨_, ez⟩ := List.cons.inj ev
  subst ez
  obtain ⟨u, rfl, ru⟩ := rz.one
  obtain ⟨h2', eh2⟩ : ∃ h2', h2' = (hp.push (PySem.W.kdv_tup [])).push (PySem.HandSPX.excO C hp.objs.size) := ⟨_, rfl⟩
  have kk : ∀ b o, hp.get? b = some o → h2'.get? b = some o := fun b o z => by
    rw [eh2]
    exact Heap.get?_push_of_some _ (Heap.get?_push_of_some _ z)
  have hget : h2'.get? (hp.objs.size + 1) = some (PySem.HandSPX.excO C hp.objs.size) := by
    rw [eh2]
    heap_get
  have I2 : Inv X pins σ (upd H1 (hp.objs.size + 1) (exo (hp.objs.size + 1) C none)) ⟨h2', g, dr, tk, os⟩ := I1.laid (t' := tk) (a := hp.objs.size + 1) (h' := h2') kk up1 (exo_ok hget)
  have r2 : Vals [V.ref (hp.objs.size + 1), y'] [Value.ref (hp.objs.size + 1), u] := .cons rfl (.cons ru .nil)
  refine wpAny_call (PySem.XOK.call_kw (kw := [(f, u)]) hF hT (I1.kIn _ _ hC) (PySem.W.looks_findIn I1.kIn h4) (fun self => PySem.W.bind_fn I1.kIn self h5) ?_)
  rw [← eh2]
  refine codeAny_mono (F.run _ X.stack _ _ ⟨[.ref (hp.objs.size + 1)], [(f, u)]⟩ [.ref (hp.objs.size + 1), u] _ _ (fun _ _ _ => False) ((hr.mono hk).make C [] [(f, u)]) (I2.env0.make C [] [(f, u)]) (b _ _ _) r2 hq) ?_
  rintro (er | fl) s' hq'
  · exact pass0 pins σ _ _ er s' I2 hq'
  · cases fl with
    | ret u =>
      obtain ⟨v, H2, os2, bare2, un2, hok2, rv, ev, q2⟩ := hq'
      subst ev
      exact ⟨rv, .ref (hp.objs.size + 1), H2, I2.call' (ch := []) os2 un2 hok2 bare2 (fun b z => absurd z (by simp)), rfl, q2⟩
    | next => exact False.elim hq'
    | brk => exact False.elim hq'
    | cont => exact False.elim hq'
end
end XB
set_option Elab.async false
set_option linter.all false
set_option maxRecDepth 100000
set_option maxHeartbeats 4000000
/-! an exception that is caught and kept -/
namespace XB
open PySem PySem.Spec PyProof.Rows L2
section
variable {X : Cx} {pins : List (Addr × Obj)} {σ : L2.St} {H : Hp} {s : Shared} {a : Addr} {o : HO}
/-- an object that nothing told of, new since the entry, is told of -/
theorem adopt (I : Inv X pins σ H s) (hn : H a = none) (h0 : X.s_0.heap.get? a = none) (hL : a ≠ X.env.locals) (hc : ∀ x c, X.env.cells.lookup x = some c → c ≠ a) (hp : ∀ p ∈ X.pn ++ pins, p.1 ≠ a) (new : ObjOk X.prog X.w (upd H a o) s.heap a o) : Inv X pins σ (upd H a o) s := by
  obtain ⟨b1, b2, b3, b4, b5, b6, b7⟩ := I.base
  have nh : ∀ {b : Addr} {u : HO}, H b = some u → b ≠ a := fun {b u} e z => by
    rw [z, hn] at e
    cases e
  refine ⟨I.ok, I.os, I.bare, ⟨b1, b2, fun b u e n hx => ?_, b4, fun b xs e => ?_, fun b u v e => ?_, fun b ps e => ?_⟩, I.loc, I.cell, ?_, fun x c e => ?_, fun p hm => ?_, ?_, I.len⟩
  · have : b ≠ a := fun z => by
      rw [z, h0] at e
      cases e
    rw [upd_ne this]
    exact b3 b u e n hx
  · have z := b5 b xs e
    rw [upd_ne (nh z), z]
  · have z := b6 b u v e
    rw [upd_ne (nh z), z]
  · obtain ⟨more, z⟩ := b7 b ps e
    exact ⟨more, by rw [upd_ne (nh z), z]⟩
  · rw [upd_ne (Ne.symm hL)]
    exact I.free
  · rw [upd_ne (hc x c e)]
    exact I.freeC x c e
  · obtain ⟨p1, p2, p3⟩ := I.pin p hm
    exact ⟨p1, by rw [upd_ne (hp p hm), p2], p3⟩
  · exact I.hok.laidN (fun _ _ e => e) hn new
end
/-- what the clause 'except x as n' wishes, the exception being kept -/
def wKeep (K : PySem.W.Frag) (c : Value) (i : Nat) (ts : Addr → Value → Option Addr → TS) (Wout : WX) (D : Ends) : WX := fun cls d σ H =>
  ∃ b, PySem.W.exmOne K cls c = some b ∧ (b = true → ∀ a, H a = none → ts a cls d { nx := fun σ' H' => D.nx (σ'.set i none) (upd H' a (exg a cls d)), rt := fun v H' => D.rt v (upd H' a (exg a cls d)), bk := fun σ' H' => D.bk (σ'.set i none) (upd H' a (exg a cls d)), ct := fun σ' H' => D.ct (σ'.set i none) (upd H' a (exg a cls d)) } (σ.set i (some (.ref a))) H) ∧
    (b = false → Wout cls d σ H)
section
variable {X : Cx} {x n : Str} {c : Value} {i : Nat} {body suite : List Stmt} {b₀ : Stmt} {np pos pos' : Pos} {tb : WX → TS} {ts : Addr → Value → Option Addr → TS} {Wout : WX}
theorem ps_keep (hx : X.ex = []) (hs : X.stack = X.env :: X.outer) (hf : X.env.frame = some X.env.locals) (hN : X.N.Nodup) (hi : X.N[i]? = some n) (hln : X.env.kindOf n = some .local) (hc : L2.Names X x c) (tk : Takes X Wout)
    (hb : ∀ (W : WX) (pn : List (Addr × Obj)) (xe : Value → Shared → Prop), Takes (X.tr pn xe) W → PassesOwn (model X.prog X.w) X.A X.env xe → PSs (X.tr pn xe) body (tb W))
    (hsu : ∀ (a : Addr) (oe : Obj) (cls : Value) (d : Option Addr) (pn : List (Addr × Obj)), Zc cls d oe → (∃ vs, oe.data = .fields vs) → PSs (X.suite a ((a, oe) :: pn)) (b₀ :: suite) (ts a cls d)) :
    PS X (.Try body [.ExceptHandler (some (.Name x np)) (some n) (b₀ :: suite) pos'] [] [] pos) (fun D σ H => tb (wKeep X.K c i ts Wout D) D σ H) := by
  constructor
  intro pins s σ H D I h
  have kk := I.ok
  have frm : X.A.frames = some (X.env :: X.outer) := by rw [kk.frames, hs]
  have lo : Loc X.env.scope n := .inl hln
  refine wpAny_Try_except (wpAny_mono ((hb (wKeep X.K c i ts Wout D) (X.pn ++ pins) (fun e s₁ => wpAny (model X.prog X.w) X.A (noteFrame e X.env) (fun _ s₂ => wpAny (model X.prog X.w) X.A (setFlight e none) (fun _ s₃ => wpAny (model X.prog X.w) X.A (handleBy e X.env [.ExceptHandler (some (.Name x np)) (some n) (b₀ :: suite) pos']) (SP X pins D) X.xe s₃) X.xe s₂) X.xe s₁) ?_ PassesOwn.looking).run [] s σ H D (I.toTry _) h) ?_ (fun _ _ he => he))
  · rintro u s' ⟨a, B, sI, pins', σ', H', cls, d, rfl, J', nb, up, sky, na, os, ag, b, hb1, hyes, hno⟩
    have J : Inv X pins σ' H' sI := J'.ofTry kk
    rw [hs] at sky
    show wpAny (model X.prog X.w) X.A (noteFrame (.ref a) X.env) _ _ _
    refine Sky.land Zc.steady frm hf sky fun h3 fl3 up3 => ?_
    have J3 : Inv X pins σ' H' { s' with heap := h3 } := J.landed nb fl3.1 (up.trans up3) os ag
    obtain ⟨oe3, vs3, he3, hz3, hd3⟩ := fl3.there
    have nfr : a ∉ frs (X.env :: X.outer) := fun hm => by
      obtain ⟨_, o', e', hnf⟩ := fl3.2.2.1.mem hm
      rw [he3] at e'
      cases e'
      exact hnf _ hd3
    have nL : a ≠ X.env.locals := fun z => nfr (List.mem_filterMap.mpr ⟨X.env, List.mem_cons_self, by rw [hf, z]⟩)
    have nF : a ∉ X.fs := fun hm => by
      obtain ⟨e, he, q⟩ := List.mem_filterMap.mp hm
      exact nfr (List.mem_filterMap.mpr ⟨e, List.mem_cons_of_mem _ he, q⟩)
    have Ba : B.get? a = none := fl3.2.1
    have gone : sI.heap.get? a = none := by
      cases q : sI.heap.get? a with
      | none => rfl
      | some o =>
        have z := nb a o q (by rw [hs]; exact nfr)
        rw [Ba] at z
        cases z
    have g0 : X.s_0.heap.get? a = none := by
      cases q : X.s_0.heap.get? a with
      | none => rfl
      | some o =>
        obtain ⟨o', z⟩ := J.base.there a o q (by rw [hx]; simp)
        rw [gone] at z
        cases z
    have gc : ∀ x c, X.env.cells.lookup x = some c → c ≠ a := fun x c e z => by
      obtain ⟨v, o, ho, _⟩ := J.cell x c e
      rw [z, gone] at ho
      cases ho
    have gp : ∀ p ∈ X.pn ++ pins, p.1 ≠ a := fun p hp z => by
      have w := (J.pin p hp).1
      rw [z, gone] at w
      cases w
    have S3 := J3.suite he3 hd3 na nL nF
    refine wpAny_handleBy_cons (codeAny_handlers_test ?_) (by intro q; cases q)
    have LT : PySem.W.Looks (model X.prog X.w) h3 (typeOf (.ref a)) cls := fun A Q E s k q => wpAny_typeOf_ref (k _ _ he3) (by rw [hz3.1]; exact q)
    have LM := PySem.W.exm_one (M := model X.prog X.w) J3.kIn LT hb1
    have tst : ∀ {Q : Value → Shared → Prop} {E : Value → Shared → Prop}, Q c { s' with heap := h3 } → wpAny (model X.prog X.w) (X.A.mark (some (.ref a))) (eval (.Name x np) X.env) Q E { s' with heap := h3 } := fun {Q E} q => by
      obtain ⟨hg, hdbg, hm | ⟨hm, hv, hnn⟩⟩ := hc
      · exact ld_glob (X := X.suite a ((a, oe3) :: (X.pn ++ pins))) S3 hg hm q hdbg
      · exact ld_blt (X := X.suite a ((a, oe3) :: (X.pn ++ pins))) S3 hg hm hv q hnn hdbg
    refine tst (LM.here ?_)
    cases b with
    | true =>
      refine codeAny_handlers_suite_as (HandSPX.lands_againZ fl3 fun h4 fl4 up4 => ?_)
      have J4 : Inv X pins σ' H' { s' with heap := h4 } := J.landed nb fl4.1 ((up.trans up3).trans up4) os ag
      obtain ⟨oe4, vs4, he4, hz4, hd4⟩ := fl4.there
      have S4 := J4.suite he4 hd4 na nL nF
      refine store_ok (X := X.suite a ((a, oe4) :: (X.pn ++ pins))) (v := .ref a) S4 hN hi lo rfl (fun s5 S5 => ?_) (.inr hln)
      refine wpAny_mono ((hsu a oe4 cls d (X.pn ++ pins) hz4 ⟨_, hd4⟩).run [] s5 _ H' _ S5 (hyes rfl a na)) ?_ (fun _ _ z => False.elim z)
      have fin : ∀ {s6 : Shared} {σ6 : L2.St} {H6 : Hp} {Q : Shared → Prop}, Inv (X.suite a ((a, oe4) :: (X.pn ++ pins))) [] σ6 H6 s6 → (∀ s7, Inv X pins (σ6.set i none) (upd H6 a (exg a cls d)) s7 → Q s7) →
          wpAny (model X.prog X.w) X.A (do bindName X.env n .none; unbindBehindTheSuite X.env n pos') (fun _ s7 => Q s7) X.xe s6 := fun {s6 σ6 H6 Q} S6 hq => by
        obtain ⟨w1, w2, _⟩ := S6.pin (a, oe4) (List.mem_append_left _ List.mem_cons_self)
        exact gone_ok (adopt (S6.unsuite kk) w2 g0 nL gc gp (exg_ok w1 hz4.1 hz4.2 hd4)) hN hi hln hq
      intro f s6 hsp
      cases f with
      | next =>
        obtain ⟨σ6, H6, S6, q6⟩ := hsp
        exact fin S6 fun s7 J7 => ⟨_, _, J7, q6⟩
      | brk =>
        obtain ⟨σ6, H6, S6, q6⟩ := hsp
        exact fin S6 fun s7 J7 => ⟨_, _, J7, q6⟩
      | cont =>
        obtain ⟨σ6, H6, S6, q6⟩ := hsp
        exact fin S6 fun s7 J7 => ⟨_, _, J7, q6⟩
      | ret u =>
        obtain ⟨v6, σ6, H6, S6, r6, q6⟩ := hsp
        exact fin S6 fun s7 J7 => ⟨_, _, _, J7, r6, q6⟩
    | false =>
      show wpAny _ X.A (handleBy (.ref a) X.env []) _ _ _
      refine wpAny_handleBy_nil ?_
      obtain ⟨k1, k2, k3, oe, vs, Tb, oT, tss, he, hz, hd, h1, hr⟩ := id fl3
      unfold PySem.passOn
      refine wpAny_bind (wpAny_field he hd h1 ?_)
      rw [if_neg (show ¬ ((Value.ref Tb == Value.none) = true) from by simp)]
      have last : wpAny (model X.prog X.w) X.A (setFlight (.ref a) X.env.frame) (fun _ s4 => wpAny (model X.prog X.w) X.A (throw (.ref a) : Sem Flow) (SP X pins D) X.xe s4) X.xe { s' with heap := h3 } := by
        rw [hf]
        refine HandSPX.setFlight_upZ fl3 fun h4 hh4 up4 => wpAny_throw (tk _ _ ⟨a, B, sI, pins, σ', H', cls, d, rfl, J, nb, (up.trans up3).trans up4, .inr (.inr ?_), na, os, ag, hno rfl⟩)
        rw [hs]
        exact hh4
      first
        | exact wpAny_bind (wpAny_pure (wpAny_bind last))
        | exact wpAny_bind last
  · intro f s1 hsp
    cases f with
    | next =>
      obtain ⟨σ', H', J', q⟩ := hsp
      exact wpAny_execs_nil ⟨σ', H', J'.ofTry kk, q⟩
    | brk =>
      obtain ⟨σ', H', J', q⟩ := hsp
      exact ⟨σ', H', J'.ofTry kk, q⟩
    | cont =>
      obtain ⟨σ', H', J', q⟩ := hsp
      exact ⟨σ', H', J'.ofTry kk, q⟩
    | ret u =>
      obtain ⟨v, σ', H', J', r, q⟩ := hsp
      exact ⟨v, σ', H', J'.ofTry kk, r, q⟩
end
/-! ### an own exception raised -/
section
variable {X : Cx}
/-- C(e) to be raised -/
@[irreducible] def rMk (K : PySem.W.Frag) (mg : Str → Option Value) (x f : Str) (σ : L2.St) (y : V) (H1 : Hp) (Q : XK) : Prop := ∀ C, mg x = some (.ref C) → ExcC K C → (tNil σ H1 fun ys H2 => (y :: ys).length ≤ 1000 ∧ ∀ a, H2 a = none → spIni K C f (.ref a :: (y :: ys)) (upd H2 a (exo a C none))
  (fun v H3 => v = .non ∧ ∃ (d : Addr) (fs : List (Str × V)), H3 a = some (exo a C (some d)) ∧ H3 d = some (exd d fs) ∧ H2 d = none ∧ Q (.ref C) (some d) (upd (del H3 a) d (.xd fs))) fun _ _ _ => False)
theorem mk_at {K : PySem.W.Frag} {mg : Str → Option Value} {x f : Str} {y : V} {σ : L2.St} {H1 : Hp} {Q : XK} (q : ∀ C H' d, mg x = some (.ref C) → ExcC K C → Same H1 H' → H' d = some (.xd [(f, y)]) → Q (.ref C) (some d) H') : rMk K mg x f σ y H1 Q := by
  unfold rMk
  intro C hC T
  refine (show 1 ≤ 1000 ∧ _ from ⟨by decide, fun a ha => ⟨a, y, rfl, upd_same, fun dx hdx hne => ⟨rfl, dx, [(f, y)], upd_same, ?_, ?_, q C _ dx hC T ?_ upd_same⟩⟩⟩)
  · rw [upd_ne hne, upd_same]
  · rw [upd_ne hne] at hdx
    exact hdx
  · have hd : H1 dx = none := by
      rw [upd_ne hne] at hdx
      exact hdx
    intro b o e
    have e1 : b ≠ a := ne_of_none e ha
    have e2 : b ≠ dx := ne_of_none e hd
    rw [upd_ne e2, del_ne e1, upd_ne e1, upd_ne e2, upd_ne e1, e]
theorem pmk_gen {CX : CXT} {x : Str} {C fI : Addr} {k : Nat} {fd : FuncData} {ps : List Str} {sp : Sp} {e : Expr} {es : List Expr} {p pos : Pos} {ta : TA} (T : OexG X.K C) (iC : PySem.W.findIn X.K (.ref C) "__init__" = some (some (.ref fI)))
    (tI : PySem.W.typeIn X.K (.ref fI) = some (.type "function")) (F1 : FnOk X.prog X.w X.K X.mg X.base CX k fI fd ps sp) (hr : Room (k + 1) X.A) (hb : Binds X.K fd ps []) (hx : Passes CX X fun _ _ _ => False) (hg : Gl X x) (hm : X.mg x = some (.ref C)) (ha : PA X (e :: es) ta)
    (hdb : (x == ("__debug__" : Str)) = false := by decide) (he : starEach (e :: es) X.env = (false, eval e X.env) :: starEach es X.env := by rfl) (hpl : (backTo pos (starEach es X.env)).any (·.1) = false := by rfl) :
    PMk X (.Call (.Name x p) (e :: es) [] pos) (fun σ H Q => ta σ H fun vs H1 => vs.length ≤ 1000 ∧ ∀ a, H1 a = none → sp (.ref a :: vs) (upd H1 a (exo a C none)) (fun v H2 => v = .non ∧ ∃ (d : Addr) (fs : List (Str × V)), H2 a = some (exo a C (some d)) ∧ H2 d = some (exd d fs) ∧ H1 d = none ∧ Q (.ref C) (some d) (upd (del H2 a) d (.xd fs))) fun _ _ _ => False) := by
  intro pins s σ H Q I h
  obtain ⟨nm, q, N, bs, bm, sn, sub, ab, col, dd, k0, k1, k2, k3, k5, B, ni, ii, bmB, hC, hF, hT, _, _⟩ := T.cls
  refine wpAny_Call_Name_kw (ld_glob I hg hm ?_ hdb)
  refine PySem.W.callWith_K (h₀ := X.base) I.ok.mod.kin T.kC (thn (ha.run pos pins s σ H _ I h) ?_) he hpl
  rintro us ⟨hp, g, dr, tk, os⟩ ⟨vs, H1, I1, r1, hz, q1⟩
  refine ⟨I1.kIn, ?_⟩
  show wpAny _ _ (call (.ref C) us) _ _ _
  have up1 : hp.objs.size ≤ hp.objs.size + 1 := by omega
  have hq := q1 (hp.objs.size + 1) (I1.hok.fresh up1)
  obtain ⟨h2, eh2⟩ : ∃ h2, h2 = (hp.push (PySem.W.kdv_tup us)).push (PySem.HandSPX.excO C hp.objs.size) := ⟨_, rfl⟩
  have kk : ∀ b o, hp.get? b = some o → h2.get? b = some o := fun b o z => by
    rw [eh2]
    exact Heap.get?_push_of_some _ (Heap.get?_push_of_some _ z)
  have hget : h2.get? (hp.objs.size + 1) = some (PySem.HandSPX.excO C hp.objs.size) := by
    rw [eh2]
    heap_get
  have I2 : Inv X pins σ (upd H1 (hp.objs.size + 1) (exo (hp.objs.size + 1) C none)) ⟨h2, g, dr, tk, os⟩ := I1.laid (t' := tk) (a := hp.objs.size + 1) (h' := h2) kk up1 (exo_ok hget)
  have r2 : Vals (V.ref (hp.objs.size + 1) :: vs) (Value.ref (hp.objs.size + 1) :: us) := .cons rfl r1
  have hl : (Value.ref (hp.objs.size + 1) :: us).length = ps.length := r2.length.symm.trans (F1.len _ _ _ _ hq)
  have hus : us.length ≤ sizeLine := by
    have z := Paired.length r1
    rw [sizeLine_eq]
    omega
  have hb2 := hb ⟨h2, g, dr, tk, os⟩ (Value.ref (hp.objs.size + 1) :: us) I2.kIn (by rw [List.append_nil]; exact hl)
  rw [List.append_nil] at hb2
  refine wpAny_call (PySem.HandSPX.call_own hF hT (I1.kIn _ _ hC) (PySem.W.looks_findIn I1.kIn iC) (fun self => PySem.W.bind_fn I1.kIn self tI) hus ?_)
  rw [← eh2]
  refine codeAny_mono (F1.run _ X.stack _ _ ⟨Value.ref (hp.objs.size + 1) :: us, []⟩ (Value.ref (hp.objs.size + 1) :: us) _ _ (fun _ _ _ => False) (hr.make C us []) (I2.env0.make C us []) hb2 r2 hq) ?_
  rintro (er | fl) s' hq'
  · exact hx pins σ _ _ er s' I2 hq'
  · cases fl with
    | ret u =>
      obtain ⟨v, H2, os2, bare2, un2, hok2, rv, ev, d, fs, ea, ed, hd1, q2⟩ := hq'
      subst ev
      obtain ⟨h3, g3, d3, t3, os3⟩ := s'
      exact ⟨rv, mk_end (raises_own T.exC T.tyC) I1 up1 kk un2 hok2 os2 bare2 ea ed hd1 q2⟩
    | next => exact False.elim hq'
    | brk => exact False.elim hq'
    | cont => exact False.elim hq'
theorem pmk_new {k j : Nat} {x f : Str} {e : Expr} {te : TE} {p pos : Pos} (c : MkE X.prog X.w X.K X.mg X.base k x f) (hr : Room j X.A) (hk : k + 1 ≤ j) (hg : Gl X x) (ha : PE X e te)
    (hdb : (x == ("__debug__" : Str)) = false := by decide) (he : starEach [e] X.env = (false, eval e X.env) :: starEach [] X.env := by rfl) (hpl : (backTo pos (starEach ([] : List Expr) X.env)).any (·.1) = false := by rfl) :
    PMk X (.Call (.Name x p) [e] [] pos) (fun σ H Q => te σ H fun y H1 => rMk X.K X.mg x f σ y H1 Q) := by
  obtain ⟨C, fI, fd, ps, h1, h2, h3, h4, h5, F, b, _⟩ := c.ex
  intro pins s σ H Q I h
  refine pmk_gen (pos := pos) (p := p) h2 h4 h5 F (hr.mono hk) b pass0 hg h1 (pa_cons (hs := he) ha pa_nil) hdb he hpl pins s σ H Q I ?_
  have e1 : ∀ P : Addr → Prop, (∀ C', X.mg x = some (.ref C') → ExcC X.K C' → P C') = P C := fun P => propext ⟨fun g => g C h1 h3, fun g C' z _ => by rw [cls_eq z h1]; exact g⟩
  unfold rMk at h
  simp only [e1] at h
  exact h
end
/-! ### classes with two fields -/
def spIni2 (K : PySem.W.Frag) (C : Addr) (f g : Str) : Sp := fun vs H Q _ => ∃ (a : Addr) (y z : V), vs = [.ref a, y, z] ∧ H a = some (exo a C none) ∧ ∀ dx, H dx = none → dx ≠ a → Q .non (upd (upd H dx (exd dx [(g, z), (f, y)])) a (exo a C (some dx)))
structure MkE2 (P : Program) (w : World) (K : PySem.W.Frag) (mg : Str → Option Value) (base : Heap) (k : Nat) (x f g : Str) : Prop where
  ex : ∃ (C fI : Addr) (fd : FuncData) (ps : List Str), mg x = some (.ref C) ∧ OexG K C ∧ ExcC K C ∧ PySem.W.findIn K (.ref C) "__init__" = some (some (.ref fI)) ∧ PySem.W.typeIn K (.ref fI) = some (.type "function") ∧ FnOk P w K mg base CX0 k fI fd ps (spIni2 K C f g) ∧ Binds K fd ps [] ∧
    ∀ (s : Shared) (u v z : Value), BindsTo s fd ⟨[u], [(g, v), (f, z)]⟩ (ps.zip [u, z, v])
section
variable {P : Program} {w : World} {K : PySem.W.Frag} {mg : Str → Option Value} {base : Heap}
theorem mke2 {x q f g : Str} {st : Stmt} {N ps : List Str} {k : Nat} (D : Ek K mg x q st) (hp : ps.length = 3)
    (hb : ∀ (kV doc pm : Value) (an : Option Addr) (cdv ct : Value) (us : List Value), us.length = ps.length → bindArgs (PySem.W.fnOf "__init__" q (defArgs st) (defBody st) (defScope st) .none kV doc pm an cdv ct) ⟨us, []⟩ = pure (ps.zip us))
    (hk : ∀ (kV doc pm : Value) (an : Option Addr) (cdv ct u v z : Value), bindArgs (PySem.W.fnOf "__init__" q (defArgs st) (defBody st) (defScope st) .none kV doc pm an cdv ct) ⟨[u], [(g, v), (f, z)]⟩ = pure (ps.zip [u, z, v]))
    (S : FnScope N ps (defScope st))
    (hbody : ∀ (C f' : Addr) (cdv : Value) (A : Around) (outer : List Env) (s : Shared) (H : Hp) (vs : List V) (Q : VK) (E : XK), mg x = some (.ref C) → Room k (A.deeper (envOfC q (defScope st) s.heap.objs.size f' cdv)) → spIni2 K C f g vs H Q E →
      ∃ t, PSs (cxOf CX0 P w K mg base N q (defScope st) f' cdv A outer s H E).nox (defBody st) t ∧ t { nx := fun _ H' => Q .non H', rt := Q } (start N vs) H) : MkE2 P w K mg base (k + 1) x f g := by
  obtain ⟨C, fI, fd, h1, h2, h3, h4, h5, F⟩ := D.ex
  refine ⟨C, fI, fd, ps, h1, h2, h3, h4, h5, F.ok S (fun vs H Q E h => ?_) (fun cdv A outer s H vs Q E hr h => hbody C fI cdv A outer s H vs Q E h1 hr h), F.binds hb, fun s u v z => ?_⟩
  · obtain ⟨a, y, z, rfl, _⟩ := h
    rw [hp]
    rfl
  · obtain ⟨oc, od, kV, doc, pm, an, cdv, ct, osl, rfl, lk, hcd⟩ := F.ex
    exact .of_eq (hk kV doc pm an cdv ct u v z)
end
/-- two stores on a new exception -/
theorem two_st {H : Hp} {a dx : Addr} {u v v' : HO} (h : dx ≠ a) : upd (upd (upd H dx v) a u) dx v' = upd (upd H dx v') a u := by
  funext b
  by_cases h1 : b = dx
  · rw [h1, upd_same, upd_ne h, upd_same]
  · by_cases h2 : b = a
    · rw [h2, upd_ne (Ne.symm h), upd_same, upd_same]
    · rw [upd_ne h1, upd_ne h2, upd_ne h1, upd_ne h2, upd_ne h1]
section
variable {X : Cx}
@[irreducible] def rMk2 (K : PySem.W.Frag) (mg : Str → Option Value) (x f g : Str) (σ : L2.St) (y z : V) (H1 : Hp) (Q : XK) : Prop := ∀ C, mg x = some (.ref C) → ExcC K C → (tNil σ H1 fun ys H2 => (y :: z :: ys).length ≤ 1000 ∧ ∀ a, H2 a = none → spIni2 K C f g (.ref a :: (y :: z :: ys)) (upd H2 a (exo a C none))
  (fun v H3 => v = .non ∧ ∃ (d : Addr) (fs : List (Str × V)), H3 a = some (exo a C (some d)) ∧ H3 d = some (exd d fs) ∧ H2 d = none ∧ Q (.ref C) (some d) (upd (del H3 a) d (.xd fs))) fun _ _ _ => False)
theorem mk_at2 {K : PySem.W.Frag} {mg : Str → Option Value} {x f g : Str} {y z : V} {σ : L2.St} {H1 : Hp} {Q : XK} (q : ∀ C H' d, mg x = some (.ref C) → ExcC K C → Same H1 H' → H' d = some (.xd [(g, z), (f, y)]) → Q (.ref C) (some d) H') : rMk2 K mg x f g σ y z H1 Q := by
  unfold rMk2
  intro C hC T
  refine (show 2 ≤ 1000 ∧ _ from ⟨by decide, fun a ha => ⟨a, y, z, rfl, upd_same, fun dx hdx hne => ⟨rfl, dx, [(g, z), (f, y)], upd_same, ?_, ?_, q C _ dx hC T ?_ upd_same⟩⟩⟩)
  · rw [upd_ne hne, upd_same]
  · rw [upd_ne hne] at hdx
    exact hdx
  · have hd : H1 dx = none := by
      rw [upd_ne hne] at hdx
      exact hdx
    intro b o e
    have e1 : b ≠ a := ne_of_none e ha
    have e2 : b ≠ dx := ne_of_none e hd
    rw [upd_ne e2, del_ne e1, upd_ne e1, upd_ne e2, upd_ne e1, e]
theorem pmk_new2 {k j : Nat} {x f g : Str} {e1 e2 : Expr} {t1 t2 : TE} {p pos : Pos} (c : MkE2 X.prog X.w X.K X.mg X.base k x f g) (hr : Room j X.A) (hk : k + 1 ≤ j) (hg : Gl X x) (ha : PA X [e1, e2] (tCons t1 (tCons t2 tNil)))
    (hdb : (x == ("__debug__" : Str)) = false := by decide) (he : starEach [e1, e2] X.env = (false, eval e1 X.env) :: starEach [e2] X.env := by rfl) (hpl : (backTo pos (starEach [e2] X.env)).any (·.1) = false := by rfl) :
    PMk X (.Call (.Name x p) [e1, e2] [] pos) (fun σ H Q => t1 σ H fun y H1 => t2 σ H1 fun z H2 => rMk2 X.K X.mg x f g σ y z H2 Q) := by
  obtain ⟨C, fI, fd, ps, h1, h2, h3, h4, h5, F, b, _⟩ := c.ex
  intro pins s σ H Q I h
  refine pmk_gen (pos := pos) (p := p) h2 h4 h5 F (hr.mono hk) b pass0 hg h1 ha hdb he hpl pins s σ H Q I ?_
  have e1 : ∀ P : Addr → Prop, (∀ C', X.mg x = some (.ref C') → ExcC X.K C' → P C') = P C := fun P => propext ⟨fun g => g C h1 h3, fun g C' z _ => by rw [cls_eq z h1]; exact g⟩
  unfold rMk2 at h
  simp only [e1] at h
  exact h
@[irreducible] def rNew2 (K : PySem.W.Frag) (mg : Str → Option Value) (x f g : Str) (σ : L2.St) (z y : V) (H1 : Hp) (Q : VK) : Prop := ∀ C, mg x = some (.ref C) → ExcC K C → ∀ a, H1 a = none → spIni2 K C f g [.ref a, y, z] (upd H1 a (exo a C none)) (fun v H3 => v = .non ∧ Q (.ref a) H3) fun _ _ _ => False
theorem new_at2 {K : PySem.W.Frag} {mg : Str → Option Value} {x f g : Str} {y z : V} {σ : L2.St} {H1 : Hp} {Q : VK} (q : ∀ H' a, Same H1 H' → Ex1 K mg x H' a [(g, z), (f, y)] → Q (.ref a) H') : rNew2 K mg x f g σ z y H1 Q := by
  unfold rNew2
  intro C hC T a ha
  refine ⟨a, y, z, rfl, upd_same, fun dx hdx hne => ⟨rfl, q _ a (fun b o w => ?_) ⟨C, hC, T, dx, .inl upd_same, .inl ?_⟩⟩⟩
  · have hb : b ≠ a := ne_of_none w ha
    have hd : b ≠ dx := fun e => by
      rw [← e, upd_ne hb, w] at hdx
      cases hdx
    rw [upd_ne hb, upd_ne hd, upd_ne hb]
    exact w
  · rw [upd_ne hne, upd_same]
/-- C(g = e1, f = e2) -/
theorem pe_newK2 {k j : Nat} {x f g : Str} {e1 e2 : Expr} {t1 t2 : TE} {p pos kp1 kp2 : Pos} (c : MkE2 X.prog X.w X.K X.mg X.base k x f g) (hr : Room j X.A) (hk : k + 1 ≤ j) (hg : Gl X x) (h1e : PE X e1 t1) (h2e : PE X e2 t2)
    (hall : (backToKw pos (keywordEach [⟨some g, e1, kp1⟩, ⟨some f, e2, kp2⟩] X.env)).all (·.1.isSome) = true := by rfl) (hks : (backToKw pos (keywordEach [⟨some g, e1, kp1⟩, ⟨some f, e2, kp2⟩] X.env)).filterMap (·.1) = [g, f] := by rfl) (hdb : (x == ("__debug__" : Str)) = false := by decide)
    (hpl : ((backTo pos (starEach ([] : List Expr) X.env)).any (·.1) || (backToKw pos (keywordEach [⟨some g, e1, kp1⟩, ⟨some f, e2, kp2⟩] X.env)).any (·.1.isNone)) = false := by rfl) :
    PE X (.Call (.Name x p) [] [⟨some g, e1, kp1⟩, ⟨some f, e2, kp2⟩] pos) (fun σ H Q => t1 σ H fun z H1 => t2 σ H1 fun y H2 => rNew2 X.K X.mg x f g σ z y H2 Q) := by
  obtain ⟨C, fI, fd, ps, h1, h2, h3, h4, h5, F, _, b⟩ := c.ex
  constructor
  intro pins s σ H Q I h
  obtain ⟨nm, q, N, bs, bm, sn, sub, ab, col, dd, k0, k1, k2, k3, k5, B, ni, ii, bmB, hC, hF, hT, _, _⟩ := h2.cls
  refine wpAny_Call_Name_kw (ld_glob I hg h1 ?_ hdb)
  refine PySem.W.callWith_KW0 (h₀ := X.base) I.ok.mod.kin h2.kC hall ?_ hpl
  have e1 : ∀ P : Addr → Prop, (∀ C', X.mg x = some (.ref C') → ExcC X.K C' → P C') = P C := fun P => propext ⟨fun g => g C h1 h3, fun g C' z _ => by rw [cls_eq z h1]; exact g⟩
  unfold rNew2 at h
  simp only [e1] at h
  refine thn ((pk_cons h1e (pk_cons h2e pk_nil)).run pos pins s σ H _ I (show tCons t1 (tCons t2 tNil) σ H (fun vs H2 => match vs with
    | [z, y] => ∀ a, H2 a = none → spIni2 X.K C f g [.ref a, y, z] (upd H2 a (exo a C none)) (fun v H3 => v = .non ∧ Q (.ref a) H3) fun _ _ _ => False
    | _ => False) from h)) ?_
  rintro ws ⟨hp, gg, dr, tk, os⟩ ⟨zs, H1, I1, rz, hm⟩
  obtain ⟨z, y, rfl⟩ : ∃ z y, zs = [z, y] := by
    rcases zs with _ | ⟨z, _ | ⟨y, _ | ⟨_, _⟩⟩⟩
    · exact False.elim hm
    · exact False.elim hm
    · exact ⟨z, y, rfl⟩
    · exact False.elim hm
  have q1 : ∀ a, H1 a = none → spIni2 X.K C f g [.ref a, y, z] (upd H1 a (exo a C none)) (fun v H3 => v = .non ∧ Q (.ref a) H3) fun _ _ _ => False := hm
  refine ⟨I1.kIn, ?_⟩
  rw [hks]
  have up1 : hp.objs.size ≤ hp.objs.size + 1 := by omega
  have hq := q1 (hp.objs.size + 1) (I1.hok.fresh up1)
  obtain ⟨u, v, rfl, ru, rv⟩ := vals2 rz
  obtain ⟨h2', eh2⟩ : ∃ h2', h2' = (hp.push (PySem.W.kdv_tup [])).push (PySem.HandSPX.excO C hp.objs.size) := ⟨_, rfl⟩
  have kk : ∀ b o, hp.get? b = some o → h2'.get? b = some o := fun b o z => by
    rw [eh2]
    exact Heap.get?_push_of_some _ (Heap.get?_push_of_some _ z)
  have hget : h2'.get? (hp.objs.size + 1) = some (PySem.HandSPX.excO C hp.objs.size) := by
    rw [eh2]
    heap_get
  have I2 : Inv X pins σ (upd H1 (hp.objs.size + 1) (exo (hp.objs.size + 1) C none)) ⟨h2', gg, dr, tk, os⟩ := I1.laid (t' := tk) (a := hp.objs.size + 1) (h' := h2') kk up1 (exo_ok hget)
  have r2 : Vals [V.ref (hp.objs.size + 1), y, z] [Value.ref (hp.objs.size + 1), v, u] := .cons rfl (.cons rv (.cons ru .nil))
  refine wpAny_call (PySem.XOK.call_kw (kw := [(g, u), (f, v)]) hF hT (I1.kIn _ _ hC) (PySem.W.looks_findIn I1.kIn h4) (fun self => PySem.W.bind_fn I1.kIn self h5) ?_)
  rw [← eh2]
  refine codeAny_mono (F.run _ X.stack _ _ ⟨[.ref (hp.objs.size + 1)], [(g, u), (f, v)]⟩ [.ref (hp.objs.size + 1), v, u] _ _ (fun _ _ _ => False) ((hr.mono hk).make C [] [(g, u), (f, v)]) (I2.env0.make C [] [(g, u), (f, v)]) (b _ _ _ _) r2 hq) ?_
  rintro (er | fl) s' hq'
  · exact pass0 pins σ _ _ er s' I2 hq'
  · cases fl with
    | ret u =>
      obtain ⟨v, H2, os2, bare2, un2, hok2, rv, ev, q2⟩ := hq'
      subst ev
      exact ⟨rv, .ref (hp.objs.size + 1), H2, I2.call' (ch := []) os2 un2 hok2 bare2 (fun b z => absurd z (by simp)), rfl, q2⟩
    | next => exact False.elim hq'
    | brk => exact False.elim hq'
    | cont => exact False.elim hq'
end
section
variable {X : Cx} {W : WX}
/-- raise C(e) -/
theorem ps_rs {K : PySem.W.Frag} {mg : Str → Option Value} {k j : Nat} {x f : Str} {e : Expr} {te : TE} {p pos pos' : Pos} (hK : X.K = K) (hmg : X.mg = mg) (hcm : X.calm = true) (tk : Takes X W) (c : MkE X.prog X.w X.K X.mg X.base k x f) (hr : Room j X.A) (hk : k + 1 ≤ j) (hg : Gl X x) (ha : PE X e te)
    (hdb : (x == ("__debug__" : Str)) = false := by decide) (he : starEach [e] X.env = (false, eval e X.env) :: starEach [] X.env := by rfl) (hpl : (backTo pos (starEach ([] : List Expr) X.env)).any (·.1) = false := by rfl) :
    PS X (.Raise (some (.Call (.Name x p) [e] [] pos)) none pos') (fun _ σ H => te σ H fun y H1 => rMk K mg x f σ y H1 fun cls d H' => W cls d σ H') := by
  subst hK hmg
  exact ps_raise hcm tk (pmk_new c hr hk hg ha hdb he hpl)
theorem ps_rs2 {K : PySem.W.Frag} {mg : Str → Option Value} {k j : Nat} {x f g : Str} {e1 e2 : Expr} {t1 t2 : TE} {p pos pos' : Pos} (hK : X.K = K) (hmg : X.mg = mg) (hcm : X.calm = true) (tk : Takes X W) (c : MkE2 X.prog X.w X.K X.mg X.base k x f g) (hr : Room j X.A) (hk : k + 1 ≤ j) (hg : Gl X x) (ha : PA X [e1, e2] (tCons t1 (tCons t2 tNil)))
    (hdb : (x == ("__debug__" : Str)) = false := by decide) (he : starEach [e1, e2] X.env = (false, eval e1 X.env) :: starEach [e2] X.env := by rfl) (hpl : (backTo pos (starEach [e2] X.env)).any (·.1) = false := by rfl) :
    PS X (.Raise (some (.Call (.Name x p) [e1, e2] [] pos)) none pos') (fun _ σ H => t1 σ H fun y H1 => t2 σ H1 fun z H2 => rMk2 K mg x f g σ y z H2 fun cls d H' => W cls d σ H') := by
  subst hK hmg
  exact ps_raise hcm tk (pmk_new2 c hr hk hg ha hdb he hpl)
end
end XB
set_option Elab.async false
set_option linter.all false
set_option maxRecDepth 100000
set_option maxHeartbeats 4000000
/-! own classes: operators, items, lengths told by their methods -/
namespace XB
open PySem PySem.Spec PyProof.Rows L2
section
variable {X : Cx} {CX : CXT} {k : Nat} {C f : Addr} {fd : FuncData} {ps : List Str} {sp : Sp} {E : XK}
/-- a def called on values, in the model's words -/
theorem run_def (F : FnOk X.prog X.w X.K X.mg X.base CX k f fd ps sp) (hr : Room k X.A) (hb : L2.Binds X.K fd ps []) (hx : Passes CX X E) {pins : List (Addr × Obj)} {σ : L2.St} {H : Hp} {s : Shared} (I : Inv X pins σ H s) {us : List Value} {vs : List V} (hv : Vals vs us) {Q : VK} (h : sp vs H Q E) :
    wpAny (model X.prog X.w) X.A (call (.ref f) us) (EP X pins σ Q) X.xe s := by
  have hl := F.len vs H Q E h
  have b := hb s us I.kIn (by rw [List.append_nil, ← hv.length]; exact hl)
  rw [List.append_nil] at b
  refine wpAny_call (codeAny_mono (F.run _ X.stack _ _ ⟨us, []⟩ us _ Q E hr I.env0 b hv h) ?_)
  rintro (er | fl) s' hq'
  · exact hx pins σ _ _ er s' I hq'
  · cases fl with
    | ret u =>
      obtain ⟨v, H2, os2, bare2, un2, hok2, rv, q2⟩ := hq'
      exact ⟨v, H2, I.call' (ch := []) os2 un2 hok2 bare2 (fun b z => absurd z (by simp)), rv, q2⟩
    | next => exact False.elim hq'
    | brk => exact False.elim hq'
    | cont => exact False.elim hq'
/-- the same, one unit deeper: within a built-in -/
theorem run_at {A' : Around} (hfr : A'.frames = X.A.frames) (F : FnOk X.prog X.w X.K X.mg X.base CX k f fd ps sp) (hr : Room k X.A) (hb : L2.Binds X.K fd ps []) (hx : Passes CX X E) {pins : List (Addr × Obj)} {σ : L2.St} {H : Hp} {s : Shared} (I : Inv X pins σ H s) {us : List Value} {vs : List V} (hv : Vals vs us) {Q : VK} (hr1 : Room k A') (h : sp vs H Q E) :
    wpAny (model X.prog X.w) A' (call (.ref f) us) (EP X pins σ Q) X.xe s := by
  have hl := F.len vs H Q E h
  have b := hb s us I.kIn (by rw [List.append_nil, ← hv.length]; exact hl)
  rw [List.append_nil] at b
  have e0 := I.env0
  have e1 : Env0 X.prog X.w X.K X.mg X.base A' X.stack s H := ⟨hfr.trans e0.frames, e0.mod, e0.bs, e0.bsz, e0.funs, e0.frf, e0.hok, e0.bare⟩
  refine wpAny_call (codeAny_mono (F.run _ X.stack _ _ ⟨us, []⟩ us _ Q E hr1 e1 b hv h) ?_)
  rintro (er | fl) s' hq'
  · exact hx pins σ _ _ er s' I hq'
  · cases fl with
    | ret u =>
      obtain ⟨v, H2, os2, bare2, un2, hok2, rv, q2⟩ := hq'
      exact ⟨v, H2, I.call' (ch := []) os2 un2 hok2 bare2 (fun b z => absurd z (by simp)), rv, q2⟩
    | next => exact False.elim hq'
    | brk => exact False.elim hq'
    | cont => exact False.elim hq'
theorem run_in1 (F : FnOk X.prog X.w X.K X.mg X.base CX k f fd ps sp) (hr : Room k X.A) (hb : L2.Binds X.K fd ps []) (hx : Passes CX X E) {pins : List (Addr × Obj)} {σ : L2.St} {H : Hp} {s : Shared} (I : Inv X pins σ H s) {us : List Value} {vs : List V} (hv : Vals vs us) {Q : VK} (hr1 : Room k X.A.in1) (h : sp vs H Q E) :
    wpAny (model X.prog X.w) X.A.in1 (call (.ref f) us) (EP X pins σ Q) X.xe s := run_at (A' := X.A.in1) rfl F hr hb hx I hv hr1 h
theorem Room.in1 {k j : Nat} {A : Around} (h : Room j A) (hk : k + 1 ≤ j) : Room k A.in1 := ⟨h.hd, by have := h.dp; show A.depth + 3 * k + 5 < recursionLimit; omega, by have := h.un; show A.units + 1 + 16 * k + 200 < cLine; omega⟩
theorem ins_at {pins : List (Addr × Obj)} {σ : L2.St} {H : Hp} {s : Shared} {a C dx : Addr} {fs : List (Str × V)} (I : Inv X pins σ H s) (h : H a = some (.ins C dx fs)) : ∃ ox od, PySem.W.InstAt s.heap a ox C od := by
  obtain ⟨ox, od, h1, _⟩ := StX.insC_at I (.inr ⟨dx, fs, h⟩)
  exact ⟨ox, od, h1⟩
theorem cmpBack {Q : VK} {pins : List (Addr × Obj)} {σ : L2.St} {u : Value} {s' : Shared} (h : EP X pins σ Q u s') : PySem.W.CmpBack (EP X pins σ Q) u s' := by
  obtain ⟨v, H', I, r, q⟩ := id h
  cases u with
  | notImplemented => cases v <;> first | (cases r; done) | (obtain ⟨_, r⟩ := r; cases r; done)
  | _ => exact h
theorem looks_ins {M : Model} {h : Heap} {b C : Addr} {oy : Obj} {oe : Option Obj} (ib : PySem.W.InstAt h b oy C oe) : PySem.W.Looks M h (typeOf (.ref b)) (.ref C) := by
  intro A Q E s keep hq
  have hg := keep _ _ ib.at_
  unfold typeOf
  repeat (first | with_reducible refine wpAny_loadPart_at hg ?_ | wp_step)
  rw [ib.cls]
  exact hq
/-- two things of an own class, joined by its operator -/
def rOwn2 (C : Addr) (sp : Sp) (E : XK) : R2 := fun x y H Q => ∃ a dx fs b dy gs, x = .ref a ∧ y = .ref b ∧ H a = some (.ins C dx fs) ∧ H b = some (.ins C dy gs) ∧ sp [x, y] H Q E
theorem op_own2 {op : Operator} (sf : PySem.W.selfFirst X.K C = true) (M : Meth X.K C (dunder op.info.snd) f) (F : FnOk X.prog X.w X.K X.mg X.base CX k f fd ps sp) (hr : Room k X.A) (hb : L2.Binds X.K fd ps []) (hx : Passes CX X E) : OpR X (binaryOp op) (rOwn2 C sp E) := by
  intro pins s σ H x y v u Q I rx ry h
  obtain ⟨a, dx, fs, b, dy, gs, rfl, rfl, ha, hbb, q⟩ := h
  obtain rfl : v = .ref a := rx
  obtain rfl : u = .ref b := ry
  obtain ⟨ox, od, ia⟩ := ins_at I ha
  obtain ⟨oy, oe, ib⟩ := ins_at I hbb
  obtain ⟨m, fr⟩ := I.fr
  refine PySem.W.binop_K fr I.mod.kin ia ?_ sf M.at_ M.fn (wpAny_mono (run_def F hr hb hx I (show Vals [V.ref a, V.ref b] [Value.ref a, Value.ref b] from .cons rfl (.cons rfl .nil)) q) (fun u' s' h' => cmpBack h') fun e s' he => he)
  exact looks_ins ib
/-- an item of a thing of an own class -/
def rOwnIx (C : Addr) (sp : Sp) (E : XK) : R2 := fun x y H Q => ∃ a dx fs, x = .ref a ∧ H a = some (.ins C dx fs) ∧ sp [x, y] H Q E
theorem entry_subscript : entryFor table "lifetime.subscript" = some Builtin.«lifetime.subscript» := entryFor_of_fast (id (Eq.refl (fastTable "lifetime.subscript")))
theorem callSp_own {A : Around} {pins : List (Addr × Obj)} {σ : L2.St} {H : Hp} {s : Shared} {a dx : Addr} {fs : List (Str × V)} {name : Str} {args : List Value} {Q : Option Value → Shared → Prop} {Ex : Value → Shared → Prop} (I : Inv X pins σ H s) (ha : H a = some (.ins C dx fs)) (M : Meth X.K C name f)
    (h : wpAny (model X.prog X.w) A (call (.ref f) (.ref a :: args)) (fun v => Q (some v)) Ex s) : wpAny (model X.prog X.w) A (callSpecial? (.ref a) name args) Q Ex s := by
  obtain ⟨ox, od, ia⟩ := ins_at I ha
  unfold callSpecial? specialOf
  refine wpAny_bind (wpAny_bind (looks_ins ia A _ _ s (fun _ _ z => z) ?_))
  refine PySem.W.looks_findIn I.kIn M.at_ A _ _ s (fun _ _ z => z) ?_
  refine wpAny_holding (wpAny_bind (PySem.W.bind_fn I.kIn (.ref a) (by
    have := M.fn
    unfold PySem.W.isFn at this
    exact eq_of_beq this) A _ _ s (fun _ _ z => z) ?_))
  refine wpAny_bind (thn h fun v s' q => ?_)
  exact wpAny_pure q
theorem getitemPy_own {A : Around} {pins : List (Addr × Obj)} {σ : L2.St} {H : Hp} {s : Shared} {a dx : Addr} {fs : List (Str × V)} {Q : Bool → Shared → Prop} {Ex : Value → Shared → Prop} (I : Inv X pins σ H s) (ha : H a = some (.ins C dx fs)) (M : Meth X.K C "__getitem__" f) {oc : Value} {od : Option Addr} {fdd : FuncData} {osl : Array (Option Value)} (lk : X.K.lookup f = some ⟨oc, od, .func fdd, osl⟩)
    (h : Q true s) : wpAny (model X.prog X.w) A (getitemInPython (.ref a)) Q Ex s := by
  obtain ⟨ox, od, ia⟩ := ins_at I ha
  unfold getitemInPython specialOf
  refine wpAny_bind (wpAny_bind (looks_ins ia A _ _ s (fun _ _ z => z) ?_))
  refine PySem.W.looks_findIn I.kIn M.at_ A _ _ s (fun _ _ z => z) ?_
  refine wpAny_bind (wpAny_load (I.kIn _ _ lk) ?_)
  exact wpAny_pure h
theorem pe_ixOwn {j : Nat} {a b : Expr} {ta tb : TE} {pos : Pos} (M : Meth X.K C "__getitem__" f) {oc : Value} {od : Option Addr} {fdd : FuncData} {osl : Array (Option Value)} (lk : X.K.lookup f = some ⟨oc, od, .func fdd, osl⟩) (F : FnOk X.prog X.w X.K X.mg X.base CX k f fd ps sp) (hr : Room j X.A) (hk : k + 1 ≤ j) (hb : L2.Binds X.K fd ps []) (hx : Passes CX X E)
    (ha : PE X a ta) (hbb : PE X b tb) (hsl : ∀ o i, subscripted b true o i = runValue (Code.builtin "lifetime.subscript" ⟨[o, i], []⟩)) (hlt : ∀ o r, letTemporaryGo a o r = pure ()) : PE X (.Subscript a b pos) (tOp (rOwnIx C sp E) ta tb) := by
  constructor
  intro pins s σ H Q I h
  rw [eval_Subscript]
  refine wpAny_bind (thn (ha.run pins s σ H _ I h) ?_)
  rintro v s1 ⟨x, H1, I1, rx, h1⟩
  refine wpAny_bind (wpAny_holding (thn (hbb.run pins s1 σ H1 _ I1 h1) ?_))
  rintro u s2 ⟨y, H2, I2, ry, h2⟩
  obtain ⟨p, dx, fs, rfl, hp, q⟩ := h2
  obtain rfl : v = .ref p := rx
  refine wpAny_bind (wpAny_standAt ?_)
  refine wpAny_bind (getitemPy_own I2 hp M lk ?_)
  rw [hsl]
  refine wpAny_bind ?_
  have g : wpAny (model X.prog X.w) (X.A.under (Code.builtin "lifetime.subscript" ⟨[.ref p, u], []⟩)) (call (.ref f) [.ref p, u]) (EP X pins σ Q) X.xe s2 := run_at (A' := X.A.under (Code.builtin "lifetime.subscript" ⟨[.ref p, u], []⟩)) rfl F (hr.mono (by omega)) hb hx I2 (show Vals [V.ref p, y] [Value.ref p, u] from .cons rfl (.cons ry .nil)) (Room.in1 hr hk) q
  refine wpAny_runValue (codeAny_builtin entry_subscript ?_)
  unfold Builtin.«lifetime.subscript»
  refine wpAny_bind (callSp_own I2 hp M (thn g ?_))
  intro v s3 hv
  refine wpAny_pure ?_
  show wpAny _ _ _ _ _ _
  rw [hlt]
  exact wpAny_bind (wpAny_pure (wpAny_pure hv))
/-- the length of a thing of an own class -/
theorem call_ownLen {j : Nat} (M : Meth X.K C "__len__" f) (F : FnOk X.prog X.w X.K X.mg X.base CX k f fd ps sp) (hr : Room j X.A) (hk : k + 1 ≤ j) (hb : L2.Binds X.K fd ps []) (hx : Passes CX X E) : CallR X (.builtin "len") (fun xs H Q => ∃ a dx fs, xs = [.ref a] ∧ H a = some (.ins C dx fs) ∧ sp xs H (fun v H' => ∃ n : Nat, v = .int n ∧ n < 2 ^ 63 ∧ Q (.int n) H') E) := by
  intro pins s σ H xs us Q I rxs h
  obtain ⟨a, dx, fs, rfl, ha, q⟩ := h
  obtain ⟨u, rfl, ru⟩ := rxs.one
  obtain rfl : u = .ref a := ru
  obtain ⟨ox, od, ia⟩ := ins_at I ha
  obtain ⟨m, fr⟩ := I.fr
  refine PySem.W.len_K fr I.mod.kin ia M.at_ M.fn (wpAny_mono (run_in1 F (hr.mono (by omega)) hb hx I rxs (Room.in1 hr hk) q) (fun u' s' h' => ?_) fun e s' he => he)
  obtain ⟨v, H', I', r, n, rfl, hn, q'⟩ := h'
  obtain ⟨t, rfl⟩ := r
  exact ⟨⟨by omega, by omega⟩, .int n, H', I'.tok _, ⟨_, rfl⟩, q'⟩
end
end XB
set_option Elab.async false
set_option linter.all false
set_option maxRecDepth 100000
set_option maxHeartbeats 4000000
/-! promises of defs that may ask for repr: no repr runs around them -/
namespace XB
open PySem PySem.Spec PyProof.Rows L2
section
variable {P : Program} {w : World} {K : PySem.W.Frag} {mg : Str → Option Value} {base : Heap} {CX : CXT}
/-- a promise that is kept where no repr runs around -/
structure FnG (P : Program) (w : World) (K : PySem.W.Frag) (mg : Str → Option Value) (base : Heap) (CX : CXT) (lev : Nat) (at_ : Addr) (fdat : FuncData) (pars : List Str) (sp : Sp) : Prop where
  many : ∀ vs H Q E, sp vs H Q E → vs.length = pars.length
  goes : ∀ {A : Around} {outer : List Env} {s : Shared} {H : Hp} {args : Args} {us : List Value} {vs : List V} {Q : VK} {E : XK}, A.guards = some [] → Room lev A → Env0 P w K mg base A outer s H →
    BindsTo s fdat args (pars.zip us) → Vals vs us → sp vs H Q E → codeAny (model P w) A (.call (.ref at_) args) (CR CX outer P w H s Q E) s
theorem FnOk.toG {k : Nat} {f : Addr} {fd : FuncData} {ps : List Str} {sp : Sp} (F : FnOk P w K mg base CX k f fd ps sp) : FnG P w K mg base CX k f fd ps sp :=
  ⟨F.len, fun _ hr e0 hb r h => F.run _ _ _ _ _ _ _ _ _ hr e0 hb r h⟩
theorem FnG.mono {j k : Nat} {f : Addr} {fd : FuncData} {ps : List Str} {sp : Sp} (F : FnG P w K mg base CX j f fd ps sp) (h : j ≤ k) : FnG P w K mg base CX k f fd ps sp :=
  ⟨F.many, fun hg hr => F.goes hg (hr.mono h)⟩
/-- the def's body, where no repr runs around -/
theorem fng_of {k : Nat} {f : Addr} {nm ql : Str} {pars : Arguments} {bd : List Stmt} {sc : Scope} {d1 d2 d3 d4 cdv d5 d6 : Value} {o1 o2 : Option Addr} {osl : Array (Option Value)} {N ps : List Str} {sp : Sp}
    (lk : K.lookup f = some ⟨d6, o2, .func (PySem.W.fnOf nm ql pars bd sc d1 d2 d3 d4 o1 cdv d5), osl⟩) (hcd : PySem.W.codeIn K cdv ql = true) (S : FnScope N ps sc) (len : ∀ vs H Q E, sp vs H Q E → vs.length = ps.length)
    (hbody : ∀ (A : Around) (outer : List Env) (s : Shared) (H : Hp) (vs : List V) (Q : VK) (E : XK), A.guards = some [] → Room k (A.deeper (envOfC ql sc s.heap.objs.size f cdv)) → sp vs H Q E →
      ∃ t, PSs (cxOf CX P w K mg base N ql sc f cdv A outer s H E) bd t ∧ t { nx := fun _ H' => Q .non H', rt := Q } (start N vs) H) :
    FnG P w K mg base CX (k + 1) f (PySem.W.fnOf nm ql pars bd sc d1 d2 d3 d4 o1 cdv d5) ps sp := by
  constructor
  · exact len
  · intro A outer s H args us vs Q E hgu hr e0 hbd rel hsp
    have stays : ∀ b o, base.get? b = some o → s.heap.get? b = some o := fun b o e => (e0.bs b o e).1
    have KX : K.In s.heap := e0.mod.kin.keeps stays
    have kinds : ∀ y ∈ ps.zip us, sc.names.lookup y.1 = some .local ∨ (sc.names.lookup y.1 = some .cell ∧ ((cellsFrom (s.heap.objs.size + 1) sc.names []).lookup y.1).isSome = true) := by
      rintro ⟨x, v⟩ hy
      exact (S.par x (List.of_mem_zip hy).1).imp id fun q => ⟨q, PySem.W.cellsFrom_some _ _ _ (.inl q)⟩
    refine codeAny_call_function hr.depth (KX _ _ lk) rfl S.co S.gen rfl (PySem.W.codeRec_of KX hcd) (hbd _ _ _ _ ?_)
    refine wpAny_newFunctionEnv_cells S.kind kinds (fun env he s1 x => ?_)
    cases he
    refine ⟨(e0.mod.nolimit.keeps stays).keeps x.toInCall.keep, codeAny_func ?_⟩
    obtain ⟨t, ht, hq⟩ := hbody A outer s H vs Q E hgu (hr.deeper _) hsp
    have I := inv_start (CX := CX) (mg := mg) (base := base) (P := P) (w := w) (E := E) (cd := cdv) (f := f) (qual := ql) S hr.hd e0 (len _ _ _ _ hsp) rel x
    refine wpAny_mono (ht.run [] s1 _ H _ I hq) ?_ (fun _ _ z => z)
    rintro fl s' hs
    rcases fl with u | _ | _ | _ <;> first
      | (obtain ⟨v, σ', H', J, rv, q⟩ := hs; exact ⟨v, H', J.os, J.bare, J.base, J.hok, rv, q⟩)
      | (obtain ⟨σ', H', J, q⟩ := hs; first | exact ⟨V.non, H', J.os, J.bare, J.base, J.hok, rfl, q⟩ | exact False.elim q)
/-- a def that asks for repr, by its name -/
structure Cg (P : Program) (w : World) (K : PySem.W.Frag) (mg : Str → Option Value) (base : Heap) (CX : CXT) (k : Nat) (x : Str) (sp : Sp) : Prop where
  ex : ∃ (f : Addr) (fd : FuncData) (ps : List Str), FnG P w K mg base CX k f fd ps sp ∧ mg x = some (.ref f) ∧ PySem.W.keepIn K (.ref f) = true ∧ Binds K fd ps []
theorem Cl.toG {k : Nat} {x : Str} {sp : Sp} (c : Cl P w K mg base CX k x sp) : Cg P w K mg base CX k x sp := by
  obtain ⟨f, fd, ps, F, r⟩ := c.ex
  exact ⟨f, fd, ps, FnOk.toG F, r⟩
theorem cg0 {x : Str} {st : Stmt} {N ps : List Str} {k : Nat} {sp : Sp} (D : Dn K mg x st)
    (hb : ∀ (kV doc pm : Value) (an : Option Addr) (cdv ct : Value) (us : List Value), us.length = ps.length → bindArgs (PySem.W.fnOf x x (defArgs st) (defBody st) (defScope st) .none kV doc pm an cdv ct) ⟨us, []⟩ = pure (ps.zip us))
    (S : FnScope N ps (defScope st)) (len : ∀ vs H Q E, sp vs H Q E → vs.length = ps.length)
    (hbody : ∀ (f : Addr) (cdv : Value) (A : Around) (outer : List Env) (s : Shared) (H : Hp) (vs : List V) (Q : VK) (E : XK), (A.deeper (envOfC x (defScope st) s.heap.objs.size f cdv)).guards = some [] → Room k (A.deeper (envOfC x (defScope st) s.heap.objs.size f cdv)) → sp vs H Q E →
      ∃ t, PSs (cxOf CX0 P w K mg base N x (defScope st) f cdv A outer s H E).nox (defBody st) t ∧ t { nx := fun _ H' => Q .non H', rt := Q } (start N vs) H) : Cg P w K mg base CX0 (k + 1) x sp := by
  obtain ⟨f, fd, F, hm⟩ := D.ex
  obtain ⟨oc, od, kV, doc, pm, an, cdv, ct, osl, rfl, lk, hcd⟩ := id F.ex
  refine ⟨f, _, ps, fng_of lk hcd S len (fun A outer s H vs Q E hg hr h => ?_), hm, F.kp, F.binds hb⟩
  obtain ⟨t, ht, q⟩ := hbody f cdv A outer s H vs Q E hg hr h
  exact ⟨t, ht.nox, q⟩
end
section
variable {X : Cx} {k j : Nat} {x : Str} {sp : Sp} {p pos : Pos} {e : Expr} {es : List Expr} {t : TA}
theorem pe_g (c : Cg X.prog X.w X.K X.mg X.base CX0 k x sp) (hgu : X.A.guards = some []) (hr : Room j X.A) (hk : k ≤ j) (hg : Gl X x) (ha : PA X (e :: es) t)
    (hdb : (x == ("__debug__" : Str)) = false := by decide) (he : starEach (e :: es) X.env = (false, eval e X.env) :: starEach es X.env := by rfl) (hpl : (backTo pos (starEach es X.env)).any (·.1) = false := by rfl) :
    PE X (.Call (.Name x p) (e :: es) [] pos) (tCall sp [] E0 t) := by
  obtain ⟨f, fd, ps, F, hm, kp, b⟩ := c.ex
  constructor
  intro pins s σ H Q I h
  refine wpAny_Call_Name_kw (ld_glob I hg hm ?_ hdb)
  refine PySem.W.callWith_K (h₀ := X.base) I.ok.mod.kin kp (thn (ha.run pos pins s σ H _ I h) ?_) he hpl
  rintro us s1 ⟨vs, H1, I1, r, q⟩
  have q' : sp vs H1 Q E0 := by
    rw [List.append_nil] at q
    exact q
  have hl : us.length = ps.length := by
    rw [← r.length]
    exact F.many _ _ _ _ q'
  have bb := b s1 us I1.kIn (by rw [List.append_nil]; exact hl)
  rw [List.append_nil] at bb
  refine ⟨I1.kIn, wpAny_call (codeAny_mono (F.goes (outer := X.stack) (Q := Q) (E := E0) hgu (hr.mono hk) I1.env0 bb r q') ?_)⟩
  rintro (er | fl) s' hq
  · exact hq.elim
  · rcases fl with u | _ | _ | _ <;> first
      | exact I1.after hq
      | exact False.elim hq
/-- repr of data -/
theorem call_reprD (hgu : X.A.guards = some []) (hu : X.A.units + 70 < cLine) : CallR X (.builtin "repr") (fun xs H Q => ∃ x d, xs = [x] ∧ Dp X.K H x d ∧ d.showable = true ∧ d.hasDict = false ∧ d.depth ≤ 64 ∧ d.shown.length ≤ sizeLine ∧ Q (.str d.shown) H) := by
  intro pins s σ H xs us Q I r h
  obtain ⟨x, d, rfl, hd, hs, hnd, hdp, hz, q⟩ := h
  cases r with
  | cons rx rr =>
    cases rr
    obtain ⟨as, hr⟩ := Dp.reads I d x _ hd rx
    cases hr with
    | none => exact PySem.P.repr_of_none ⟨.str _, H, I.tok _, ⟨_, rfl⟩, q⟩
    | bool b => exact PySem.P.repr_of_bool ⟨.str _, H, I.tok _, ⟨_, rfl⟩, q⟩
    | int i t => exact PySem.P.repr_of_int (of_decide_eq_true hs) ⟨.str _, H, I.tok _, ⟨_, rfl⟩, q⟩
    | str z t => exact PySem.P.repr_of_str ⟨.str _, H, I.tok _, ⟨_, rfl⟩, q⟩ hz
    | list h1 h2 h3 h4 => exact repr_of_reads' (.list h1 h2 h3 h4) hs (fun z => by rw [hnd] at z; cases z) hgu (by omega) (fun _ _ e => e) (fun h' u tk k => ⟨.str _, H, I.kept k, ⟨_, rfl⟩, q⟩) hz
    | tuple h1 h2 h3 h4 => exact repr_of_reads' (.tuple h1 h2 h3 h4) hs (fun z => by rw [hnd] at z; cases z) hgu (by omega) (fun _ _ e => e) (fun h' u tk k => ⟨.str _, H, I.kept k, ⟨_, rfl⟩, q⟩) hz
    | dict h1 h2 h3 h4 h5 => cases hnd
end
end XB
set_option Elab.async false
set_option linter.all false
set_option maxRecDepth 100000
set_option maxHeartbeats 4000000
/-! further rules: enumerate of a tuple, min and max of two texts, the order of pairs of texts -/
namespace PySem
open Sem (wp)
open AutoSeq1 (wpAny_loadPart')
theorem XBmeets_enumT (l : Addr) (items : Array Value) :
    Meets (Builtin.«enumerate.__new__» ⟨[.type "enumerate", .ref l], []⟩) (fun _ R s => s.heap.IsTuple l items ∧
      R (.ok (.ret (.ref (s.heap.push { cls := .type "tuple_iterator", data := .fields #[.ref l, .int 0 0] }).objs.size)))
        { s with heap := (s.heap.push { cls := .type "tuple_iterator", data := .fields #[.ref l, .int 0 0] }).push { cls := .type "enumerate", data := .fields #[.none, .bool false, .ref s.heap.objs.size, rawInt 0, .none, .none] } }) :=
  .of_wp fun prog w A R s ⟨hT, hR⟩ => by
    obtain ⟨hp, gg, dd, tk, os⟩ := s
    have subE := sub_enumerate
    have hT' : Heap.IsTuple (Shared.heap ⟨hp, gg, dd, tk, os⟩) l items := hT
    have it_ : ∀ {A' : Around} {E : Value → Shared → Prop} {Q : Value → Shared → Prop}, Q (.ref hp.objs.size) ⟨hp.push { cls := .type "tuple_iterator", data := .fields #[.ref l, .int 0 0] }, gg, dd, tk, os⟩ → wpAny (model prog w) A' (pyIter (.ref l)) Q E ⟨hp, gg, dd, tk, os⟩ :=
      fun q => wpAny_pyIter_tuple hT' q
    wp_walk using it_
    refine wpAny_stack_any fun st => wpAny_pure ?_
    split
    · rename_i c _ _ _ _ _
      cases (c == Value.type "enumerate") <;> (wp_walk using it_; exact ⟨_, rfl, hR⟩)
    · wp_walk using it_
      exact ⟨_, rfl, hR⟩
section
variable {prog : Program} {w : World} {A : Around} {E : Value → Shared → Prop} {s : Shared}
theorem XBcall_enumT {l : Addr} {items : Array Value} {Q : Value → Shared → Prop} (hT : s.heap.IsTuple l items)
    (h : ∀ h', IsEnum h' (s.heap.objs.size + 1) s.heap.objs.size 0 .none → h'.IsTupleIter s.heap.objs.size l 0 → (∀ b o, s.heap.get? b = some o → h'.get? b = some o) → Q (.ref (s.heap.objs.size + 1)) { s with heap := h' }) :
    wpAny (model prog w) A (call (.type "enumerate") [.ref l]) Q E s := by
  refine callType_new F.called_enumerate (by decide) (F.typeCall_enumerate_1 _) (F.newCall_enumerate_1 _) (fun obj => F.args_object_init_2 obj _) F.entry_enumerate_new (XBmeets_enumT l items) ⟨hT, ?_⟩
  have hz : (s.heap.push { cls := .type "tuple_iterator", data := .fields #[.ref l, .int 0 0] }).objs.size = s.heap.objs.size + 1 := Heap.size_push ..
  show _ ∧ _
  rw [hz]
  have he := Heap.get?_push_size (s.heap.push { cls := .type "tuple_iterator", data := .fields #[.ref l, .int 0 0] }) (o := { cls := .type "enumerate", data := .fields #[.none, .bool false, .ref s.heap.objs.size, rawInt 0, .none, .none] }) rfl
  rw [hz] at he
  exact ⟨⟨_, he, rfl⟩, h _ he ⟨_, Heap.get?_push_of_some _ (Heap.get?_push_size _ rfl), rfl, rfl⟩ fun b o x => Heap.get?_push_of_some _ (Heap.get?_push_of_some _ x)⟩
end
end PySem
namespace XB
open PySem PySem.Spec PyProof.Rows L2
/-- the tuple at a, each item in a new pair with its number -/
def IeT (K : PySem.W.Frag) (a : Addr) : It where
  go := fun i H => ∃ (xs : List V) (x : V), SqT K H a xs ∧ xs[i]? = some x
  yld := fun i H v H' => ∃ T x, v = .ref T ∧ H T = none ∧ H' = upd H T (.tup [.int (i : Nat), x]) ∧ ∀ xs, SqT K H a xs → xs[i]? = some x
  stop := fun i H => ∃ xs : List V, SqT K H a xs ∧ xs.length = i
theorem turn_IeT {P : Program} {w : World} {K : PySem.W.Frag} {elts : List Expr} {kk : Nat} {tpos : Pos} (a e it : Addr) :
    Turn P w K (.Tuple elts kk tpos) (IeT K a) [e, it] e (fun i h => (∃ old, IsEnum h e it ((i : Nat) : Int) old) ∧ h.IsTupleIter it a i ∧ e ≠ it ∧ a ≠ it ∧ a ≠ e) where
  mem := List.mem_cons_self
  obj := fun i h st b hb => by
    obtain ⟨⟨old, he⟩, ⟨o, ho, hc, hd⟩, _⟩ := st
    rcases List.mem_cons.mp hb with rfl | hb
    · exact ⟨_, he, fun v q => nomatch q⟩
    · rw [List.mem_singleton.mp hb]
      exact ⟨o, ho, fun v q => by rw [hd] at q; cases q⟩
  keep := fun i h h' ⟨⟨old, he⟩, hi, r⟩ k => ⟨⟨old, k e List.mem_cons_self _ he⟩, hi.at fun o q => k it (by simp) o q, r⟩
  item := by
    intro X hP hw hK hc i pins s σ H E I hf st hg
    subst hP hw hK
    obtain ⟨⟨old, he⟩, hit, hne, nai, nae⟩ := st
    obtain ⟨xs, x, hq, hx⟩ := hg
    obtain ⟨its, rv, p, hz⟩ := I.tuple hq
    obtain ⟨u, hu, ru⟩ := rv.get hx
    have hel : e < s.heap.objs.size := Heap.lt_size he
    have hil : it < s.heap.objs.size := by
      obtain ⟨_, q, _⟩ := hit
      exact Heap.lt_size q
    have hlen : i < its.toArray.size := by
      rw [List.size_toArray]
      exact (List.getElem?_eq_some_iff.mp hu).1
    refine wpAny_pyNext_enum_itemD (Draws.tuple (prog := X.prog) (w := X.w) (A := X.A.in1) (I.ok.hd hc) it a nai its.toArray) he ⟨hit, p⟩ hlen hne (by simp [hne]; exact fun z => nae z.symm) fun v h' tk hv ho hs hT hsz hk => ?_
    have hv' : v = u := by
      rw [List.getElem?_toArray, hu] at hv
      exact (Option.some.inj hv).symm
    subst hv'
    refine ⟨_, rfl, wpAny_letOwnedTupleGo_enum (s := { s with heap := h', toks := tk + 1 }) ho fun h'' he' sb => ?_⟩
    have hT2 : h''.get? s.heap.objs.size = some { cls := .type "tuple", data := .seq #[.int i tk, v] } := (sb.2 _ (Nat.ne_of_gt hel)).trans hT
    have new : ObjOk X.prog X.w (upd H s.heap.objs.size (.tup [.int (i : Nat), x])) h'' s.heap.objs.size (.tup [.int (i : Nat), x]) :=
      ⟨by show 2 ≤ sizeLine; decide, [.int i tk, v], .cons ⟨_, rfl⟩ (.cons ru .nil), ⟨_, hT2, rfl, _, rfl⟩⟩
    have I1 := I.turnedNew (t' := tk + 1) (ch := [e, it]) (fun b ob hb q => (sb.2 b (fun z => hb (by simp [z]))).trans (hk b ob (fun z => hb (by simp [z])) (fun z => hb (by simp [z])) q)) hf (Nat.le_refl _) new
    refine ⟨.ref s.heap.objs.size, _, I1, rfl, ⟨_, x, rfl, I.hok.fresh (Nat.le_refl _), rfl, fun ys hy => by rw [I.tuple_inj hy hq]; exact hx⟩, ⟨⟨v, ?_⟩, hs.1.at fun o q => (sb.2 it (Ne.symm hne)).trans q, hne, nai, nae⟩, fun b hb => ?_⟩
    · rw [show ((i + 1 : Nat) : Int) = (i : Int) + 1 by omega]
      exact he'
    · have hb' : b < s.heap.objs.size := by
        rcases List.mem_cons.mp hb with rfl | z
        · exact hel
        · rw [List.mem_singleton.mp z]
          exact hil
      rw [upd_ne (Nat.ne_of_lt hb')]
      exact (hf b hb).1
  done := by
    intro X hP hw hK hc i pins s σ H E I hf st hg
    subst hP hw hK
    obtain ⟨⟨old, he⟩, hit, hne, nai, nae⟩ := st
    obtain ⟨xs, hq, hx⟩ := hg
    obtain ⟨its, rv, p, hz⟩ := I.tuple hq
    obtain ⟨f0, f1, f2, f3, f4, f5⟩ := hf it (by simp)
    have hsz : its.toArray.size = i := by
      rw [List.size_toArray, ← rv.length]
      exact hx
    refine wpAny_pyNext_enum_endD (Draws.tuple (prog := X.prog) (w := X.w) (A := X.A.in1) (I.ok.hd hc) it a nai its.toArray) he (by rw [hsz]; exact ⟨hit, p⟩) fun h' eb => ⟨rfl, I.turned (t' := s.toks) (fun b o hb q => eb b o hb q) f0 f1 f3 f4 f5⟩
  self := fun A i s Q E st h => let ⟨⟨_, he⟩, _⟩ := st; wpAny_pyIter_enum he h
def iEnT (K : PySem.W.Frag) (ta : TA) : TI := fun σ H R => ta σ H fun vs H1 => ∃ a xs, vs = [.ref a] ∧ SqT K H1 a xs ∧ R (IeT K a) H1
/-- enumerate(t), t a tuple, to a target of several names -/
theorem pi_enumT {X : Cx} {e : Expr} {ta : TA} {p pos tpos : Pos} {elts : List Expr} {kk : Nat} (hg : Gl X "enumerate") (hm : X.mg "enumerate" = none) (ha : PA X [e] ta) (hs : starEach [e] X.env = [(false, eval e X.env)] := by rfl) :
    PI X (.Tuple elts kk tpos) (.Call (.Name "enumerate" p) [e] [] pos) (iEnT X.K ta) := by
  constructor
  intro pins s σ H R I h
  refine Call_ (ld_blt I hg hm boot_enumerate (PyProof.Rows.callWith_type1 (thn (ha.run pos pins s σ H _ I h) ?_) hs rfl))
  rintro us s1 ⟨vs, H1, I1, r1, a, xs, rfl, hq, q⟩
  cases r1 with
  | cons r rr =>
    cases rr
    cases r
    obtain ⟨its, rv, p', hz⟩ := I1.tuple hq
    refine XBcall_enumT p' fun h' he hit hk => wpAny_pyIter_enum he ?_
    have hal : a < s1.heap.objs.size := by
      obtain ⟨o, e1, _⟩ := p'
      exact Heap.lt_size e1
    have I2 : Inv X pins σ H1 { s1 with heap := h' } := I1.kept (t' := s1.toks) hk
    refine ⟨s1.heap.objs.size + 1, [s1.heap.objs.size + 1, s1.heap.objs.size], _, _, H1, rfl, I2, turn_IeT a (s1.heap.objs.size + 1) s1.heap.objs.size, ⟨⟨.none, he⟩, hit, Nat.succ_ne_self _, Nat.ne_of_lt hal, Nat.ne_of_lt (Nat.lt_succ_of_lt hal)⟩, fun b hb => ?_, q⟩
    have hle : s1.heap.objs.size ≤ b := by
      rcases List.mem_cons.mp hb with rfl | z
      · exact Nat.le_succ _
      · rw [List.mem_singleton.mp z]
        exact Nat.le_refl _
    exact I1.fpOk hle (I1.hok.fresh hle)
theorem walk_IeT {K : PySem.W.Frag} {a : Addr} {xs : List V} : Walk (IeT K a) xs.length (fun H => SqT K H a xs) (YPair (fun i => some (.int (i : Nat))) (fun i => xs[i]?)) := by
  refine ⟨fun i _ hi q => ⟨xs, xs[i], q, by simp [hi]⟩, fun _ q => ⟨xs, q, rfl⟩, fun i H v H' _ q y => ?_⟩
  obtain ⟨T, x, h1, h2, h3, h4⟩ := y
  exact ⟨T, .int (i : Nat), x, h1, h2, h3, rfl, h4 xs q⟩
/-! ### the order of texts -/
/-- the one text ahead of the other -/
def sLt (a b : Str) : Bool := decide (a.cps.toList < b.cps.toList)
theorem cmp_gt {prog : Program} {w : World} {A : Around} {a b : Str} {t u : Tok} : CmpOf prog w A .Gt (fun i v => (#[Value.str a t, Value.str b u] : Array Value)[i]? = some v) (fun i j => sLt ([a, b].getD j a) ([a, b].getD i a)) := fun i j vi vj s Q E hi hj h => by
  rcases i with _ | _ | i <;> rcases j with _ | _ | j <;> simp at hi hj
  all_goals (subst hi; subst hj; exact PySem.P.gt_str h)
theorem cmp_lt {prog : Program} {w : World} {A : Around} {a b : Str} {t u : Tok} : CmpOf prog w A .Lt (fun i v => (#[Value.str a t, Value.str b u] : Array Value)[i]? = some v) (fun i j => sLt ([a, b].getD i a) ([a, b].getD j a)) := fun i j vi vj s Q E hi hj h => by
  rcases i with _ | _ | i <;> rcases j with _ | _ | j <;> simp at hi hj
  all_goals (subst hi; subst hj; exact PyProof.Rows.lt_str h)
section
variable {prog : Program} {w : World} {A : Around} {E : Value → Shared → Prop} {s : Shared}
/-- the pair that min and max lay, walked -/
theorem two_walk {x y : Value} (hh : A.handled = none) {op : CmpOp} {bt : Nat → Nat → Bool} {Q : Value → Shared → Prop} (cmp : CmpOf prog w A.in1 op (fun i v => (#[x, y] : Array Value)[i]? = some v) bt)
    (h : ∀ v h' tk, (#[x, y] : Array Value)[argBest bt 1]? = some v → (∀ c o, s.heap.get? c = some o → h'.get? c = some o) → Q v { s with heap := h', toks := tk }) :
    wpAny (model prog w) A.in1 (pyIter (.ref s.heap.objs.size)) (fun it s₂ => ∃ I fp wr n P St bt, it = .ref I ∧ Walks prog w A.in1 I fp wr n P St ∧ St 0 s₂.heap ∧ (∀ b ∈ fp, b < s₂.heap.objs.size) ∧ 0 < n ∧ CmpOf prog w A.in1 op P bt ∧
      ∀ v h' tk, P (argBest bt (n - 1)) v → (∀ b o, b ∉ wr → s₂.heap.get? b = some o → h'.get? b = some o) → Q v { s₂ with heap := h', toks := tk }) E
      { s with heap := s.heap.push { cls := .type "tuple", data := .seq #[x, y] } } := by
  have hT : (s.heap.push { cls := .type "tuple", data := .seq #[x, y] }).IsTuple s.heap.objs.size #[x, y] := ⟨_, Heap.get?_push_size _ rfl, rfl, 0, rfl⟩
  have hsz : (s.heap.push { cls := .type "tuple", data := .seq #[x, y] }).objs.size = s.heap.objs.size + 1 := Heap.size_push ..
  refine wpAny_pyIter_tuple hT ?_
  refine ⟨(s.heap.push { cls := .type "tuple", data := .seq #[x, y] }).objs.size, [(s.heap.push { cls := .type "tuple", data := .seq #[x, y] }).objs.size, s.heap.objs.size], [(s.heap.push { cls := .type "tuple", data := .seq #[x, y] }).objs.size], 2, _, _, bt, rfl,
    Walks.tuple (A := A.in1) hh _ s.heap.objs.size (by rw [hsz]; exact Nat.ne_of_lt (Nat.lt_succ_self _)) #[x, y], ⟨⟨_, Heap.get?_push_size _ rfl, rfl, rfl⟩, hT.push _⟩, fun c hc => ?_, by decide, cmp, fun v h' tk hP hk => ?_⟩
  · show c < ((s.heap.push _).push _).objs.size
    rw [Heap.size_push, hsz]
    rcases List.mem_cons.mp hc with rfl | hc
    · rw [hsz]
      exact Nat.lt_succ_self _
    · rw [List.mem_singleton.mp hc]
      exact Nat.lt_succ_of_lt (Nat.lt_succ_self _)
  · refine h v h' tk hP fun c o e => hk c o (fun hm => ?_) (Heap.get?_push_of_some _ (Heap.get?_push_of_some _ e))
    have e2 := Heap.lt_size e
    rw [List.mem_singleton.mp hm, hsz] at e2
    exact Nat.lt_irrefl _ (Nat.lt_of_succ_lt e2)
end
section
variable {X : Cx}
theorem call_max2S (hc : X.calm = true) : CallR X (.builtin "max") (fun xs H Q => ∃ i j, xs = [.str i, .str j] ∧ Q (.str (if sLt i j then j else i)) H) := by
  intro pins s σ H xs us Q I r h
  obtain ⟨i, j, rfl, q⟩ := h
  obtain ⟨u, w', rfl, ⟨t, rfl⟩, ⟨t', rfl⟩⟩ := vals2 r
  refine call_max_two (two_walk (I.ok.hd hc) cmp_gt fun v h' tk hv k => ?_)
  refine ⟨_, H, I.kept k, ?_, q⟩
  have e : argBest (fun a b => sLt ([i, j].getD b i) ([i, j].getD a i)) 1 = if sLt i j then 1 else 0 := rfl
  rw [e] at hv
  cases hb : sLt i j
  · rw [hb] at hv
    exact ⟨t, (Option.some.inj hv).symm⟩
  · rw [hb] at hv
    exact ⟨t', (Option.some.inj hv).symm⟩
theorem call_min2S (hc : X.calm = true) : CallR X (.builtin "min") (fun xs H Q => ∃ i j, xs = [.str i, .str j] ∧ Q (.str (if sLt j i then j else i)) H) := by
  intro pins s σ H xs us Q I r h
  obtain ⟨i, j, rfl, q⟩ := h
  obtain ⟨u, w', rfl, ⟨t, rfl⟩, ⟨t', rfl⟩⟩ := vals2 r
  refine call_min_two (two_walk (I.ok.hd hc) cmp_lt fun v h' tk hv k => ?_)
  refine ⟨_, H, I.kept k, ?_, q⟩
  have e : argBest (fun a b => sLt ([i, j].getD a i) ([i, j].getD b i)) 1 = if sLt j i then 1 else 0 := rfl
  rw [e] at hv
  cases hb : sLt j i
  · rw [hb] at hv
    exact ⟨t, (Option.some.inj hv).symm⟩
  · rw [hb] at hv
    exact ⟨t', (Option.some.inj hv).symm⟩
/-- t < u, two pairs of texts -/
theorem op_ltSS (hu : X.A.units + 64 < cLine) : OpR X (compareOp .Lt) (fun x y H Q => ∃ p q a b c d, x = .ref p ∧ y = .ref q ∧ SqT X.K H p [.str a, .str b] ∧ SqT X.K H q [.str c, .str d] ∧ Q (.bl (if a == c then (if b == d then false else sLt b d) else sLt a c)) H) := by
  intro pins s σ H x y v u Q I rx ry h
  obtain ⟨p, q, a, b, c, d, rfl, rfl, hp, hq, h⟩ := h
  cases rx
  cases ry
  obtain ⟨its, r1, t1, _⟩ := I.tuple hp
  obtain ⟨jts, r2, t2, _⟩ := I.tuple hq
  obtain ⟨_, _, rfl, ⟨ta, rfl⟩, ⟨tb, rfl⟩⟩ := vals2 r1
  obtain ⟨_, _, rfl, ⟨tc, rfl⟩, ⟨td, rfl⟩⟩ := vals2 r2
  have L := Ob.RcOp.tuples_lt (A := X.A) (s := s) (e := fun j => [a == c, b == d].getD j false) (r := fun j => [sLt a c, sLt b d].getD j false) t1 t2 (by omega)
    (fun j h1 h2 => by
      rcases j with _ | _ | j
      · exact SeqAt.EqAt.str_str _ _ _ _
      · exact SeqAt.EqAt.str_str _ _ _ _
      · exact absurd h1 (by simp))
    (fun j h1 h2 _ => by
      rcases j with _ | _ | j
      · exact fun _ _ _ _ z => PyProof.Rows.lt_str z
      · exact fun _ _ _ _ z => PyProof.Rows.lt_str z
      · exact absurd h1 (by simp))
  exact L _ _ _ _ ⟨.bl _, H, I, rfl, h⟩
end
end XB
/-! piles as rows read from the last piece on: the action of steps on least piles -/
namespace XM
/-- what is asked of names: which touch, and an order -/
structure Ord (α : Type) [DecidableEq α] where
  tc : α → α → Bool
  lt : α → α → Bool
  refl : ∀ a, tc a a = true
  symm : ∀ a b, tc a b = tc b a
  irr : ∀ a, lt a a = false
  trans : ∀ a b c, lt a b = true → lt b c = true → lt a c = true
  tot : ∀ a b, a ≠ b → lt a b = false → lt b a = true
section
variable {α : Type} [DecidableEq α] (O : Ord α)
abbrev Row (α : Type) := List (α × Int)
/-- a piece of this name comes to lie on top: no other of its name is met, all that it might pass are less -/
def top (a : α) : Row α → Bool
  | [] => true
  | y :: r => if O.tc y.1 a then decide (y.1 ≠ a) else O.lt y.1 a && top a r
def ins (x : α × Int) : Row α → Row α
  | [] => [x]
  | y :: r => if y.1 = x.1 then (if y.2 + x.2 = 0 then r else (x.1, y.2 + x.2) :: r)
    else if O.tc y.1 x.1 then x :: y :: r
    else if O.lt y.1 x.1 && top O x.1 r then x :: y :: r else y :: ins x r
/-- a least pile, from the last piece on -/
def NF : Row α → Prop
  | [] => True
  | y :: r => y.2 ≠ 0 ∧ top O y.1 r = true ∧ NF r
variable {O}
theorem lt_of_not {a b : α} (h : O.tc a b = false) (n : O.lt a b = false) : O.lt b a = true :=
  O.tot a b (fun e => by rw [e, O.refl] at h; cases h) n
theorem lt_asym {a b : α} (h : O.lt a b = true) : O.lt b a = false := by
  cases e : O.lt b a
  · rfl
  · have := O.trans a b a h e
    rw [O.irr] at this
    cases this
theorem ne_of_apart {a b : α} (h : O.tc a b = false) : a ≠ b := fun e => by
  rw [e, O.refl] at h
  cases h
theorem top_same {a : α} {s : Int} {r : Row α} : top O a ((a, s) :: r) = false := by
  unfold top
  rw [if_pos (O.refl a)]
  simp
theorem top_touch {a : α} {y : α × Int} {r : Row α} (h : O.tc y.1 a = true) (n : y.1 ≠ a) : top O a (y :: r) = true := by
  unfold top
  rw [if_pos h]
  simpa using n
theorem top_apart {a : α} {y : α × Int} {r : Row α} (h : O.tc y.1 a = false) : top O a (y :: r) = (O.lt y.1 a && top O a r) := by
  show (if O.tc y.1 a then decide (y.1 ≠ a) else O.lt y.1 a && top O a r) = _
  rw [if_neg (by rw [h]; decide)]
theorem ins_same {a : α} {s u : Int} {r : Row α} : ins O (a, s) ((a, u) :: r) = if u + s = 0 then r else (a, u + s) :: r := by
  unfold ins
  rw [if_pos rfl]
theorem ins_touch {x y : α × Int} {r : Row α} (h : O.tc y.1 x.1 = true) (n : y.1 ≠ x.1) : ins O x (y :: r) = x :: y :: r := by
  unfold ins
  rw [if_neg n, if_pos h]
theorem ins_apart {x y : α × Int} {r : Row α} (h : O.tc y.1 x.1 = false) : ins O x (y :: r) = if O.lt y.1 x.1 && top O x.1 r then x :: y :: r else y :: ins O x r := by
  show (if y.1 = x.1 then _ else if O.tc y.1 x.1 then _ else _) = _
  rw [if_neg (ne_of_apart h), if_neg (by rw [h]; decide)]
theorem ins_top {x : α × Int} : ∀ {r : Row α}, top O x.1 r = true → ins O x r = x :: r
  | [], _ => rfl
  | y :: r, h => by
    cases hc : O.tc y.1 x.1
    · rw [top_apart hc] at h
      rw [ins_apart hc, if_pos h]
    · by_cases e : y.1 = x.1
      · unfold top at h
        rw [if_pos hc] at h
        simp [e] at h
      · exact ins_touch hc e
theorem apart_symm {a b : α} (h : O.tc a b = false) : O.tc b a = false := by rw [O.symm]; exact h
/-- what is put below the top does not bar another name that lay on top -/
theorem top_ins {z : α} {x : α × Int} (hx : O.tc x.1 z = false) : ∀ {r : Row α}, top O z r = true → top O x.1 r = false → top O z (ins O x r) = true
  | [], _, h => by cases h
  | w :: r, hz, h => by
    by_cases e : w.1 = x.1
    · obtain ⟨w1, w2⟩ := w
      obtain ⟨x1, x2⟩ := x
      have e : w1 = x1 := e
      subst e
      have hw : O.tc w1 z = false := hx
      rw [top_apart (y := (w1, w2)) hw] at hz
      rw [ins_same]
      by_cases h0 : w2 + x2 = 0
      · rw [if_pos h0]
        exact (Bool.and_eq_true_iff.mp hz).2
      · rw [if_neg h0, top_apart (y := (w1, w2 + x2)) hw]
        exact hz
    · cases hc : O.tc w.1 x.1
      · rw [top_apart hc] at h
        rw [ins_apart hc, if_neg (by rw [h]; decide)]
        cases hwz : O.tc w.1 z
        · rw [top_apart hwz] at hz ⊢
          obtain ⟨z1, z2⟩ := Bool.and_eq_true_iff.mp hz
          rw [z1, Bool.true_and]
          cases ht : top O x.1 r
          · exact top_ins hx z2 ht
          · rw [ins_top ht, top_apart hx, z2, Bool.and_true]
            rw [ht, Bool.and_true] at h
            exact O.trans _ _ _ (lt_of_not hc h) z1
        · have n : w.1 ≠ z := by
            intro q
            unfold top at hz
            rw [if_pos hwz] at hz
            simp [q] at hz
          exact top_touch hwz n
      · rw [top_touch hc e] at h
        cases h
theorem nf_ins {x : α × Int} (hx : x.2 ≠ 0) : ∀ {r : Row α}, NF O r → NF O (ins O x r)
  | [], _ => ⟨hx, rfl, True.intro⟩
  | w :: r, h => by
    obtain ⟨w0, wt, wr⟩ := h
    by_cases e : w.1 = x.1
    · obtain ⟨w1, w2⟩ := w
      obtain ⟨x1, x2⟩ := x
      have e : w1 = x1 := e
      subst e
      rw [ins_same]
      by_cases h0 : w2 + x2 = 0
      · rw [if_pos h0]
        exact wr
      · rw [if_neg h0]
        exact ⟨h0, wt, wr⟩
    · cases hc : O.tc w.1 x.1
      · rw [ins_apart hc]
        cases ht : O.lt w.1 x.1 && top O x.1 r
        · rw [if_neg (by decide)]
          refine ⟨w0, ?_, nf_ins hx wr⟩
          cases h2 : top O x.1 r
          · exact top_ins (apart_symm hc) wt h2
          · rw [h2, Bool.and_true] at ht
            rw [ins_top h2, top_apart (apart_symm hc), wt, Bool.and_true]
            exact lt_of_not hc ht
        · rw [if_pos rfl]
          exact ⟨hx, by rw [top_apart hc]; exact ht, w0, wt, wr⟩
      · rw [ins_touch hc e]
        exact ⟨hx, top_touch hc e, w0, wt, wr⟩
/-- if a put step frees the top for a name, it took away the piece on the very top -/
theorem freed {b : α} {x : α × Int} (hx : O.tc x.1 b = false) : ∀ {r : Row α}, NF O r → top O x.1 r = false → top O b r = false → top O b (ins O x r) = true →
    ∃ u r', r = (x.1, u) :: r' ∧ O.lt x.1 b = false
  | [], _, h, _, _ => by cases h
  | w :: r, hN, h1, h2, h3 => by
    obtain ⟨w0, wt, wr⟩ := hN
    by_cases e : w.1 = x.1
    · obtain ⟨w1, w2⟩ := w
      obtain ⟨x1, x2⟩ := x
      have e : w1 = x1 := e
      subst e
      refine ⟨w2, r, rfl, ?_⟩
      rw [ins_same] at h3
      rw [top_apart (y := (w1, w2)) hx] at h2
      by_cases h0 : w2 + x2 = 0
      · rw [if_pos h0] at h3
        rw [h3, Bool.and_true] at h2
        exact h2
      · rw [if_neg h0, top_apart (y := (w1, w2 + x2)) hx] at h3
        have h2' : (O.lt w1 b && top O b r) = false := h2
        have h3' : (O.lt w1 b && top O b r) = true := h3
        rw [h2'] at h3'
        cases h3'
    · cases hc : O.tc w.1 x.1
      · rw [top_apart hc] at h1
        rw [ins_apart hc, if_neg (by rw [h1]; decide)] at h3
        cases hwb : O.tc w.1 b
        · rw [top_apart hwb] at h2 h3
          obtain ⟨p1, p2⟩ := Bool.and_eq_true_iff.mp h3
          rw [p1, Bool.true_and] at h2
          have h4 : top O x.1 r = false := by
            cases q : top O x.1 r
            · rfl
            · rw [ins_top q, top_apart hx, h2, Bool.and_false] at p2
              cases p2
          obtain ⟨u, r', rfl, h5⟩ := freed hx wr h4 h2 p2
          rw [top_apart (y := (x.1, u)) (apart_symm hc)] at wt
          have q1 := (Bool.and_eq_true_iff.mp wt).1
          have q2 := O.trans _ _ _ q1 p1
          have q3 : O.lt x.1 b = true := q2
          rw [h5] at q3
          cases q3
        · have n : w.1 ≠ b := by
            intro q
            unfold top at h3
            rw [if_pos hwb] at h3
            simp [q] at h3
          rw [top_touch hwb n] at h2
          cases h2
      · rw [top_touch hc e] at h1
        cases h1
theorem freed_same {x : α × Int} : ∀ {r : Row α}, NF O r → top O x.1 r = false → top O x.1 (ins O x r) = true → ∃ u r', r = (x.1, u) :: r'
  | [], _, h, _ => by cases h
  | w :: r, hN, h1, h3 => by
    obtain ⟨w0, wt, wr⟩ := hN
    by_cases e : w.1 = x.1
    · exact ⟨w.2, r, by rw [← e]⟩
    · cases hc : O.tc w.1 x.1
      · rw [top_apart hc] at h1
        rw [ins_apart hc, if_neg (by rw [h1]; decide), top_apart hc] at h3
        obtain ⟨p1, p2⟩ := Bool.and_eq_true_iff.mp h3
        rw [p1, Bool.true_and] at h1
        obtain ⟨u, r', rfl⟩ := freed_same wr h1 p2
        rw [top_apart (y := (x.1, u)) (apart_symm hc)] at wt
        have q1 := (Bool.and_eq_true_iff.mp wt).1
        have q2 := lt_asym p1
        have q3 : O.lt x.1 w.1 = true := q1
        rw [q2] at q3
        cases q3
      · rw [top_touch hc e] at h1
        cases h1
/-- steps of names that are apart may be put in either order -/
theorem ins_comm {x y : α × Int} (hxy : O.tc x.1 y.1 = false) : ∀ {r : Row α}, NF O r → ins O x (ins O y r) = ins O y (ins O x r)
  | [], _ => by
    show ins O x [y] = ins O y [x]
    rw [ins_apart (apart_symm hxy), ins_apart hxy]
    show (if O.lt y.1 x.1 && true then [x, y] else [y, x]) = if O.lt x.1 y.1 && true then [y, x] else [x, y]
    cases h : O.lt y.1 x.1
    · rw [lt_of_not (apart_symm hxy) h]
      rfl
    · rw [lt_asym h]
      rfl
  | z :: r, hN => by
    have hyx := apart_symm hxy
    have key : ∀ {x y : α × Int}, O.tc x.1 y.1 = false → z.1 = x.1 → ins O x (ins O y (z :: r)) = ins O y (ins O x (z :: r)) := by
      intro x y hxy e
      obtain ⟨z1, z2⟩ := z
      obtain ⟨x1, x2⟩ := x
      have e : z1 = x1 := e
      subst e
      obtain ⟨_, zt, zr⟩ := hN
      have hzy : O.tc z1 y.1 = false := hxy
      rw [ins_apart (x := y) (y := (z1, z2)) hzy, ins_same]
      cases hB : O.lt z1 y.1 && top O y.1 r
      · rw [if_neg (by decide), ins_same]
        by_cases h0 : z2 + x2 = 0
        · rw [if_pos h0, if_pos h0]
        · rw [if_neg h0, if_neg h0, ins_apart (x := y) (y := (z1, z2 + x2)) hzy, if_neg (by rw [hB]; decide)]
      · rw [if_pos rfl, ins_apart (x := (z1, x2)) (y := y) (apart_symm hxy), if_neg (by rw [top_same (s := z2)]; simp), ins_same]
        by_cases h0 : z2 + x2 = 0
        · rw [if_pos h0, ins_top (Bool.and_eq_true_iff.mp hB).2]
        · rw [if_neg h0, ins_apart (x := y) (y := (z1, z2 + x2)) hzy, if_pos hB]
    by_cases ex : z.1 = x.1
    · exact key hxy ex
    by_cases ey : z.1 = y.1
    · exact (key hyx ey).symm
    obtain ⟨z0, zt, zr⟩ := hN
    have ih := ins_comm hxy zr
    have topx : ∀ {x y : α × Int}, O.tc x.1 y.1 = false → z.1 ≠ x.1 → z.1 ≠ y.1 → O.tc z.1 x.1 = true → ins O x (ins O y (z :: r)) = ins O y (ins O x (z :: r)) := by
      intro x y hxy ex ey hx
      have hyx := apart_symm hxy
      rw [ins_touch hx ex, ins_apart (x := y) (y := x) hxy]
      cases hT : top O y.1 (z :: r)
      · rw [if_neg (by simp)]
        have hy : O.tc z.1 y.1 = false := by
          cases q : O.tc z.1 y.1
          · rfl
          · rw [top_touch q ey] at hT
            cases hT
        rw [top_apart hy] at hT
        rw [ins_apart (x := y) (y := z) hy, if_neg (by rw [hT]; decide), ins_touch hx ex]
      · rw [ins_top hT, ins_apart (x := x) (y := y) hyx, top_touch hx ex, ins_touch hx ex]
        cases h : O.lt x.1 y.1
        · rw [lt_of_not hxy h]
          rfl
        · rw [lt_asym h]
          rfl
    cases hx : O.tc z.1 x.1
    · cases hy : O.tc z.1 y.1
      · -- z is apart from both
        have mixed : ∀ {x y : α × Int}, O.tc x.1 y.1 = false → O.tc z.1 x.1 = false → O.tc z.1 y.1 = false → (O.lt z.1 x.1 && top O x.1 r) = true → (O.lt z.1 y.1 && top O y.1 r) = false → ins O x (ins O y (z :: r)) = ins O y (ins O x (z :: r)) := by
          intro x y hxy hx hy hA hB
          have hyx := apart_symm hxy
          obtain ⟨a1, a2⟩ := Bool.and_eq_true_iff.mp hA
          rw [ins_apart (x := y) (y := z) hy, if_neg (by rw [hB]; decide), ins_apart (x := x) (y := z) hx (r := r), if_pos hA, ins_apart (x := y) (y := x) hxy, top_apart hy, hB, Bool.and_false, if_neg (by decide)]
          rw [ins_apart (x := y) (y := z) hy, if_neg (by rw [hB]; decide), ins_apart (x := x) (y := z) hx]
          have t : top O x.1 (ins O y r) = true := by
            cases q : top O y.1 r
            · exact top_ins hyx a2 q
            · rw [q, Bool.and_true] at hB
              rw [ins_top q, top_apart hyx, a2, Bool.and_true]
              exact O.trans _ _ _ (lt_of_not hy hB) a1
          rw [a1, t]
          rfl
        cases hA : O.lt z.1 x.1 && top O x.1 r
        · cases hB : O.lt z.1 y.1 && top O y.1 r
          · rw [ins_apart (x := y) (y := z) hy, if_neg (by rw [hB]; decide), ins_apart (x := x) (y := z) hx (r := r), if_neg (by rw [hA]; decide)]
            have no : ∀ {x y : α × Int}, O.tc x.1 y.1 = false → O.tc z.1 x.1 = false → (O.lt z.1 x.1 && top O x.1 r) = false → (O.lt z.1 y.1 && top O y.1 r) = false → (O.lt z.1 y.1 && top O y.1 (ins O x r)) = false := by
              intro x y hxy hx hA hB
              cases q : O.lt z.1 y.1 && top O y.1 (ins O x r)
              · rfl
              · obtain ⟨q1, q2⟩ := Bool.and_eq_true_iff.mp q
                rw [q1, Bool.true_and] at hB
                cases t : top O x.1 r
                · obtain ⟨u, r', rfl, h5⟩ := freed hxy zr t hB q2
                  rw [top_apart (y := (x.1, u)) (apart_symm hx)] at zt
                  have w1 : O.lt x.1 z.1 = true := (Bool.and_eq_true_iff.mp zt).1
                  rw [O.trans _ _ _ w1 q1] at h5
                  cases h5
                · rw [ins_top t, top_apart hxy, hB, Bool.and_false] at q2
                  cases q2
            rw [ins_apart (x := x) (y := z) hx, if_neg (by rw [no hyx hy hB hA]; decide), ins_apart (x := y) (y := z) hy, if_neg (by rw [no hxy hx hA hB]; decide), ih]
          · exact (mixed hyx hy hx hB hA).symm
        · cases hB : O.lt z.1 y.1 && top O y.1 r
          · exact mixed hxy hx hy hA hB
          · rw [ins_apart (x := y) (y := z) hy, if_pos hB, ins_apart (x := x) (y := z) hx (r := r), if_pos hA, ins_apart (x := x) (y := y) hyx, ins_apart (x := y) (y := x) hxy, top_apart hx, top_apart hy, hA, hB, ins_apart (x := x) (y := z) hx, if_pos hA, ins_apart (x := y) (y := z) hy, if_pos hB]
            cases h : O.lt x.1 y.1
            · rw [lt_of_not hxy h]
              rfl
            · rw [lt_asym h]
              rfl
      · exact (topx hyx ey ex hy).symm
    · exact topx hxy ex ey hx
/-- two steps of one name are one, or none -/
theorem ins_join {a : α} {s t : Int} (hs : s ≠ 0) (ht : t ≠ 0) : ∀ {r : Row α}, NF O r → ins O (a, t) (ins O (a, s) r) = if s + t = 0 then r else ins O (a, s + t) r
  | [], _ => by
    show ins O (a, t) [(a, s)] = _
    rw [ins_same]
    rfl
  | (c, u) :: r, hN => by
    obtain ⟨u0, zt, zr⟩ := hN
    have u0 : u ≠ 0 := u0
    by_cases e : c = a
    · subst e
      rw [ins_same, ins_same]
      by_cases h0 : u + s = 0
      · rw [if_pos h0, ins_top (x := (c, t)) zt]
        by_cases h1 : s + t = 0
        · rw [if_pos h1, show t = u by omega]
        · rw [if_neg h1, if_neg (by omega), show u + (s + t) = t by omega]
      · rw [if_neg h0, ins_same]
        by_cases h1 : s + t = 0
        · rw [if_pos h1, if_neg (by omega), show u + s + t = u by omega]
        · rw [if_neg h1]
          by_cases h2 : u + s + t = 0
          · rw [if_pos h2, if_pos (by omega)]
          · rw [if_neg h2, if_neg (by omega), Int.add_assoc]
    · cases hc : O.tc c a
      · rw [ins_apart (x := (a, s)) (y := (c, u)) hc, ins_apart (x := (a, s + t)) (y := (c, u)) hc]
        cases hA : O.lt c a && top O a r
        · rw [if_neg (by decide), ins_apart (x := (a, t)) (y := (c, u)) hc]
          have no : (O.lt c a && top O a (ins O (a, s) r)) = false := by
            cases q : O.lt c a && top O a (ins O (a, s) r)
            · rfl
            · obtain ⟨q1, q2⟩ := Bool.and_eq_true_iff.mp q
              rw [q1, Bool.true_and] at hA
              obtain ⟨v, r', rfl⟩ := freed_same (x := (a, s)) zr hA q2
              rw [top_apart (y := (a, v)) (apart_symm hc)] at zt
              have w1 : O.lt a c = true := (Bool.and_eq_true_iff.mp zt).1
              rw [lt_asym q1] at w1
              cases w1
          rw [if_neg (show ¬ ((O.lt c a && top O a (ins O (a, s) r)) = true) by rw [no]; decide), ins_join hs ht zr]
          by_cases h1 : s + t = 0
          · rw [if_pos h1, if_pos h1]
          · rw [if_neg h1, if_neg h1, if_neg Bool.false_ne_true]
        · rw [if_pos rfl, if_pos rfl, ins_same]
      · rw [ins_touch (x := (a, s)) (y := (c, u)) hc e, ins_touch (x := (a, s + t)) (y := (c, u)) hc e, ins_same]
end
end XM
set_option linter.all false
namespace XM
section
variable {α : Type} [DecidableEq α] (O : Ord α)
/-- steps put on a least pile, one after another -/
def act (l r : Row α) : Row α := l.foldl (fun r x => ins O x r) r
def NZ (l : Row α) : Prop := ∀ x ∈ l, x.2 ≠ 0
/-- the next step of this name that can come together with one ahead -/
def near (a : α) : Row α → Option Nat
  | [] => none
  | y :: r => if y.1 = a then some 0 else if O.tc y.1 a then none else (near a r).map (· + 1)
def pl : Row α → Bool
  | [] => true
  | x :: r => (near O x.1 r).isNone && pl r
def met : Row α → Option (Nat × Nat)
  | [] => none
  | x :: r => match near O x.1 r with
    | some d => some (0, d + 1)
    | none => (met r).map fun p => (p.1 + 1, p.2 + 1)
variable {O}
theorem NZ.app {l m : Row α} (h : NZ l) (g : NZ m) : NZ (l ++ m) := fun x hx => (List.mem_append.mp hx).elim (h x) (g x)
theorem NZ.left {l m : Row α} (h : NZ (l ++ m)) : NZ l := fun x hx => h x (List.mem_append_left _ hx)
theorem NZ.right {l m : Row α} (h : NZ (l ++ m)) : NZ m := fun x hx => h x (List.mem_append_right _ hx)
theorem act_nil {r : Row α} : act O [] r = r := rfl
theorem act_cons {x : α × Int} {l r : Row α} : act O (x :: l) r = act O l (ins O x r) := rfl
theorem act_app {l m r : Row α} : act O (l ++ m) r = act O m (act O l r) := List.foldl_append
theorem nf_act : ∀ {l r : Row α}, NZ l → NF O r → NF O (act O l r)
  | [], _, _, h => h
  | x :: l, r, z, h => nf_act (l := l) (fun y hy => z y (List.mem_cons_of_mem _ hy)) (nf_ins (z x List.mem_cons_self) h)
theorem nf_nz : ∀ {r : Row α}, NF O r → NZ r
  | [], _ => fun _ h => nomatch h
  | y :: r, h => fun x hx => (List.mem_cons.mp hx).elim (fun e => e ▸ h.1) (nf_nz h.2.2 x)
theorem act_swap {u v r : Row α} {x y : α × Int} (h : O.tc x.1 y.1 = false) (z : NZ u) (hN : NF O r) : act O (u ++ x :: y :: v) r = act O (u ++ y :: x :: v) r := by
  rw [act_app, act_app, act_cons, act_cons, act_cons, act_cons, ins_comm (apart_symm h) (nf_act z hN)]
/-- a step may be brought ahead of those that are apart from it -/
theorem act_move {x : α × Int} {v : Row α} : ∀ {p u r : Row α}, (∀ w ∈ p, O.tc w.1 x.1 = false) → NZ u → NZ p → NF O r → act O (u ++ (p ++ x :: v)) r = act O (u ++ (x :: (p ++ v))) r
  | [], _, _, _, _, _, _ => rfl
  | y :: p, u, r, hp, zu, zp, hN => by
    have e := act_move (x := x) (v := v) (p := p) (u := u ++ [y]) (r := r) (fun w hw => hp w (List.mem_cons_of_mem _ hw)) (zu.app fun w hw => zp w (by rw [List.mem_singleton.mp hw]; exact List.mem_cons_self)) (fun w hw => zp w (List.mem_cons_of_mem _ hw)) hN
    rw [List.append_assoc, List.append_assoc] at e
    have e2 : act O (u ++ (y :: p ++ x :: v)) r = act O (u ++ (y :: x :: (p ++ v))) r := e
    rw [e2, act_swap (hp y List.mem_cons_self) zu hN]
    rfl
/-- the two that can come together do -/
theorem act_meet {a : α} {s t : Int} {u m v r : Row α} (hm : ∀ w ∈ m, O.tc w.1 a = false) (hs : s ≠ 0) (ht : t ≠ 0) (zu : NZ u) (zm : NZ m) (hN : NF O r) :
    act O (u ++ (a, s) :: (m ++ (a, t) :: v)) r = act O (u ++ ((if s + t = 0 then [] else [(a, s + t)]) ++ (m ++ v))) r := by
  have e := act_move (x := (a, t)) (v := v) (p := m) (u := u ++ [(a, s)]) (r := r) hm (zu.app fun w hw => by rw [List.mem_singleton.mp hw]; exact hs) zm hN
  rw [List.append_assoc, List.append_assoc] at e
  have e2 : act O (u ++ (a, s) :: (m ++ (a, t) :: v)) r = act O (u ++ (a, s) :: (a, t) :: (m ++ v)) r := e
  rw [e2, act_app, act_app, act_cons, act_cons, ins_join hs ht (nf_act zu hN)]
  by_cases h : s + t = 0
  · rw [if_pos h, if_pos h, List.nil_append]
  · rw [if_neg h, if_neg h]
    rfl
theorem act_fix : ∀ {r : Row α}, NF O r → act O r.reverse [] = r
  | [], _ => rfl
  | y :: r, h => by
    rw [List.reverse_cons, act_app, act_fix h.2.2]
    exact ins_top h.2.1
/-- a least pile does what its steps did -/
theorem act_ins {x : α × Int} : ∀ {r q : Row α}, NF O r → x.2 ≠ 0 → NF O q → act O (ins O x r).reverse q = ins O x (act O r.reverse q)
  | [], _, _, _, _ => rfl
  | y :: r, q, h, hx, hq => by
    obtain ⟨y0, yt, yr⟩ := h
    have hQ : NF O (act O r.reverse q) := nf_act (fun w hw => nf_nz yr w (List.mem_reverse.mp hw)) hq
    by_cases e : y.1 = x.1
    · obtain ⟨y1, y2⟩ := y
      obtain ⟨x1, x2⟩ := x
      have e : y1 = x1 := e
      subst e
      rw [ins_same, List.reverse_cons, act_app, act_cons, act_nil, ins_join y0 hx hQ]
      by_cases h0 : y2 + x2 = 0
      · rw [if_pos h0, if_pos h0]
      · rw [if_neg h0, if_neg h0, List.reverse_cons, act_app]
        rfl
    · have stay : act O (x :: y :: r).reverse q = ins O x (act O (y :: r).reverse q) := by
        rw [List.reverse_cons, act_app]
        rfl
      cases hc : O.tc y.1 x.1
      · rw [ins_apart hc]
        cases hA : O.lt y.1 x.1 && top O x.1 r
        · rw [if_neg (by decide), List.reverse_cons, act_app, act_ins yr hx hq, List.reverse_cons, act_app]
          exact ins_comm hc hQ
        · rw [if_pos rfl]
          exact stay
      · rw [ins_touch hc e]
        exact stay
theorem act_self : ∀ {l q : Row α}, NZ l → NF O q → act O (act O l []).reverse q = act O l q := by
  intro l
  have gen : ∀ (n : Nat) (l q : Row α), l.length = n → NZ l → NF O q → act O (act O l []).reverse q = act O l q := by
    intro n
    induction n with
    | zero =>
      intro l q h _ _
      rw [List.length_eq_zero_iff.mp h]
      rfl
    | succ n ih =>
      intro l q h z hq
      obtain ⟨p, x, rfl⟩ : ∃ p x, l = p ++ [x] := ⟨l.dropLast, l.getLast (fun e => by rw [e] at h; cases h), (List.dropLast_concat_getLast _).symm⟩
      rw [act_app, act_app, act_cons, act_nil, act_cons, act_nil, act_ins (nf_act z.left (show NF O [] from True.intro)) (z x (by simp)) hq, ih p q (by rw [List.length_append] at h; simpa using h) z.left hq]
  exact fun {q} => gen _ l q rfl
/-- the steps that take steps back -/
def back (l : Row α) : Row α := (l.map fun x => (x.1, -x.2)).reverse
theorem back_nz {l : Row α} (h : NZ l) : NZ (back l) := fun x hx => by
  obtain ⟨y, hy, rfl⟩ := List.mem_map.mp (List.mem_reverse.mp hx)
  have := h y hy
  show -y.2 ≠ 0
  omega
theorem act_back : ∀ {l r : Row α}, NZ l → NF O r → act O (back l) (act O l r) = r
  | [], _, _, _ => rfl
  | x :: l, r, z, h => by
    have hx := z x List.mem_cons_self
    have zl : NZ l := fun y hy => z y (List.mem_cons_of_mem _ hy)
    unfold back
    rw [List.map_cons, List.reverse_cons, act_app, act_cons, act_cons]
    have e := act_back zl (nf_ins hx h)
    unfold back at e
    rw [e, act_nil]
    have j := ins_join (O := O) (a := x.1) (s := x.2) (t := -x.2) hx (by omega) h
    rw [if_pos (by omega)] at j
    exact j
theorem back_back (l : Row α) : back (back l) = l := by
  unfold back
  rw [List.map_reverse, List.reverse_reverse, List.map_map]
  have e : ((fun x : α × Int => (x.1, -x.2)) ∘ fun x => (x.1, -x.2)) = id := by
    funext x
    show (x.1, - -x.2) = x
    rw [Int.neg_neg]
  rw [e, List.map_id]
/-- what makes the same pile is taken back alike -/
theorem act_back_eq {l m r : Row α} (zl : NZ l) (zm : NZ m) (h : act O l [] = act O m []) (hN : NF O r) : act O (back l) r = act O (back m) r := by
  have same : ∀ {q}, NF O q → act O l q = act O m q := fun {q} hq => by rw [← act_self zl hq, h, act_self zm hq]
  have e := act_back (back_nz zl) hN
  rw [back_back] at e
  have e2 := same (nf_act (back_nz zl) hN)
  rw [e] at e2
  have e3 := act_back zm (nf_act (back_nz zl) hN)
  rw [← e2] at e3
  exact e3.symm
/-! ### coming together -/
theorem near_none {a : α} : ∀ {m v : Row α}, (∀ w ∈ m, O.tc w.1 a = false) → (near O a (m ++ v)) = (near O a v).map (· + m.length)
  | [], v, _ => by
    show near O a v = (near O a v).map (· + 0)
    cases near O a v <;> rfl
  | y :: m, v, h => by
    have hy := h y List.mem_cons_self
    show (if y.1 = a then some 0 else if O.tc y.1 a then none else (near O a (m ++ v)).map (· + 1)) = _
    rw [if_neg (ne_of_apart hy), if_neg (by rw [hy]; decide), near_none (fun w hw => h w (List.mem_cons_of_mem _ hw))]
    cases near O a v <;> rfl
theorem near_some {a : α} : ∀ {r : Row α} {d : Nat}, near O a r = some d → ∃ m t v, r = m ++ (a, t) :: v ∧ m.length = d ∧ ∀ w ∈ m, O.tc w.1 a = false
  | [], _, h => by cases h
  | y :: r, d, h => by
    unfold near at h
    by_cases e : y.1 = a
    · rw [if_pos e] at h
      cases h
      exact ⟨[], y.2, r, by rw [← e]; rfl, rfl, fun _ h => nomatch h⟩
    · rw [if_neg e] at h
      cases hc : O.tc y.1 a
      · rw [hc, if_neg (by decide)] at h
        obtain ⟨d', hd, rfl⟩ := Option.map_eq_some_iff.mp h
        obtain ⟨m, t, v, rfl, hl, hm⟩ := near_some hd
        refine ⟨y :: m, t, v, rfl, by rw [List.length_cons, hl], fun w hw => ?_⟩
        rcases List.mem_cons.mp hw with rfl | hw
        · exact hc
        · exact hm w hw
      · rw [hc, if_pos rfl] at h
        cases h
theorem met_pl : ∀ {l : Row α}, met O l = none ↔ pl O l = true
  | [] => ⟨fun _ => rfl, fun _ => rfl⟩
  | x :: r => by
    unfold met pl
    cases near O x.1 r with
    | some d => simp
    | none =>
      simp only [Option.isNone_none, Bool.true_and, Option.map_eq_none_iff]
      exact met_pl
theorem met_some : ∀ {l : Row α} {i j : Nat}, met O l = some (i, j) → ∃ u a s m t v, l = u ++ (a, s) :: (m ++ (a, t) :: v) ∧ u.length = i ∧ i + 1 + m.length = j ∧ ∀ w ∈ m, O.tc w.1 a = false
  | [], _, _, h => by cases h
  | x :: r, i, j, h => by
    unfold met at h
    cases hn : near O x.1 r with
    | some d =>
      rw [hn] at h
      cases h
      obtain ⟨m, t, v, rfl, hl, hm⟩ := near_some hn
      exact ⟨[], x.1, x.2, m, t, v, rfl, rfl, by rw [hl]; omega, hm⟩
    | none =>
      rw [hn] at h
      obtain ⟨⟨i', j'⟩, h2, e⟩ := Option.map_eq_some_iff.mp h
      cases e
      obtain ⟨u, a, s, m, t, v, rfl, h3, h4, h5⟩ := met_some h2
      exact ⟨x :: u, a, s, m, t, v, rfl, by rw [List.length_cons, h3], by omega, h5⟩
/-! ### changes of neighbours that are apart -/
theorem near_swap {a : α} {x y : α × Int} (h : O.tc x.1 y.1 = false) {v : Row α} : ∀ {u : Row α}, (near O a (u ++ x :: y :: v)).isSome = (near O a (u ++ y :: x :: v)).isSome
  | [] => by
    show (near O a (x :: y :: v)).isSome = (near O a (y :: x :: v)).isSome
    have ne := ne_of_apart h
    simp only [near]
    by_cases ex : x.1 = a
    · have ey : y.1 ≠ a := fun q => ne (ex.trans q.symm)
      have ty : O.tc y.1 a = false := by rw [← ex]; exact apart_symm h
      rw [if_pos ex, if_neg ey, ty]
      simp [ex]
    · by_cases ey : y.1 = a
      · have tx : O.tc x.1 a = false := by rw [← ey]; exact h
        simp [ex, ey, tx]
      · cases tx : O.tc x.1 a <;> cases ty : O.tc y.1 a <;> simp [ex, ey]
  | z :: u => by
    have ih := near_swap (a := a) h (v := v) (u := u)
    show (near O a (z :: (u ++ x :: y :: v))).isSome = (near O a (z :: (u ++ y :: x :: v))).isSome
    simp only [near]
    by_cases ez : z.1 = a
    · simp [ez]
    · cases tz : O.tc z.1 a
      · simp [ez, ih]
      · simp [ez]
theorem pl_swap {x y : α × Int} (h : O.tc x.1 y.1 = false) {v : Row α} : ∀ {u : Row α}, pl O (u ++ x :: y :: v) = pl O (u ++ y :: x :: v)
  | [] => by
    have ne := ne_of_apart h
    show ((near O x.1 (y :: v)).isNone && ((near O y.1 v).isNone && pl O v)) = ((near O y.1 (x :: v)).isNone && ((near O x.1 v).isNone && pl O v))
    have e1 : (near O x.1 (y :: v)).isNone = (near O x.1 v).isNone := by
      simp [near, Ne.symm ne, apart_symm h]
    have e2 : (near O y.1 (x :: v)).isNone = (near O y.1 v).isNone := by
      simp [near, ne, h]
    rw [e1, e2, ← Bool.and_assoc, ← Bool.and_assoc, Bool.and_comm (near O x.1 v).isNone]
  | z :: u => by
    have ih := pl_swap h (v := v) (u := u)
    have e := near_swap (a := z.1) h (v := v) (u := u)
    show ((near O z.1 (u ++ x :: y :: v)).isNone && pl O (u ++ x :: y :: v)) = ((near O z.1 (u ++ y :: x :: v)).isNone && pl O (u ++ y :: x :: v))
    rw [ih]
    congr 1
    cases h1 : near O z.1 (u ++ x :: y :: v) <;> cases h2 : near O z.1 (u ++ y :: x :: v) <;> rw [h1, h2] at e <;> first | rfl | cases e
theorem near_move {a : α} {x : α × Int} {v : Row α} : ∀ {p u : Row α}, (∀ w ∈ p, O.tc w.1 x.1 = false) → (near O a (u ++ (p ++ x :: v))).isSome = (near O a (u ++ (x :: (p ++ v)))).isSome
  | [], _, _ => rfl
  | y :: p, u, h => by
    have e := near_move (a := a) (x := x) (v := v) (p := p) (u := u ++ [y]) fun w hw => h w (List.mem_cons_of_mem _ hw)
    rw [List.append_assoc, List.append_assoc] at e
    exact Eq.trans e (near_swap (h y List.mem_cons_self))
theorem pl_move {x : α × Int} {v : Row α} : ∀ {p u : Row α}, (∀ w ∈ p, O.tc w.1 x.1 = false) → pl O (u ++ (p ++ x :: v)) = pl O (u ++ (x :: (p ++ v)))
  | [], _, _ => rfl
  | y :: p, u, h => by
    have e := pl_move (x := x) (v := v) (p := p) (u := u ++ [y]) fun w hw => h w (List.mem_cons_of_mem _ hw)
    rw [List.append_assoc, List.append_assoc] at e
    exact Eq.trans e (pl_swap (h y List.mem_cons_self))
theorem pl_right : ∀ {u v : Row α}, pl O (u ++ v) = true → pl O v = true
  | [], _, h => h
  | x :: u, v, h => pl_right (u := u) (Bool.and_eq_true_iff.mp (show ((near O x.1 (u ++ v)).isNone && pl O (u ++ v)) = true from h)).2
theorem pl_ne {x y : α × Int} {u v q : Row α} (h : pl O (u ++ y :: (v ++ x :: q)) = true) (hv : ∀ w ∈ v, O.tc w.1 x.1 = false) : y.1 ≠ x.1 := fun e => by
  have h1 := (Bool.and_eq_true_iff.mp (show ((near O y.1 (v ++ x :: q)).isNone && pl O (v ++ x :: q)) = true from pl_right h)).1
  rw [e, near_none hv] at h1
  simp [near] at h1
/-! ### sorting a pile -/
/-- where least names came first -/
structure Srt (O : Ord α) (found left : Row α) : Prop where
  own : ∀ u y v z q, found = u ++ y :: (v ++ z :: q) → O.tc y.1 z.1 = false → (∀ w ∈ v, O.tc w.1 z.1 = false) → O.lt y.1 z.1 = true
  out : ∀ u y v p z q, found = u ++ y :: v → left = p ++ z :: q → O.tc y.1 z.1 = false → (∀ w ∈ v, O.tc w.1 z.1 = false) → (∀ w ∈ p, O.tc w.1 z.1 = false) → O.lt y.1 z.1 = true
theorem Srt.nil (left : Row α) : Srt O [] left := ⟨fun u y v z q h => by simp at h, fun u y v p z q h => by simp at h⟩
/-- the least of those that can stand first -/
structure LeastFirst (O : Ord α) (p : Row α) (x : α × Int) (q : Row α) : Prop where
  free : ∀ w ∈ p, O.tc w.1 x.1 = false
  least : ∀ p' z q', p ++ x :: q = p' ++ z :: q' → (∀ w ∈ p', O.tc w.1 z.1 = false) → z.1 ≠ x.1 → O.lt x.1 z.1 = true
theorem split_end {u v : Row α} {y x : α × Int} {l : Row α} (h : l ++ [x] = u ++ y :: v) : (v = [] ∧ l = u ∧ x = y) ∨ ∃ v', v = v' ++ [x] ∧ l = u ++ y :: v' := by
  rcases List.eq_nil_or_concat v with rfl | ⟨v', z, rfl⟩
  · left
    have := List.append_inj' h rfl
    exact ⟨rfl, this.1, by simpa using this.2⟩
  · right
    rw [List.concat_eq_append] at h ⊢
    have h' : l ++ [x] = (u ++ y :: v') ++ [z] := by rw [h]; simp
    have := List.append_inj' h' rfl
    have e : x = z := by simpa using this.2
    exact ⟨v', by rw [e], this.1⟩
theorem Srt.step {found p q : Row α} {x : α × Int} (S : Srt O found (p ++ x :: q)) (L : LeastFirst O p x q) : Srt O (found ++ [x]) (p ++ q) := by
  constructor
  · intro u y v z r h hyz hv
    have h' : found ++ [x] = (u ++ y :: v) ++ z :: r := by rw [h]; simp
    rcases split_end h' with ⟨rfl, e1, e2⟩ | ⟨r', rfl, e1⟩
    · subst e2
      exact S.out u y v p x q e1 rfl hyz hv L.free
    · exact S.own u y v z r' (by rw [e1]; simp) hyz hv
  · intro u y v p' z q' h h2 hyz hv hp'
    -- z in the row with x
    have place : (∃ q1, p = p' ++ z :: q1) ∨ (∃ q1, q = q1 ++ z :: q' ∧ p' = p ++ q1) := by
      rcases List.append_eq_append_iff.mp h2 with ⟨as, e1, e2⟩ | ⟨bs, e1, e2⟩
      · exact .inr ⟨as, e2, e1⟩
      · cases bs with
        | nil => exact .inr ⟨[], by simpa using e2.symm, by simpa using e1.symm⟩
        | cons b bs =>
          rw [List.cons_append] at e2
          injection e2 with e3 e4
          subst e3
          exact .inl ⟨bs, e1⟩
    rcases split_end h with ⟨rfl, e1, e2⟩ | ⟨v', rfl, e1⟩
    · subst e2
      rcases place with ⟨q1, rfl⟩ | ⟨q1, rfl, rfl⟩
      · exact L.least p' z (q1 ++ x :: q) (by simp) hp' (fun e => by rw [e, O.refl] at hyz; cases hyz)
      · refine L.least (p ++ x :: q1) z q' (by simp) (fun w hw => ?_) (fun e => by rw [e, O.refl] at hyz; cases hyz)
        rcases List.mem_append.mp hw with hw | hw
        · exact hp' w (List.mem_append_left _ hw)
        · rcases List.mem_cons.mp hw with rfl | hw
          · exact hyz
          · exact hp' w (List.mem_append_right _ hw)
    · have hx : O.tc x.1 z.1 = false := hv x (by simp)
      have hv' : ∀ w ∈ v', O.tc w.1 z.1 = false := fun w hw => hv w (List.mem_append_left _ hw)
      rcases place with ⟨q1, rfl⟩ | ⟨q1, rfl, rfl⟩
      · exact S.out u y v' p' z (q1 ++ x :: q) e1 (by simp) hyz hv' hp'
      · refine S.out u y v' (p ++ x :: q1) z q' e1 (by simp) hyz hv' fun w hw => ?_
        rcases List.mem_append.mp hw with hw | hw
        · exact hp' w (List.mem_append_left _ hw)
        · rcases List.mem_cons.mp hw with rfl | hw
          · exact hx
          · exact hp' w (List.mem_append_right _ hw)
theorem top_of {a : α} : ∀ {r : Row α}, (∀ v' y u', r = v' ++ y :: u' → (∀ w ∈ v', O.tc w.1 a = false) → O.tc y.1 a = false → O.lt y.1 a = true) → (∀ v' y u', r = v' ++ y :: u' → (∀ w ∈ v', O.tc w.1 a = false) → y.1 ≠ a) → top O a r = true
  | [], _, _ => rfl
  | y :: r, h1, h2 => by
    cases hc : O.tc y.1 a
    · rw [top_apart hc, h1 [] y r rfl (fun _ h => nomatch h) hc, Bool.true_and]
      refine top_of (fun v' z u' e hv hz => h1 (y :: v') z u' (by rw [e]; rfl) (fun w hw => ?_) hz) (fun v' z u' e hv => h2 (y :: v') z u' (by rw [e]; rfl) fun w hw => ?_)
      · rcases List.mem_cons.mp hw with rfl | hw
        · exact hc
        · exact hv w hw
      · rcases List.mem_cons.mp hw with rfl | hw
        · exact hc
        · exact hv w hw
    · exact top_touch hc (h2 [] y r rfl fun _ h => nomatch h)
/-- a pile in which least names came first is a least pile -/
theorem nf_of {left : Row α} : ∀ (n : Nat) (found : Row α), found.length = n → Srt O found left → pl O (found ++ left) = true → NZ found → NF O found.reverse := by
  intro n
  have pre : ∀ (n : Nat) (found : Row α) (tail : Row α), found.length = n → (∀ u y v z q, found = u ++ y :: (v ++ z :: q) → O.tc y.1 z.1 = false → (∀ w ∈ v, O.tc w.1 z.1 = false) → O.lt y.1 z.1 = true) → pl O (found ++ tail) = true → NZ found → NF O found.reverse := by
    intro n
    induction n with
    | zero =>
      intro found tail h _ _ _
      rw [List.length_eq_zero_iff.mp h]
      exact True.intro
    | succ n ih =>
      intro found tail h hS hP hZ
      obtain ⟨f, x, rfl⟩ : ∃ f x, found = f ++ [x] := ⟨found.dropLast, found.getLast (fun e => by rw [e] at h; cases h), (List.dropLast_concat_getLast _).symm⟩
      have hl : f.length = n := by
        rw [List.length_append] at h
        simpa using h
      rw [List.reverse_append]
      refine ⟨hZ x (by simp), ?_, ih f (x :: tail) hl (fun u y v z q e => hS u y v z (q ++ [x]) (by rw [e]; simp)) (by simpa using hP) hZ.left⟩
      refine top_of (fun v' y u' e hv hy => ?_) (fun v' y u' e hv => ?_)
      · have e2 : f = u'.reverse ++ y :: v'.reverse := by
          have := congrArg List.reverse e
          simpa using this
        exact hS u'.reverse y v'.reverse x [] (by rw [e2]; simp) hy fun w hw => hv w (List.mem_reverse.mp hw)
      · have e2 : f = u'.reverse ++ y :: v'.reverse := by
          have := congrArg List.reverse e
          simpa using this
        exact pl_ne (O := O) (x := x) (y := y) (u := u'.reverse) (v := v'.reverse) (q := tail) (by rw [e2] at hP; simpa using hP) fun w hw => hv w (List.mem_reverse.mp hw)
  intro found h S hP hZ
  exact pre n found left h S.own hP hZ
end
end XM
set_option linter.all false
namespace XM
section
variable {α : Type} [DecidableEq α] {O : Ord α}
theorem ins_len {x : α × Int} : ∀ {r : Row α}, (ins O x r).length ≤ r.length + 1
  | [] => Nat.le_refl _
  | y :: r => by
    have ih := ins_len (x := x) (r := r)
    unfold ins
    split
    · split <;> simp <;> omega
    · split
      · simp
      · split
        · simp
        · simp only [List.length_cons]
          omega
theorem act_len : ∀ {l r : Row α}, (act O l r).length ≤ l.length + r.length
  | [], r => by simp [act]
  | x :: l, r => by
    have h1 := act_len (l := l) (r := ins O x r)
    have h2 := ins_len (O := O) (x := x) (r := r)
    rw [act_cons, List.length_cons]
    omega
/-! ### those that can stand first -/
/-- the first of those that can stand first -/
theorem ex_least : ∀ (n : Nat) (left : Row α), left.length = n → left ≠ [] → ∃ p x q, left = p ++ x :: q ∧ LeastFirst O p x q := by
  intro n
  -- among the splits with a free item there is one of least name
  have gen : ∀ (k : Nat) (left : Row α) (p : Row α) (x : α × Int) (q : Row α), left = p ++ x :: q → (∀ w ∈ p, O.tc w.1 x.1 = false) →
      (left.filter fun y => O.lt y.1 x.1).length ≤ k → ∃ p x q, left = p ++ x :: q ∧ LeastFirst O p x q := by
    intro k
    induction k with
    | zero =>
      intro left p x q e hp hk
      refine ⟨p, x, q, e, hp, fun p' z q' e' hp' hn => ?_⟩
      cases h : O.lt x.1 z.1
      · have hz : O.lt z.1 x.1 = true := O.tot _ _ (fun e => hn e.symm) h
        have hm : z ∈ left.filter fun y => O.lt y.1 x.1 := List.mem_filter.mpr ⟨by rw [e, e']; simp, hz⟩
        rw [List.length_eq_zero_iff.mp (Nat.le_zero.mp hk)] at hm
        cases hm
      · rfl
    | succ k ih =>
      intro left p x q e hp hk
      by_cases hex : ∃ p' z q', left = p' ++ z :: q' ∧ (∀ w ∈ p', O.tc w.1 z.1 = false) ∧ O.lt z.1 x.1 = true
      · obtain ⟨p', z, q', e', hp', hz⟩ := hex
        refine ih left p' z q' e' hp' ?_
        have hlt : (left.filter fun y => O.lt y.1 z.1).length < (left.filter fun y => O.lt y.1 x.1).length := by
          have hsub : (left.filter fun y => O.lt y.1 z.1) = (left.filter fun y => O.lt y.1 x.1).filter fun y => O.lt y.1 z.1 := by
            rw [List.filter_filter]
            congr 1
            funext y
            cases h1 : O.lt y.1 z.1
            · rfl
            · rw [O.trans _ _ _ h1 hz]
              rfl
          rw [hsub]
          have hm : z ∈ left.filter fun y => O.lt y.1 x.1 := List.mem_filter.mpr ⟨by rw [e']; simp, hz⟩
          refine Nat.lt_of_le_of_ne (List.length_filter_le _ _) fun he => ?_
          have := List.length_filter_eq_length_iff.mp he z hm
          rw [O.irr] at this
          cases this
        omega
      · refine ⟨p, x, q, e, hp, fun p' z q' e' hp' hn => ?_⟩
        cases h : O.lt x.1 z.1
        · exact absurd ⟨p', z, q', by rw [e, e'], hp', O.tot _ _ (fun e => hn e.symm) h⟩ hex
        · rfl
  intro left h hne
  cases left with
  | nil => exact absurd rfl hne
  | cons x q => exact gen _ (x :: q) [] x q rfl (fun _ h => nomatch h) (Nat.le_refl _)
/-- each pile can be sorted -/
theorem sort_ex {l : Row α} (hP : pl O l = true) (hZ : NZ l) : ∃ f : Row α, NF O f.reverse ∧ act O f [] = act O l [] ∧ f.length = l.length ∧ ∀ a, (near O a f).isSome = (near O a l).isSome := by
  have go : ∀ (n : Nat) (found left : Row α), left.length = n → Srt O found left → pl O (found ++ left) = true → NZ (found ++ left) →
      ∃ f : Row α, NF O f.reverse ∧ act O f [] = act O (found ++ left) [] ∧ f.length = (found ++ left).length ∧ ∀ a, (near O a f).isSome = (near O a (found ++ left)).isSome := by
    intro n
    induction n with
    | zero =>
      intro found left h S P Z
      have e : left = [] := List.length_eq_zero_iff.mp h
      subst e
      rw [List.append_nil] at Z ⊢
      exact ⟨found, nf_of _ found rfl S P Z, rfl, rfl, fun _ => rfl⟩
    | succ n ih =>
      intro found left h S P Z
      obtain ⟨p, x, q, rfl, L⟩ := ex_least (O := O) _ left rfl (fun e => by rw [e] at h; cases h)
      have zf := Z.left
      have zp : NZ p := Z.right.left
      have e0 : found ++ x :: (p ++ q) = found ++ [x] ++ (p ++ q) := by simp
      have P' : pl O (found ++ [x] ++ (p ++ q)) = true := by rw [← e0, ← pl_move L.free]; exact P
      have Z' : NZ (found ++ [x] ++ (p ++ q)) := fun y hy => Z y (by
        simp only [List.mem_append, List.mem_cons, List.mem_nil_iff, or_false] at hy ⊢
        rcases hy with (hy | hy) | hy | hy <;> simp [hy])
      obtain ⟨f, h1, h2, h3, h4⟩ := ih (found ++ [x]) (p ++ q) (by rw [List.length_append] at h ⊢; simp at h; omega) (S.step L) P' Z'
      refine ⟨f, h1, h2.trans ?_, h3.trans ?_, fun a => (h4 a).trans ?_⟩
      · rw [← e0, act_move L.free zf zp (show NF O [] from True.intro)]
      · simp only [List.length_append, List.length_cons, List.length_nil]
        omega
      · rw [← e0, near_move L.free]
  have := go l.length [] l rfl (Srt.nil l) (by simpa using hP) (by simpa using hZ)
  simpa using this
theorem near_pile {l : Row α} (hP : pl O l = true) (hZ : NZ l) (a : α) : (near O a (act O l []).reverse).isSome = (near O a l).isSome := by
  obtain ⟨f, h1, h2, _, h4⟩ := sort_ex hP hZ
  have e : (act O l []).reverse = f := by
    have := act_fix h1
    rw [List.reverse_reverse] at this
    rw [← h2, this, List.reverse_reverse]
  rw [e]
  exact h4 a
/-- a row is a pile exactly if its pile has as many pieces -/
theorem pile_iff {l : Row α} (hZ : NZ l) : (act O l []).length = l.length ↔ met O l = none := by
  constructor
  · intro h
    cases hm : met O l with
    | none => rfl
    | some ij =>
      obtain ⟨u, a, s, m, t, v, rfl, _, _, h5⟩ := met_some hm
      have hs : s ≠ 0 := hZ (a, s) (by simp)
      have ht : t ≠ 0 := hZ (a, t) (by simp)
      have zu : NZ u := hZ.left
      have zm : NZ m := fun w hw => hZ w (by simp [hw])
      rw [act_meet h5 hs ht zu zm (show NF O [] from True.intro)] at h
      have hl := act_len (O := O) (l := u ++ ((if s + t = 0 then [] else [(a, s + t)]) ++ (m ++ v))) (r := [])
      rw [h] at hl
      simp only [List.length_append, List.length_cons, List.length_nil] at hl
      by_cases h0 : s + t = 0
      · rw [if_pos h0] at hl
        simp at hl
        omega
      · rw [if_neg h0] at hl
        simp at hl
        omega
  · intro h
    obtain ⟨f, h1, h2, h3, _⟩ := sort_ex (O := O) (met_pl.mp h) hZ
    have := act_fix h1
    rw [List.reverse_reverse] at this
    rw [← h2, this, List.length_reverse, h3]
theorem pl_nf : ∀ {r : Row α}, NF O r → pl O r.reverse = true := fun {r} h => by
  have hz : NZ r.reverse := fun x hx => nf_nz h x (List.mem_reverse.mp hx)
  refine met_pl.mp ((pile_iff hz).mp ?_)
  rw [act_fix h, List.length_reverse]
/-! ### the other way round -/
theorem near_map {a : α} {g : α × Int → α × Int} (hg : ∀ x, (g x).1 = x.1) : ∀ {l : Row α}, near O a (l.map g) = near O a l
  | [] => rfl
  | x :: l => by
    show (if (g x).1 = a then some 0 else if O.tc (g x).1 a then none else (near O a (l.map g)).map (· + 1)) = _
    rw [near_map hg, hg]
    rfl
/-- none of one name behind one of the same that could come to it: told from the end -/
theorem pl_rev : ∀ {l : Row α}, pl O l = true → pl O l.reverse = true := by
  have key : ∀ (l : Row α), (∀ u a s m t v, l = u ++ (a, s) :: (m ++ (a, t) :: v) → ∃ w ∈ m, O.tc w.1 a = true) ↔ pl O l = true := by
    intro l
    constructor
    · intro h
      refine met_pl.mp ?_
      cases hm : met O l with
      | none => rfl
      | some ij =>
        obtain ⟨u, a, s, m, t, v, e, _, _, h5⟩ := met_some hm
        obtain ⟨w, hw, h6⟩ := h u a s m t v e
        rw [h5 w hw] at h6
        cases h6
    · intro h u a s m t v e
      by_cases hex : ∃ w ∈ m, O.tc w.1 a = true
      · exact hex
      · exact absurd rfl (pl_ne (O := O) (x := (a, t)) (y := (a, s)) (u := u) (v := m) (q := v) (by rw [← e]; exact h) fun w hw => by
          cases q : O.tc w.1 a
          · rfl
          · exact absurd ⟨w, hw, q⟩ hex)
  intro l h
  refine (key _).mp fun u a s m t v e => ?_
  have e2 : l = v.reverse ++ (a, t) :: (m.reverse ++ (a, s) :: u.reverse) := by
    have := congrArg List.reverse e
    simpa using this
  obtain ⟨w, hw, hc⟩ := (key l).mpr h _ _ _ _ _ _ e2
  exact ⟨w, List.mem_reverse.mp hw, hc⟩
theorem pl_map {g : α × Int → α × Int} (hg : ∀ x, (g x).1 = x.1) : ∀ {l : Row α}, pl O (l.map g) = pl O l
  | [] => rfl
  | x :: l => by
    show ((near O (g x).1 (l.map g)).isNone && pl O (l.map g)) = _
    rw [near_map hg, hg, pl_map hg]
    rfl
/-- what can stand last in a pile can stand first in that of what takes back -/
theorem near_back {l : Row α} (hZ : NZ l) (a : α) : (near O a (act O (back l) []).reverse).isSome = (near O a (act O l [])).isSome := by
  have hN : NF O (act O l []) := nf_act hZ (show NF O [] from True.intro)
  have hz : NZ (act O l []).reverse := fun x hx => nf_nz hN x (List.mem_reverse.mp hx)
  have e : act O (back l) [] = act O (back (act O l []).reverse) [] := act_back_eq hZ hz (act_fix hN).symm (show NF O [] from True.intro)
  have hb : back (act O l []).reverse = (act O l []).map fun x => (x.1, -x.2) := by
    unfold back
    rw [List.map_reverse, List.reverse_reverse]
  have hp : pl O ((act O l []).map fun x => (x.1, -x.2)) = true := by
    rw [pl_map (g := fun x => (x.1, -x.2)) fun _ => rfl]
    have := pl_rev (pl_nf hN)
    rwa [List.reverse_reverse] at this
  rw [e, hb, near_pile hp (by rw [← hb]; exact back_nz hz), near_map (g := fun x => (x.1, -x.2)) fun _ => rfl]
/-! ### names that can stand first, in their order -/
def frs (O : Ord α) (bar : Row α) : Row α → List α
  | [] => []
  | x :: r => if bar.all (fun w => !O.tc w.1 x.1) then x.1 :: frs O (bar ++ [x]) r else frs O (bar ++ [x]) r
theorem mem_frs {n : α} : ∀ {l bar : Row α}, n ∈ frs O bar l ↔ (∀ w ∈ bar, O.tc w.1 n = false) ∧ (near O n l).isSome = true
  | [], bar => by simp [frs, near]
  | x :: l, bar => by
    have ih := mem_frs (n := n) (l := l) (bar := bar ++ [x])
    have all_iff : (bar.all fun w => !O.tc w.1 x.1) = true ↔ ∀ w ∈ bar, O.tc w.1 x.1 = false := by simp
    have hx : (∀ w ∈ bar ++ [x], O.tc w.1 n = false) ↔ (∀ w ∈ bar, O.tc w.1 n = false) ∧ O.tc x.1 n = false := by
      constructor
      · exact fun h => ⟨fun w hw => h w (by simp [hw]), h x (by simp)⟩
      · rintro ⟨h1, h2⟩ w hw
        rcases List.mem_append.mp hw with hw | hw
        · exact h1 w hw
        · rw [List.mem_singleton.mp hw]
          exact h2
    rw [hx] at ih
    unfold frs near
    by_cases e : x.1 = n
    · subst e
      rw [if_pos rfl]
      simp only [Option.isSome_some, and_true]
      have no : x.1 ∉ frs O (bar ++ [x]) l := fun hm => by
        have := (ih.mp hm).1.2
        rw [O.refl] at this
        cases this
      split
      · rename_i h
        exact ⟨fun _ => all_iff.mp h, fun _ => List.mem_cons_self⟩
      · rename_i h
        exact ⟨fun hm => absurd hm no, fun hb => absurd (all_iff.mpr hb) h⟩
    · rw [if_neg e]
      have base : n ∈ frs O (bar ++ [x]) l ↔ (∀ w ∈ bar, O.tc w.1 n = false) ∧ (if O.tc x.1 n then none else (near O n l).map (· + 1)).isSome = true := by
        rw [ih]
        cases hc : O.tc x.1 n <;> simp
      split
      · rw [List.mem_cons]
        exact ⟨fun h => h.elim (fun q => absurd q.symm e) base.mp, fun h => .inr (base.mpr h)⟩
      · exact base
theorem nodup_frs : ∀ {l bar : Row α}, (frs O bar l).Nodup
  | [], _ => List.nodup_nil
  | x :: l, bar => by
    have ih := nodup_frs (l := l) (bar := bar ++ [x])
    unfold frs
    split
    · refine List.nodup_cons.mpr ⟨fun hm => ?_, ih⟩
      have := (mem_frs.mp hm).1 x (by simp)
      rw [O.refl] at this
      cases this
    · exact ih
end
end XM
set_option Elab.async false
set_option linter.all false
set_option maxRecDepth 100000
set_option maxHeartbeats 4000000
namespace XB
open PySem PySem.Spec PyProof.Rows L2
/-! ### the order of texts is one -/
theorem str_ext {a b : Str} (h : a.cps.toList = b.cps.toList) : a = b := by
  obtain ⟨⟨x⟩⟩ := a
  obtain ⟨⟨y⟩⟩ := b
  have h : x = y := h
  rw [h]
theorem sLt_irr (a : Str) : sLt a a = false := decide_eq_false (List.lt_irrefl _)
theorem sLt_trans (a b c : Str) (h : sLt a b = true) (g : sLt b c = true) : sLt a c = true := decide_eq_true (List.lt_trans (of_decide_eq_true h) (of_decide_eq_true g))
theorem sLt_tot (a b : Str) (n : a ≠ b) (h : sLt a b = false) : sLt b a = true := by
  have h1 : ¬ a.cps.toList < b.cps.toList := of_decide_eq_false h
  refine decide_eq_true ?_
  have h2 : b.cps.toList ≤ a.cps.toList := List.not_lt.mp h1
  rcases Classical.em (b.cps.toList < a.cps.toList) with h3 | h3
  · exact h3
  · exact absurd (str_ext (List.le_antisymm (List.not_lt.mp h3) h2)) n
/-! ### fields and rows of steps as data -/
structure Fld where
  names : List Str
  pairs : List (Str × Str)
def apart (F : Fld) (a b : Str) : Bool := F.pairs.contains (a, b) || F.pairs.contains (b, a)
def OF (F : Fld) : XM.Ord Str where
  tc := fun a b => decide (a = b) || !apart F a b
  lt := sLt
  refl := fun a => by simp
  symm := fun a b => by
    unfold apart
    rw [Bool.or_comm (F.pairs.contains (a, b))]
    congr 1
    exact decide_eq_decide.mpr ⟨Eq.symm, Eq.symm⟩
  irr := sLt_irr
  trans := sLt_trans
  tot := sLt_tot
/-- what a field keeps, as far as the functions of piles lean on it -/
structure Fld.Ok (F : Fld) : Prop where
  n0 : 0 < F.names.length
  n6 : F.names.length ≤ 6
  asc : ∀ p ∈ F.pairs, sLt p.1 p.2 = true
  inN : ∀ p ∈ F.pairs, p.1 ∈ F.names ∧ p.2 ∈ F.names
  sgn : ∀ n ∈ F.names, 1 ≤ n.length ∧ n.length ≤ 6 ∧ ∀ c ∈ n.cps.toList, 97 ≤ c ∧ c ≤ 122
  asN : F.names.Pairwise fun a b => sLt a b = true
  asP : F.pairs.Pairwise fun p q => (if p.1 == q.1 then (if p.2 == q.2 then false else sLt p.2 q.2) else sLt p.1 q.1) = true
  len : F.pairs.length ≤ 100
theorem apart_ne {F : Fld} (ok : F.Ok) {a : Str} : apart F a a = false := by
  have h : ¬ (a, a) ∈ F.pairs := fun h => by
    have := ok.asc _ h
    rw [sLt_irr] at this
    cases this
  unfold apart
  simp [h]
theorem tc_eq {F : Fld} (ok : F.Ok) (a b : Str) : (OF F).tc a b = !apart F a b := by
  show (decide (a = b) || !apart F a b) = _
  by_cases e : a = b
  · subst e
    rw [apart_ne ok]
    simp
  · simp [e]
/-- as the program asks it: the less one first -/
theorem apart_min {F : Fld} (ok : F.Ok) (a b : Str) : F.pairs.contains ((if sLt b a then b else a), (if sLt a b then b else a)) = apart F a b := by
  unfold apart
  cases h : sLt a b
  · by_cases e : a = b
    · subst e
      rw [sLt_irr]
      simp
    · have h2 := sLt_tot _ _ e h
      rw [h2]
      have n : ¬ (a, b) ∈ F.pairs := fun q => by
        have := ok.asc _ q
        rw [h] at this
        cases this
      simp [n]
  · have h2 : sLt b a = false := by
      cases q : sLt b a
      · rfl
      · have := sLt_trans _ _ _ h q
        rw [sLt_irr] at this
        cases this
    rw [h2]
    have n : ¬ (b, a) ∈ F.pairs := fun q => by
      have := ok.asc _ q
      rw [h2] at this
      cases this
    simp [n]
def touchL (F : Fld) (n : Str) : List Str := F.names.filter fun o => !apart F n o
theorem mem_touch {F : Fld} {a b : Str} (ok : F.Ok) (hb : b ∈ F.names) : (touchL F a).contains b = (OF F).tc b a := by
  rw [(OF F).symm, tc_eq ok]
  unfold touchL
  cases h : apart F a b <;> simp [hb, h]
def dPair (p : Str × Str) : PyData := .tuple [.str p.1, .str p.2]
def dNames (l : List Str) : PyData := .tuple (l.map .str)
def dField (F : Fld) : PyData := .tuple [dNames F.names, .tuple (F.pairs.map dPair)]
def dStep (s : Str × Int) : PyData := .tuple [.str s.1, .int s.2]
def dSteps (l : List (Str × Int)) : PyData := .tuple (l.map dStep)
/-! ### what stands while other things change -/
/-- tuples stand -/
structure Tk (H H' : Hp) : Prop where
  t : ∀ b xs, H b = some (.tup xs) → H' b = some (.tup xs)
  z : ∀ b o u, H b = some (.frz o u) → H' b = some (.frz o u)
theorem Tk.refl {H : Hp} : Tk H H := ⟨fun _ _ e => e, fun _ _ _ e => e⟩
theorem Tk.trans {H H1 H2 : Hp} (a : Tk H H1) (b : Tk H1 H2) : Tk H H2 := ⟨fun x xs e => b.t x xs (a.t x xs e), fun x o u e => b.z x o u (a.z x o u e)⟩
theorem Tk.of {H H1 : Hp} (a : Same H H1) : Tk H H1 := ⟨fun x xs e => a x _ e, fun x o u e => a x _ e⟩
theorem Tk.new {H H1 : Hp} {p : Addr} {o : HO} (a : Tk H H1) (hp : H1 p = none) : Tk H (upd H1 p o) := a.trans (Tk.of (same_upd hp))
theorem Tk.mut {H H1 : Hp} {p : Addr} {o u : HO} (a : Tk H H1) (hp : H1 p = some u) (h1 : ∀ xs, u ≠ .tup xs) (h2 : ∀ o' u', u ≠ .frz o' u') : Tk H (upd H1 p o) :=
  a.trans ⟨fun b xs e => by rw [upd_ne (ne_of e hp fun q => h1 xs q.symm)]; exact e, fun b o' u' e => by rw [upd_ne (ne_of e hp fun q => h2 o' u' q.symm)]; exact e⟩
theorem Tk.lst {H H1 : Hp} {p : Addr} {o : HO} {xs : List V} (a : Tk H H1) (hp : H1 p = some (.lst xs)) : Tk H (upd H1 p o) := a.mut hp (fun _ q => nomatch q) (fun _ _ q => nomatch q)
theorem Tk.sqT {K : PySem.W.Frag} {H H' : Hp} {a : Addr} {xs : List V} (k : Tk H H') (h : SqT K H a xs) : SqT K H' a xs := by
  rcases h with h | h
  · rcases h with h | ⟨o, h⟩
    · exact .inl (.inl (k.t _ _ h))
    · exact .inl (.inr ⟨o, k.z _ _ _ h⟩)
  · exact .inr h
mutual
def flatD : PyData → Bool
  | .none | .bool _ | .int _ | .str _ => true
  | .tuple xs => flatAll xs
  | .list _ | .dict _ => false
def flatAll : List PyData → Bool
  | [] => true
  | x :: xs => flatD x && flatAll xs
end
mutual
theorem Dp.tk {K : PySem.W.Frag} {H H' : Hp} (k : Tk H H') : ∀ (d : PyData) {v : V}, flatD d = true → Dp K H v d → Dp K H' v d
  | .none, _, _, h => by cases h; exact .non
  | .bool b, _, _, h => by cases h; exact .bl b
  | .int i, _, _, h => by cases h; exact .int i
  | .str x, _, _, h => by cases h; exact .str x
  | .tuple ds, _, hf, h => by
    cases h with
    | tup hs ha => exact .tup (k.sqT hs) (DpAll.tk k ds (by simpa only [flatD] using hf) ha)
  | .list _, _, hf, _ => by simp only [flatD] at hf; cases hf
  | .dict _, _, hf, _ => by simp only [flatD] at hf; cases hf
theorem DpAll.tk {K : PySem.W.Frag} {H H' : Hp} (k : Tk H H') : ∀ (ds : List PyData) {vs : List V}, flatAll ds = true → DpAll K H vs ds → DpAll K H' vs ds
  | [], _, _, h => by cases h; exact .nil
  | d :: ds, _, hf, h => by
    simp only [flatAll, Bool.and_eq_true] at hf
    cases h with
    | cons h1 h2 => exact .cons (Dp.tk k d hf.1 h1) (DpAll.tk k ds hf.2 h2)
end
theorem flatAll_of : ∀ {l : List PyData}, (∀ d ∈ l, flatD d = true) → flatAll l = true
  | [], _ => rfl
  | d :: l, h => by
    simp only [flatAll, Bool.and_eq_true]
    exact ⟨h d List.mem_cons_self, flatAll_of fun x hx => h x (List.mem_cons_of_mem _ hx)⟩
theorem flat_step (s : Str × Int) : flatD (dStep s) = true := rfl
theorem flat_all_steps (l : List (Str × Int)) : flatAll (l.map dStep) = true := flatAll_of fun d hd => by
  obtain ⟨s, _, rfl⟩ := List.mem_map.mp hd
  exact flat_step s
theorem flat_steps (l : List (Str × Int)) : flatD (dSteps l) = true := by
  show flatD (.tuple _) = true
  simp only [flatD]
  exact flat_all_steps l
theorem flat_names (l : List Str) : flatD (dNames l) = true := by
  show flatD (.tuple _) = true
  simp only [flatD]
  exact flatAll_of fun d hd => by
    obtain ⟨s, _, rfl⟩ := List.mem_map.mp hd
    rfl
theorem flat_field (F : Fld) : flatD (dField F) = true := by
  show flatD (.tuple _) = true
  simp only [flatD, flatAll, flat_names, Bool.true_and, Bool.and_true]
  exact flatAll_of fun d hd => by
    obtain ⟨s, _, rfl⟩ := List.mem_map.mp hd
    rfl
end XB
namespace L2
open PySem PySem.Spec PyProof.Rows XB
/-! ### rows of data by places -/
section
variable {K : PySem.W.Frag} {H : Hp}
theorem DpAll.len : ∀ {vs : List V} {ds : List PyData}, DpAll K H vs ds → vs.length = ds.length
  | _, _, .nil => rfl
  | _, _, .cons _ t => by rw [List.length_cons, List.length_cons, DpAll.len t]
theorem DpAll.get : ∀ {vs : List V} {ds : List PyData} {i : Nat} {v : V}, DpAll K H vs ds → vs[i]? = some v → ∃ d, ds[i]? = some d ∧ Dp K H v d
  | _, _, _, _, .nil, e => by simp at e
  | _, _, 0, _, .cons h _, e => by
    cases e
    exact ⟨_, rfl, h⟩
  | _, _, i + 1, _, .cons _ t, e => DpAll.get (i := i) t (by simpa using e)
theorem DpAll.app : ∀ {vs ws : List V} {ds es : List PyData}, DpAll K H vs ds → DpAll K H ws es → DpAll K H (vs ++ ws) (ds ++ es)
  | _, _, _, _, .nil, s => s
  | _, _, _, _, .cons h t, s => .cons h (DpAll.app t s)
theorem DpAll.take : ∀ {vs : List V} {ds : List PyData} (n : Nat), DpAll K H vs ds → DpAll K H (vs.take n) (ds.take n)
  | _, _, 0, _ => .nil
  | _, _, _ + 1, .nil => .nil
  | _, _, n + 1, .cons h t => .cons h (DpAll.take n t)
theorem DpAll.drop : ∀ {vs : List V} {ds : List PyData} (n : Nat), DpAll K H vs ds → DpAll K H (vs.drop n) (ds.drop n)
  | _, _, 0, h => h
  | _, _, _ + 1, .nil => .nil
  | _, _, n + 1, .cons _ t => DpAll.drop n t
theorem DpAll.rev : ∀ {vs : List V} {ds : List PyData}, DpAll K H vs ds → DpAll K H vs.reverse ds.reverse
  | _, _, .nil => .nil
  | _, _, .cons h t => by
    rw [List.reverse_cons, List.reverse_cons]
    exact (DpAll.rev t).app (.cons h .nil)
theorem DpAll.strs : ∀ l : List Str, DpAll K H (l.map V.str) (l.map PyData.str)
  | [] => .nil
  | x :: l => .cons (.str x) (DpAll.strs l)
theorem DpAll.of_strs : ∀ {l : List Str} {vs : List V}, DpAll K H vs (l.map PyData.str) → vs = l.map V.str
  | [], _, h => by
    cases h
    rfl
  | x :: l, _, h => by
    cases h with
    | cons h1 h2 =>
      cases h1
      rw [DpAll.of_strs h2]
      rfl
theorem Dp.step {v : V} {s : Str × Int} (h : Dp K H v (dStep s)) : ∃ a, v = .ref a ∧ SqT K H a [.str s.1, .int s.2] := by
  cases h with
  | tup hs ha =>
    cases ha with
    | cons h1 t =>
      cases t with
      | cons h2 t =>
        cases t
        cases h1
        cases h2
        exact ⟨_, rfl, hs⟩
theorem Dp.of_step {a : Addr} {s : Str × Int} (h : SqT K H a [.str s.1, .int s.2]) : Dp K H (.ref a) (dStep s) := .tup h (.cons (.str _) (.cons (.int _) .nil))
theorem Dp.pair {v : V} {s : Str × Str} (h : Dp K H v (dPair s)) : ∃ a, v = .ref a ∧ SqT K H a [.str s.1, .str s.2] := by
  cases h with
  | tup hs ha =>
    cases ha with
    | cons h1 t =>
      cases t with
      | cons h2 t =>
        cases t
        cases h1
        cases h2
        exact ⟨_, rfl, hs⟩
theorem Dp.steps {v : V} {l : List (Str × Int)} (h : Dp K H v (dSteps l)) : ∃ a vs, v = .ref a ∧ SqT K H a vs ∧ DpAll K H vs (l.map dStep) := by
  cases h with
  | tup hs ha => exact ⟨_, _, rfl, hs, ha⟩
theorem Dp.field {v : V} {F : Fld} (h : Dp K H v (dField F)) : ∃ a n p ps, v = .ref a ∧ SqT K H a [.ref n, .ref p] ∧ SqT K H n (F.names.map V.str) ∧ SqT K H p ps ∧ DpAll K H ps (F.pairs.map dPair) := by
  cases h with
  | tup hs ha =>
    cases ha with
    | cons h1 t =>
      cases t with
      | cons h2 t =>
        cases t
        cases h1 with
        | tup n1 n2 =>
          cases h2 with
          | tup p1 p2 =>
            rw [DpAll.of_strs n2] at n1
            exact ⟨_, _, _, _, rfl, hs, n1, p1, p2⟩
/-- the step at a place -/
theorem DpAll.step {vs : List V} {l : List (Str × Int)} {i : Nat} {s : Str × Int} (h : DpAll K H vs (l.map dStep)) (e : l[i]? = some s) : ∃ a, vs[i]? = some (.ref a) ∧ SqT K H a [.str s.1, .int s.2] := by
  have hl := h.len
  rw [List.length_map] at hl
  have hi : i < vs.length := by
    rw [hl]
    exact (List.getElem?_eq_some_iff.mp e).1
  obtain ⟨d, hd, hv⟩ := h.get (List.getElem?_eq_getElem hi)
  rw [List.getElem?_map, e] at hd
  cases hd
  obtain ⟨a, ha, hs⟩ := hv.step
  exact ⟨a, by rw [List.getElem?_eq_getElem hi, ha], hs⟩
end
end L2
set_option Elab.async false
set_option linter.all false
set_option maxRecDepth 100000
set_option maxHeartbeats 4000000
/-! defs that raise, called by their names; what stands when the tables of code objects grow -/
namespace XB
open PySem PySem.Spec PyProof.Rows L2
section
variable {P : Program} {w : World} {K : PySem.W.Frag} {mg : Str → Option Value} {base : Heap}
theorem clX {x : Str} {st : Stmt} {N ps : List Str} {k : Nat} {sp : Sp} (D : Dn K mg x st)
    (hb : ∀ (kV doc pm : Value) (an : Option Addr) (cdv ct : Value) (us : List Value), us.length = ps.length → bindArgs (PySem.W.fnOf x x (defArgs st) (defBody st) (defScope st) .none kV doc pm an cdv ct) ⟨us, []⟩ = pure (ps.zip us))
    (S : FnScope N ps (defScope st)) (len : ∀ vs H Q E, sp vs H Q E → vs.length = ps.length)
    (hbody : ∀ (f : Addr) (cdv : Value) (A : Around) (outer : List Env) (s : Shared) (H : Hp) (vs : List V) (Q : VK) (E : XK), Room k (A.deeper (envOfC x (defScope st) s.heap.objs.size f cdv)) → sp vs H Q E →
      ∃ t, PSs (cxOf (L2.CX P w) P w K mg base N x (defScope st) f cdv A outer s H E) (defBody st) t ∧ t { nx := fun _ H' => Q .non H', rt := Q } (start N vs) H) : Cl P w K mg base (L2.CX P w) (k + 1) x sp := by
  obtain ⟨f, fd, F, hm⟩ := D.ex
  exact ⟨f, fd, ps, F.okX S len (fun cdv A outer s H vs Q E hr h => hbody f cdv A outer s H vs Q E hr h), hm, F.kp, F.binds hb⟩
end
section
variable {X : Cx} {k j : Nat} {x : Str} {sp : Sp} {p pos : Pos} {e : Expr} {es : List Expr} {t : TA} {E : XK}
/-- a def that may raise, called where what it raises may pass -/
theorem pe_kX (c : Cl X.prog X.w X.K X.mg X.base (L2.CX X.prog X.w) k x sp) (hr : Room j X.A) (hk : k ≤ j) (tk : Takes X fun cls d _ H => E cls d H) (hg : Gl X x) (ha : PA X (e :: es) t)
    (hdb : (x == ("__debug__" : Str)) = false := by decide) (he : starEach (e :: es) X.env = (false, eval e X.env) :: starEach es X.env := by rfl) (hpl : (backTo pos (starEach es X.env)).any (·.1) = false := by rfl) :
    PE X (.Call (.Name x p) (e :: es) [] pos) (tCall sp [] E t) := by
  obtain ⟨f, fd, ps, F, hm, kp, b⟩ := c.ex
  exact pe_call F (hr.mono hk) hg hm kp b .nil (passes_call tk fun _ _ _ _ h => h) ha hdb he hpl
/-- a def that may raise, called where nothing it raises can come about -/
theorem pe_kL (c : Cl X.prog X.w X.K X.mg X.base (L2.CX X.prog X.w) k x sp) (hr : Room j X.A) (hk : k ≤ j) (hg : Gl X x) (ha : PA X (e :: es) t)
    (hdb : (x == ("__debug__" : Str)) = false := by decide) (he : starEach (e :: es) X.env = (false, eval e X.env) :: starEach es X.env := by rfl) (hpl : (backTo pos (starEach es X.env)).any (·.1) = false := by rfl) :
    PE X (.Call (.Name x p) (e :: es) [] pos) (tCall sp [] E0 t) := by
  obtain ⟨f, fd, ps, F, hm, kp, b⟩ := c.ex
  exact pe_call F (hr.mono hk) hg hm kp b .nil passL ha hdb he hpl
end
/-! ### the tables of code objects grow, all else stands -/
open LamX (ExtN Tabs TabS)
theorem extN_tk {H H' : Hp} (s : ExtN H H') : Tk H H' := ⟨fun b xs e => s b _ e fun ps z => (nomatch z), fun b o u e => s b _ e fun ps z => (nomatch z)⟩
theorem extN_at {H H' : Hp} (s : ExtN H H') {b : Addr} {o : HO} (e : H b = some o) (n : ∀ ps, o ≠ .tbl ps) : H' b = some o := s b o e n
theorem extN_lst {H H' : Hp} (s : ExtN H H') {b : Addr} {xs : List V} (e : H b = some (.lst xs)) : H' b = some (.lst xs) := s b _ e fun ps z => (nomatch z)
theorem extN_seq {K : PySem.W.Frag} {H H' : Hp} (s : ExtN H H') {a : Addr} {xs : List V} (h : SqL K H a xs) : SqL K H' a xs := by
  rcases h with h | h
  · rcases h with h | ⟨o, h⟩
    · exact .inl (.inl (extN_lst s h))
    · exact .inl (.inr ⟨o, s a _ h fun ps z => (nomatch z)⟩)
  · exact .inr h
mutual
theorem Dp.ext {K : PySem.W.Frag} {H H' : Hp} (s : ExtN H H') : ∀ (d : PyData) {v : V}, Dp K H v d → Dp K H' v d
  | .none, _, h => by cases h; exact .non
  | .bool b, _, h => by cases h; exact .bl b
  | .int i, _, h => by cases h; exact .int i
  | .str x, _, h => by cases h; exact .str x
  | .list ds, _, h => by
    cases h with
    | lst h1 h2 => exact .lst (extN_seq s h1) (DpAll.ext s ds h2)
  | .tuple ds, _, h => by
    cases h with
    | tup h1 h2 => exact .tup ((extN_tk s).sqT h1) (DpAll.ext s ds h2)
  | .dict _, _, h => by cases h
theorem DpAll.ext {K : PySem.W.Frag} {H H' : Hp} (s : ExtN H H') : ∀ (ds : List PyData) {vs : List V}, DpAll K H vs ds → DpAll K H' vs ds
  | [], _, h => by cases h; exact .nil
  | d :: ds, _, h => by
    cases h with
    | cons h1 h2 => exact .cons (Dp.ext s d h1) (DpAll.ext s ds h2)
end
theorem tabs_same {H H' : Hp} {T : List (Addr × Str)} (t : Tabs T H) (s : Same H H') : Tabs T H' := t.ext s
theorem tabs_first {H : Hp} {c P : Addr} {q : Str} (h : H P = some (.tbl #[])) : Tabs [(P, q)] H := fun y hy => by
  rw [List.mem_singleton.mp hy]
  exact TabS.nil h
theorem extN_same {H H' : Hp} (s : Same H H') : ExtN H H' := ExtN.of s
end XB
set_option Elab.async false
set_option linter.all false
set_option maxRecDepth 100000
set_option maxHeartbeats 4000000
namespace XB
open PySem PySem.Spec PyProof.Rows L2
theorem tyx_tup {K : PySem.W.Frag} {H : Hp} {a : Addr} {xs : List V} (h : SqT K H a xs) : TyX K H (.ref a) (.type "tuple") := by
  rcases h with (h | ⟨o, h⟩) | ⟨o, its, n, hk, hc, _⟩
  · exact .base (.tup h)
  · exact .fTuple h
  · exact .kTuple hk hc
section
variable {X : Cx} {e : Expr} {te : TE} {x : Str} {p q pos : Pos}
/-- isinstance(e, T), T a built-in class -/
theorem pe_isT (T : String) (hgI : Gl X "isinstance") (hmI : X.mg "isinstance" = none) (hgT : Gl X x) (hmT : X.mg x = none) (hv : bootBuiltins x = some (.type T)) (he : PE X e te)
    (hn : x ≠ "__name__" := by decide) (hdb : (x == ("__debug__" : Str)) = false := by decide)
    (h1 : starEach [e, .Name x q] X.env = (false, eval e X.env) :: starEach [.Name x q] X.env := by rfl) (h2 : starEach [.Name x q] X.env = (false, eval (.Name x q) X.env) :: starEach [] X.env := by rfl) :
    PE X (.Call (.Name "isinstance" p) [e, .Name x q] [] pos) (tCB (rIsi X.K) (tCons te (tCons (tC (.ty T)) tNil))) :=
  pe_callB call_isi hgI hmI (by decide +kernel) (pa_cons he (pa_cons (pe_bltn (v := .ty T) hgT hmT hv rfl hn hdb) pa_nil h2) h1) (by decide) (by decide) h1 (by rw [h2]; rfl)
/-- len(e) of a list or a tuple -/
theorem pe_lenS (hg : Gl X "len") (hm : X.mg "len" = none) (he : PE X e te) (h1 : starEach [e] X.env = (false, eval e X.env) :: starEach [] X.env := by rfl) :
    PE X (.Call (.Name "len" p) [e] [] pos) (tCB (fun xs H Q => ∃ p ys, xs = [V.ref p] ∧ (SqL X.K H p ys ∨ SqT X.K H p ys) ∧ Q (.int ys.length) H) (tCons te tNil)) :=
  pe_callB call_len_seq hg hm PySem.boot_len (pa_cons he pa_nil h1) (by decide) (by decide) h1 (by rfl)
/-- len(e) of a text -/
theorem pe_lenT (hg : Gl X "len") (hm : X.mg "len" = none) (he : PE X e te) (h1 : starEach [e] X.env = (false, eval e X.env) :: starEach [] X.env := by rfl) :
    PE X (.Call (.Name "len" p) [e] [] pos) (tCB (fun xs H Q => ∃ z, xs = [V.str z] ∧ z.length ≤ sizeLine ∧ Q (.int z.length) H) (tCons te tNil)) :=
  pe_callB call_len_str hg hm PySem.boot_len (pa_cons he pa_nil h1) (by decide) (by decide) h1 (by rfl)
theorem walk_zipT {K : PySem.W.Frag} {a b : Addr} {xs ys : List V} {n : Nat} (hn : n = min xs.length ys.length) : Walk (RZ.ItzT K a b) n (fun H => SqT K H a xs ∧ SqT K H b ys) (YPair (fun i => xs[i]?) (fun i => ys[i]?)) := by
  subst hn
  constructor
  · intro i H hi q
    have h1 : i < xs.length := by omega
    have h2 : i < ys.length := by omega
    exact ⟨xs, ys, xs[i], ys[i], q.1, q.2, List.getElem?_eq_getElem h1, List.getElem?_eq_getElem h2⟩
  · intro H q
    exact ⟨xs, ys, q.1, q.2, by omega⟩
  · rintro i H v H' _ q ⟨T, x, z, h1, h2, h3, h4, h5⟩
    exact ⟨T, x, z, h1, h2, h3, h4 xs q.1, h5 ys q.2⟩
theorem cut_tail (xs : List V) : cutV xs (some 1) none = xs.drop 1 := by
  unfold cutV
  rw [show HT.sIx xs.length 0 (some 1) = min 1 xs.length from HT.sIx_nat xs.length 0 1, HT.sIx_none]
  cases xs with
  | nil => rfl
  | cons x r =>
    rw [List.length_cons, show min 1 (r.length + 1) = 1 by omega]
    show List.take (r.length + 1 - 1) r = r
    rw [Nat.add_sub_cancel]
    exact List.take_length
/-- the rules within a comprehension's block, where the written part is told by its name -/
theorem op_ltSSk {X : Cx} {K : PySem.W.Frag} (hk : X.K = K) (hu : X.A.units + 64 < cLine) : OpR X (compareOp .Lt) (fun x y H Q => ∃ p q a b c d, x = .ref p ∧ y = .ref q ∧ SqT K H p [.str a, .str b] ∧ SqT K H q [.str c, .str d] ∧ Q (.bl (if a == c then (if b == d then false else sLt b d) else sLt a c)) H) := by
  subst hk
  exact op_ltSS hu
theorem ixk_list {X : Cx} {K : PySem.W.Frag} (hk : X.K = K) : IxR X (rIxL K) := by
  subst hk
  exact ix_list
theorem ixk_tup {X : Cx} {K : PySem.W.Frag} (hk : X.K = K) : IxR X (rIxT K) := by
  subst hk
  exact ix_tup
theorem opk_in_seq {X : Cx} {K : PySem.W.Frag} (hk : X.K = K) : OpR X (compareOp .In) (rIn K false) := by
  subst hk
  exact op_in_seq
theorem opk_notIn_seq {X : Cx} {K : PySem.W.Frag} (hk : X.K = K) : OpR X (compareOp .NotIn) (rIn K true) := by
  subst hk
  exact op_notIn_seq
theorem noPart {σ : L2.St} {H : Hp} {Q : Option Int → Hp → Prop} (h : Q none H) : tNoPart σ H Q := h
/-- t[1:] of a tuple, whatever its length -/
theorem sl_tail {K : PySem.W.Frag} {H : Hp} {a : Addr} {xs : List V} {Q : VK} (h : SqT K H a xs) (q0 : xs = [] → Q (.ref a) H) (q1 : xs ≠ [] → ∀ p, H p = none → Q (.ref p) (upd H p (.tup (xs.drop 1)))) : rSlA K (.ref a) (some 1) none H Q := by
  refine ⟨a, xs, rfl, h, fun e => q0 ?_, fun hn p hp => ?_⟩
  · have e1 : HT.sIx xs.length 0 (some 1) = min 1 xs.length := HT.sIx_nat xs.length 0 1
    rw [e1] at e
    cases xs with
    | nil => rfl
    | cons x r =>
      rw [List.length_cons] at e
      omega
  · rw [cut_tail]
    refine q1 (fun e => ?_) p hp
    subst e
    exact hn ⟨rfl, rfl⟩
end
end XB
set_option Elab.async false
set_option linter.all false
set_option maxRecDepth 100000
set_option maxHeartbeats 4000000
/-! own classes by their names: what stands in the module, promises of methods, their calls -/
namespace XB
open PySem PySem.Spec PyProof.Rows L2
/-- an own class that stands in the module -/
structure Oc (K : PySem.W.Frag) (mg : Str → Option Value) (x : Str) : Prop where
  ex : ∃ C, mg x = some (.ref C) ∧ Cls K C ∧ PySem.W.selfFirst K C = true ∧ PySem.W.makesIn K C = true ∧ PySem.W.keepIn K (.ref C) = true
  isx : ∃ C, mg x = some (.ref C) ∧ PySem.W.findIn K (.ref C) "__class__" = some (some (.builtin "object.__class__")) ∧ PySem.W.specialIn K (.builtin "object.__class__") "__get__" = some (some (.builtin "getset_descriptor.__get__")) ∧ PySem.W.takesIn K (.builtin "object.__class__") = some true ∧ PySem.W.mroIn K C (.type "object") = some true
/-- a method of an own class -/
structure Mt (K : PySem.W.Frag) (mg : Str → Option Value) (x m q : Str) (st : Stmt) : Prop where
  ex : ∃ (C f : Addr) (fd : FuncData), mg x = some (.ref C) ∧ Meth K C m f ∧ Fun K m q st f fd
/-- a property of an own class -/
structure Pt (K : PySem.W.Frag) (mg : Str → Option Value) (x m q : Str) (st : Stmt) : Prop where
  ex : ∃ (C p g : Addr) (fd : FuncData), mg x = some (.ref C) ∧ PropOf K C m p g ∧ Fun K m q st g fd
/-- a thing of an own class, with its fields -/
def Ins (mg : Str → Option Value) (x : Str) (H : Hp) (a : Addr) (fs : List (Str × V)) : Prop := ∃ C dx, mg x = some (.ref C) ∧ H a = some (.ins C dx fs)
theorem ins_eq {mg : Str → Option Value} {x : Str} {C : Addr} (hm : mg x = some (.ref C)) (H : Hp) (a : Addr) (fs : List (Str × V)) : Ins mg x H a fs = ∃ dx, H a = some (.ins C dx fs) := by
  refine propext ⟨fun ⟨D, dx, h1, h2⟩ => ?_, fun ⟨dx, h⟩ => ⟨C, dx, hm, h⟩⟩
  rw [cls_eq h1 hm] at h2
  exact ⟨dx, h2⟩
/-- what is no thing of an own class: things of built-in classes -/
def KitD (K : PySem.W.Frag) (mg : Str → Option Value) (x : Str) : Prop := ∀ C, mg x = some (.ref C) → ∀ T ∈ (["NoneType", "int", "bool", "str", "tuple", "list", "dict"] : List String), PySem.W.kitOne K (.type T) (.ref C) = some false
theorem oc_cls {K : PySem.W.Frag} {mg : Str → Option Value} {x : Str} {C : Addr} (O : Oc K mg x) (hm : mg x = some (.ref C)) : Cls K C := by
  obtain ⟨D, hd, hc, _⟩ := O.ex
  rw [cls_eq hd hm] at hc
  exact hc
/-- the class of a thing of an own class -/
theorem tyx_ins {K : PySem.W.Frag} {mg : Str → Option Value} {x : Str} {C : Addr} {H : Hp} {a : Addr} {fs : List (Str × V)} (O : Oc K mg x) (hm : mg x = some (.ref C)) (h : Ins mg x H a fs) : TyX K H (.ref a) (.ref C) := by
  rw [ins_eq hm] at h
  obtain ⟨dx, h⟩ := h
  obtain ⟨D, hd, h1, h2, h3, h4⟩ := O.isx
  rw [cls_eq hd hm] at h1 h4
  exact .base (.ins h (oc_cls O hm) h1 h2 h3 h4)
/-- the promise of a method -/
structure MCl (P : Program) (w : World) (K : PySem.W.Frag) (mg : Str → Option Value) (base : Heap) (CX : CXT) (k : Nat) (x m : Str) (sp : Sp) : Prop where
  ex : ∃ (C f : Addr) (fd : FuncData) (ps : List Str), mg x = some (.ref C) ∧ Meth K C m f ∧ FnOk P w K mg base CX k f fd ps sp ∧ L2.Binds K fd ps [] ∧ ∃ oc od osl, K.lookup f = some ⟨oc, od, .func fd, osl⟩
/-- the promise of a property -/
structure PCl (P : Program) (w : World) (K : PySem.W.Frag) (mg : Str → Option Value) (base : Heap) (CX : CXT) (k : Nat) (x m : Str) (sp : Sp) : Prop where
  ex : ∃ (C p g : Addr) (fd : FuncData) (ps : List Str), mg x = some (.ref C) ∧ PropOf K C m p g ∧ FnOk P w K mg base CX k g fd ps sp ∧ L2.Binds K fd ps []
section
variable {P : Program} {w : World} {K : PySem.W.Frag} {mg : Str → Option Value} {base : Heap}
theorem mclX {x m q : Str} {st : Stmt} {N ps : List Str} {k : Nat} {sp : Sp} (D : Mt K mg x m q st)
    (hb : ∀ (kV doc pm : Value) (an : Option Addr) (cdv ct : Value) (us : List Value), us.length = ps.length → bindArgs (PySem.W.fnOf m q (defArgs st) (defBody st) (defScope st) .none kV doc pm an cdv ct) ⟨us, []⟩ = pure (ps.zip us))
    (S : FnScope N ps (defScope st)) (len : ∀ vs H Q E, sp vs H Q E → vs.length = ps.length)
    (hbody : ∀ (f : Addr) (cdv : Value) (A : Around) (outer : List Env) (s : Shared) (H : Hp) (vs : List V) (Q : VK) (E : XK), Room k (A.deeper (envOfC q (defScope st) s.heap.objs.size f cdv)) → sp vs H Q E →
      ∃ t, PSs (cxOf (L2.CX P w) P w K mg base N q (defScope st) f cdv A outer s H E) (defBody st) t ∧ t { nx := fun _ H' => Q .non H', rt := Q } (start N vs) H) : MCl P w K mg base (L2.CX P w) (k + 1) x m sp := by
  obtain ⟨C, f, fd, hm, M, F⟩ := D.ex
  obtain ⟨oc, od, kV, doc, pm, an, cdv, ct, osl, e, lk, hcd⟩ := id F.ex
  refine ⟨C, f, fd, ps, hm, M, F.okX S len (fun cdv A outer s H vs Q E hr h => hbody f cdv A outer s H vs Q E hr h), F.binds hb, oc, od, osl, lk⟩
theorem pclX {x m q : Str} {st : Stmt} {N ps : List Str} {k : Nat} {sp : Sp} (D : Pt K mg x m q st)
    (hb : ∀ (kV doc pm : Value) (an : Option Addr) (cdv ct : Value) (us : List Value), us.length = ps.length → bindArgs (PySem.W.fnOf m q (defArgs st) (defBody st) (defScope st) .none kV doc pm an cdv ct) ⟨us, []⟩ = pure (ps.zip us))
    (S : FnScope N ps (defScope st)) (len : ∀ vs H Q E, sp vs H Q E → vs.length = ps.length)
    (hbody : ∀ (f : Addr) (cdv : Value) (A : Around) (outer : List Env) (s : Shared) (H : Hp) (vs : List V) (Q : VK) (E : XK), Room k (A.deeper (envOfC q (defScope st) s.heap.objs.size f cdv)) → sp vs H Q E →
      ∃ t, PSs (cxOf (L2.CX P w) P w K mg base N q (defScope st) f cdv A outer s H E) (defBody st) t ∧ t { nx := fun _ H' => Q .non H', rt := Q } (start N vs) H) : PCl P w K mg base (L2.CX P w) (k + 1) x m sp := by
  obtain ⟨C, p, g, fd, hm, M, F⟩ := D.ex
  exact ⟨C, p, g, fd, ps, hm, M, F.okX S len (fun cdv A outer s H vs Q E hr h => hbody g cdv A outer s H vs Q E hr h), F.binds hb⟩
end
section
variable {X : Cx} {CX : CXT} {k j : Nat} {x m : Str} {sp : Sp} {E : XK}
/-- a method called -/
def tMtO (mg : Str → Option Value) (x m : Str) (sp : Sp) (E : XK) (ta : TE) (t : TA) : TE := fun σ H Q => ta σ H fun v H1 => ∃ a fs, v = .ref a ∧ Ins mg x H1 a fs ∧ fs.lookup m = none ∧ t σ H1 fun vs H2 => sp (v :: vs) H2 Q E
theorem mtO_eq {mg : Str → Option Value} {C : Addr} (hm : mg x = some (.ref C)) (ta : TE) (t : TA) : tMtO mg x m sp E ta t = tMeth C m sp [] E ta t := by
  funext σ H Q
  unfold tMtO tMeth
  congr 1
  funext v H1
  simp only [ins_eq hm, List.append_nil]
  refine propext ⟨fun ⟨a, fs, h1, ⟨dx, h2⟩, h3⟩ => ⟨a, dx, fs, h1, h2, h3⟩, fun ⟨a, dx, fs, h1, h2, h3⟩ => ⟨a, fs, h1, ⟨dx, h2⟩, h3⟩⟩
theorem pe_mtO {pos apos : Pos} {e o : Expr} {es : List Expr} {ta : TE} {t : TA} {pl : Sem Bool} (O : Oc X.K X.mg x) (c : MCl X.prog X.w X.K X.mg X.base CX k x m sp) (ho : PE X o ta) (hr : Room j X.A) (hk : k ≤ j) (hx : Passes CX X E) (ha : PA X (e :: es) t)
    (h1 : starEach (e :: es) X.env = (false, eval e X.env) :: starEach es X.env := by rfl) (h2 : ((backTo pos (starEach es X.env)).any fun x => x.fst) = false := by rfl)
    (h3 : eval ((o.Attribute m apos).Call (e :: es) [] pos) X.env = (do
      let ov ← eval o X.env
      standAt apos.atName
      let y ← holding [ov] (getMethod ov m pl)
      match y with
        | (f, first) => callWith pos f first (backTo pos (starEach (e :: es) X.env)) (backToKw pos (keywordEach [] X.env))) := by rfl) : PE X ((o.Attribute m apos).Call (e :: es) [] pos) (tMtO X.mg x m sp E ta t) := by
  obtain ⟨C, f, fd, ps, hm, M, F, b, _⟩ := c.ex
  obtain ⟨D, hd, hc, _⟩ := O.ex
  rw [cls_eq hd hm] at hc
  rw [mtO_eq hm]
  exact pe_meth ho hc M F (hr.mono hk) b .nil hx ha h1 h2 h3
theorem pe_mtO0 {pos apos : Pos} {o : Expr} {ta : TE} {pl : Sem Bool} (O : Oc X.K X.mg x) (c : MCl X.prog X.w X.K X.mg X.base CX k x m sp) (ho : PE X o ta) (hr : Room j X.A) (hk : k ≤ j) (hx : Passes CX X E)
    (h3 : eval ((o.Attribute m apos).Call [] [] pos) X.env = (do
      let ov ← eval o X.env
      standAt apos.atName
      let y ← holding [ov] (getMethod ov m pl)
      match y with
        | (f, first) => callWith pos f first (backTo pos (starEach [] X.env)) (backToKw pos (keywordEach [] X.env))) := by rfl) : PE X ((o.Attribute m apos).Call [] [] pos) (tMtO X.mg x m sp E ta tNil) := by
  obtain ⟨C, f, fd, ps, hm, M, F, b, _⟩ := c.ex
  obtain ⟨D, hd, hc, _⟩ := O.ex
  rw [cls_eq hd hm] at hc
  rw [mtO_eq hm]
  exact pe_meth0 ho hc M F (hr.mono hk) b .nil hx h3
/-- a property read -/
def tPtO (mg : Str → Option Value) (x : Str) (sp : Sp) (E : XK) (ta : TE) : TE := fun σ H Q => ta σ H fun v H1 => ∃ a fs, v = .ref a ∧ Ins mg x H1 a fs ∧ sp [v] H1 Q E
theorem pe_ptO {pos : Pos} {e : Expr} {ta : TE} (O : Oc X.K X.mg x) (c : PCl X.prog X.w X.K X.mg X.base CX k x m sp) (he : PE X e ta) (hr : Room j X.A) (hk : k + 1 ≤ j) (hx : Passes CX X.nox E) (hab : attributeBase e m X.env (eval e X.env) = eval e X.env) : PE X (e.Attribute m pos) (tPtO X.mg x sp E ta) := by
  obtain ⟨C, p, g, fd, ps, hm, M, F, b⟩ := c.ex
  obtain ⟨D, hd, hc, _⟩ := O.ex
  rw [cls_eq hd hm] at hc
  have e1 : tPtO X.mg x sp E ta = tProp C sp [] E ta := by
    funext σ H Q
    unfold tPtO tProp
    congr 1
    funext v H1
    simp only [ins_eq hm]
    refine propext ⟨fun ⟨a, fs, h1, ⟨dx, h2⟩, h3⟩ => ⟨a, dx, fs, h1, h2, ?_⟩, fun ⟨a, dx, fs, h1, h2, h3⟩ => ⟨a, fs, h1, ⟨dx, h2⟩, ?_⟩⟩
    · rw [h1] at h3
      exact h3
    · rw [h1]
      exact h3
  rw [e1]
  exact pe_prop he hc M F (hr.mono hk) b .nil hx hab
/-- a new thing of an own class -/
def tMkO (mg : Str → Option Value) (x : Str) (sp : Sp) (E : XK) (t : TA) : TE := fun σ H Q => t σ H fun vs H1 => ∀ C, mg x = some (.ref C) → ∀ a dx, H1 a = none → H1 dx = none → dx ≠ a → sp (.ref a :: vs) (upd (upd H1 dx (.own a)) a (.ins C dx [])) (fun v H2 => v = .non ∧ Q (.ref a) H2) E
theorem pe_mkO {p pos : Pos} {e : Expr} {es : List Expr} {t : TA} (O : Oc X.K X.mg x) (c : MCl X.prog X.w X.K X.mg X.base CX k x "__init__" sp) (hr : Room j X.A) (hk : k + 1 ≤ j) (hg : Gl X x) (hx : Passes CX X E) (ha : PA X (e :: es) t)
    (h0 : (x == ("__debug__" : Str)) = false := by decide) (h1 : starEach (e :: es) X.env = (false, eval e X.env) :: starEach es X.env := by rfl) (h2 : ((backTo pos (starEach es X.env)).any fun x => x.fst) = false := by rfl) : PE X ((Expr.Name x p).Call (e :: es) [] pos) (tMkO X.mg x sp E t) := by
  obtain ⟨C, f, fd, ps, hm, M, F, b, _⟩ := c.ex
  obtain ⟨D, hd, hc, _, hmk, hkp⟩ := O.ex
  rw [cls_eq hd hm] at hmk hkp
  have e1 : tMkO X.mg x sp E t = tMake C sp [] E t := by
    funext σ H Q
    unfold tMkO tMake
    congr 1
    funext vs H1
    simp only [List.append_nil]
    refine propext ⟨fun g a dx => g C hm a dx, fun g D hD a dx => ?_⟩
    rw [cls_eq hD hm]
    exact g a dx
  rw [e1]
  exact pe_make ⟨hmk, M.at_, M.fn, hkp⟩ F (hr.mono hk) hg hm b .nil hx ha h0 h1 h2
/-- two things of an own class, joined by its operator -/
def rO2 (mg : Str → Option Value) (x : Str) (sp : Sp) (E : XK) : R2 := fun u v H Q => ∃ a fs b gs, u = .ref a ∧ v = .ref b ∧ Ins mg x H a fs ∧ Ins mg x H b gs ∧ sp [u, v] H Q E
theorem op_O2 {op : Operator} (O : Oc X.K X.mg x) (c : MCl X.prog X.w X.K X.mg X.base CX k x (dunder op.info.snd) sp) (hr : Room j X.A) (hk : k ≤ j) (hx : Passes CX X E) : OpR X (binaryOp op) (rO2 X.mg x sp E) := by
  obtain ⟨C, f, fd, ps, hm, M, F, b, _⟩ := c.ex
  obtain ⟨D, hd, hc, sf, _⟩ := O.ex
  rw [cls_eq hd hm] at sf
  intro pins s σ H u v a b' Q I rx ry h
  obtain ⟨p, fs, q, gs, h1, h2, h3, h4, h5⟩ := h
  rw [ins_eq hm] at h3 h4
  obtain ⟨dx, h3⟩ := h3
  obtain ⟨dy, h4⟩ := h4
  exact op_own2 sf M F (hr.mono hk) b hx pins s σ H u v a b' Q I rx ry ⟨p, dx, fs, q, dy, gs, h1, h2, h3, h4, h5⟩
/-- an item of a thing of an own class -/
def rOIx (mg : Str → Option Value) (x : Str) (sp : Sp) (E : XK) : R2 := fun u v H Q => ∃ a fs, u = .ref a ∧ Ins mg x H a fs ∧ sp [u, v] H Q E
theorem pe_ixO {a b : Expr} {ta tb : TE} {pos : Pos} (c : MCl X.prog X.w X.K X.mg X.base CX k x "__getitem__" sp) (hr : Room j X.A) (hk : k + 1 ≤ j) (hx : Passes CX X E)
    (ha : PE X a ta) (hbb : PE X b tb) (hsl : ∀ o i, subscripted b true o i = runValue (Code.builtin "lifetime.subscript" ⟨[o, i], []⟩) := by exact fun _ _ => rfl) (hlt : ∀ o r, letTemporaryGo a o r = pure () := by exact fun _ _ => rfl) : PE X (.Subscript a b pos) (tOp (rOIx X.mg x sp E) ta tb) := by
  obtain ⟨C, f, fd, ps, hm, M, F, b', oc, od, osl, lk⟩ := c.ex
  have e1 : rOIx X.mg x sp E = rOwnIx C sp E := by
    funext u v H Q
    unfold rOIx rOwnIx
    simp only [ins_eq hm]
    exact propext ⟨fun ⟨a, fs, h1, ⟨dx, h2⟩, h3⟩ => ⟨a, dx, fs, h1, h2, h3⟩, fun ⟨a, dx, fs, h1, h2, h3⟩ => ⟨a, fs, h1, ⟨dx, h2⟩, h3⟩⟩
  rw [e1]
  exact pe_ixOwn M lk F hr hk b' hx ha hbb hsl hlt
/-- the length of a thing of an own class -/
theorem call_lenO (c : MCl X.prog X.w X.K X.mg X.base CX k x "__len__" sp) (hr : Room j X.A) (hk : k + 1 ≤ j) (hx : Passes CX X E) : CallR X (.builtin "len") (fun xs H Q => ∃ a fs, xs = [.ref a] ∧ Ins X.mg x H a fs ∧ sp xs H (fun v H' => ∃ n : Nat, v = .int n ∧ n < 2 ^ 63 ∧ Q (.int n) H') E) := by
  obtain ⟨C, f, fd, ps, hm, M, F, b, _⟩ := c.ex
  intro pins s σ H xs us Q I rxs h
  obtain ⟨a, fs, h1, h2, h3⟩ := h
  rw [ins_eq hm] at h2
  obtain ⟨dx, h2⟩ := h2
  exact call_ownLen M F hr hk b hx pins s σ H xs us Q I rxs ⟨a, dx, fs, h1, h2, h3⟩
end
end XB
set_option Elab.async false
set_option linter.all false
set_option maxRecDepth 100000
set_option maxHeartbeats 4000000
/-! t[::-1] of a tuple -/
namespace HT
open PySem PySem.Spec PyProof.Rows
section
variable {prog : Program} {w : World} {A : Around} {E : Value → Shared → Prop} {s : Shared}
theorem adjust_rev (n : Nat) : Builtin.Slice.sliceAdjust none none (-1) (n : Int) = ((n : Int) - 1, -1) := by
  unfold Builtin.Slice.sliceAdjust
  rfl
theorem places_rev (n : Nat) : Builtin.Slice.slicePlaces ((n : Int) - 1) (-1) (-1) = n := by
  unfold Builtin.Slice.slicePlaces
  have h1 : ¬ ((-1 : Int) > 0) := by decide
  simp only [h1, if_false]
  rw [show (- -1 : Int) = 1 from rfl, Int.ediv_one]
  split <;> omega
theorem sliceApplied_rev {sl : Addr} {n : Nat} {u : Tok} {Q : Int × Int × Nat → Shared → Prop} (hs : s.heap.IsSliceOf sl .none .none (.int (-1) u))
    (h : Q ((n : Int) - 1, -1, n) s) : wpAny (model prog w) A (Builtin.Slice.sliceApplied (.ref sl) (pure (n : Int))) Q E s := by
  obtain ⟨os, hos, hcs, hds⟩ := id hs
  unfold Builtin.Slice.sliceApplied Builtin.Slice.sliceFields
  refine wpAny_bind (wpAny_bind (wpAny_field hos hds (x := .none) rfl (wpAny_bind (wpAny_field hos hds (x := .none) rfl (wpAny_bind (wpAny_field hos hds (x := .int (-1) u) rfl (wpAny_pure ?_)))))))
  refine wpAny_bind (slicePart_int ?_)
  show wpAny _ _ (if ((-1 : Int) == 0) = true then _ else _) _ _ s
  rw [if_neg (by decide)]
  refine wpAny_bind (slicePart_none (wpAny_bind (slicePart_none (wpAny_bind (wpAny_pure ?_)))))
  show wpAny _ _ (match Builtin.Slice.sliceAdjust none none (-1) (n : Int) with | (lo, hi) => pure (lo, (-1 : Int), Builtin.Slice.slicePlaces lo hi (-1))) _ _ s
  rw [adjust_rev n]
  show wpAny _ _ (pure ((n : Int) - 1, (-1 : Int), Builtin.Slice.slicePlaces ((n : Int) - 1) (-1) (-1))) _ _ s
  rw [places_rev]
  exact wpAny_pure h
theorem pick_rev (xs : Array Value) : ((List.range xs.size).filterMap fun (m : Nat) => xs[(((xs.size : Int) - 1) + (m : Int) * -1).toNat]?).toArray = xs.toList.reverse.toArray := by
  have e : (fun (m : Nat) => xs[(((xs.size : Int) - 1) + (m : Int) * -1).toNat]?) = (fun k => xs[k]?) ∘ fun m => xs.size - 1 - m := by
    funext m
    have : (((xs.size : Int) - 1) + (m : Int) * -1).toNat = xs.size - 1 - m := by omega
    rw [this]
    rfl
  rw [e, ← List.filterMap_map, PySem.W.krv_range, List.filterMap_reverse, PySem.W.krv_all]
theorem getItem_tuple_rev {t sl : Addr} {items : Array Value} {u : Tok} {Q : Value → Shared → Prop} (ht : IsTup s.heap t items) (hs : s.heap.IsSliceOf sl .none .none (.int (-1) u))
    (h : Q (.ref s.heap.objs.size) { s with heap := s.heap.push { cls := .type "tuple", data := .seq items.toList.reverse.toArray } })
    (hsz : items.size ≤ sizeLine) : wpAny (model prog w) A (getItem (.ref t) (.ref sl)) Q E s := by
  have htake : sizeOk (.seq items.toList.reverse.toArray) := by
    show items.toList.reverse.toArray.size ≤ sizeLine
    rw [List.size_toArray, List.length_reverse, Array.length_toList]
    exact hsz
  obtain ⟨os, hos, hcs, hds⟩ := id hs
  have hTs : s.TypeIs (.ref sl) "slice" := ⟨os, hos, hcs⟩
  unfold getItem
  try with_reducible refine wpAny_holding ?_
  first | refine wpAny_bind (wpAny_pure ?_) | skip
  refine wpAny_bind (wpAny_sequenceKey ht.typeIs (by decide) ?_)
  refine wpAny_bind (wpAny_callSpecial?_slot (name := Str.ofString "__getitem__") ht.typeIs PyProof.Rows.slot_tuple_getitem
    (wpAny_call_entry PyProof.Rows.slot_tuple_getitem ht.typeIs entry_tuple_getitem ?_ (args_tuple_getitem _ _)))
  show wpAny _ _ (Builtin.Tuple.tupleItemsOf (.ref t) >>= _) _ _ s
  refine wpAny_bind (tupleItemsOf_ ht ?_)
  refine wpAny_bind (wpAny_typeOf hTs ?_)
  rw [if_pos (by decide)]
  refine wpAny_bind (sliceApplied_rev hs ?_)
  have hno : ¬ ((((items.size : Int) - 1) == 0 && (-1 : Int) == 1 && items.size == items.size) = true) := by
    intro q
    rw [Bool.and_eq_true, Bool.and_eq_true] at q
    exact absurd q.1.2 (by decide)
  show wpAny _ _ (if ((((items.size : Int) - 1) == 0 && (-1 : Int) == 1 && items.size == items.size) = true) then _ else _) _ _ s
  rw [if_neg hno, pick_rev]
  first
    | exact wpAny_bind (m := Builtin.Tuple.tupleExact _) (wpAny_newObj_type (wpAny_pure ⟨_, rfl, wpAny_pure h⟩) htake)
    | exact wpAny_bind (m := Builtin.Tuple.tupleExact _) (wpAny_newObj_type (wpAny_bind (wpAny_pure (wpAny_pure ⟨_, rfl, wpAny_pure h⟩))) htake)
    | exact wpAny_bind (wpAny_bind (m := Builtin.Tuple.tupleExact _) (wpAny_newObj_type (wpAny_pure (wpAny_pure ⟨_, rfl, wpAny_pure h⟩)) htake))
    | exact wpAny_bind (wpAny_bind (m := Builtin.Tuple.tupleExact _) (wpAny_newObj_type (wpAny_pure ⟨_, rfl, wpAny_pure h⟩) htake))
end
end HT
namespace XB
open PySem PySem.Spec PyProof.Rows L2
section
variable {X : Cx}
def tRevT (K : PySem.W.Frag) (te : TE) : TE := fun σ H Q => te σ H fun x H1 => ∃ a xs, x = .ref a ∧ SqT K H1 a xs ∧ ∀ p, H1 p = none → Q (.ref p) (upd H1 p (.tup xs.reverse))
theorem pe_revT {e : Expr} {te : TE} {k : Nat} {p1 p2 p3 pos : Pos} (he : PE X e te) : PE X (.Subscript e (.Slice none none (some (.UnaryOp .USub (.Constant (.int 1) k p1) p2)) p3) pos) (tRevT X.K te) := by
  refine ⟨fun pins s σ H Q I h => ?_⟩
  refine Subscript_ (thn (he.run pins s σ H _ I h) fun v s1 ⟨x, H1, I1, r1, q1⟩ => ?_)
  obtain ⟨a, xs, ex, hx, q⟩ := q1
  subst ex
  cases r1
  have hst : PO X (some (.UnaryOp .USub (.Constant (.int 1) k p1) p2)) (tPart (tUn (rU fun i => .int (-i)) (tC (.int 1)))) := po_some (pe_un un_neg pe_int)
  refine wpAny_Slice (thn (po_none.run pins s1 σ H1 (fun o H2 => o = none ∧ H2 = H1) I1 ⟨rfl, rfl⟩) fun vl s2 ⟨l, H2, I2, pl, el, e2⟩ => ?_)
  subst el e2
  refine thn (po_none.run pins s2 σ H2 (fun o H3 => o = none ∧ H3 = H2) I2 ⟨rfl, rfl⟩) fun vu s3 ⟨u, H3, I3, pu, eu, e3⟩ => ?_
  subst eu e3
  refine thn (hst.run pins s3 σ H3 (fun o H4 => o = some (-1) ∧ H4 = H3) I3 ⟨1, rfl, -1, rfl, rfl, rfl⟩) fun vs s4 ⟨o, H4, I4, ps, eo, e4⟩ => ?_
  subst eo e4
  cases pl
  cases pu
  cases ps with
  | int i tk =>
    have I5 : Inv X pins σ H4 { s4 with heap := s4.heap.push { cls := .type "slice", data := .fields #[.none, .none, .int (-1) tk] } } := I4.kept (t' := s4.toks) fun b ob q => Heap.get?_push_of_some _ q
    obtain ⟨its, r, ht, hz⟩ := I5.tuple hx
    have hlen := r.length
    show wpAny (model X.prog X.w) X.A (subscriptTail e (.Slice none none (some (.UnaryOp .USub (.Constant (.int 1) k p1) p2)) p3) (.ref a) (.ref s4.heap.objs.size)) (EP X pins σ Q) X.xe { s4 with heap := s4.heap.push { cls := .type "slice", data := .fields #[.none, .none, .int (-1) tk] } }
    refine tail_any (ops := [.ref a, .ref s4.heap.objs.size]) ht.typeIs PyProof.Rows.slot_tuple_getitem.lookup ?_ (by with_unfolding_all rfl)
    refine HT.getItem_tuple_rev ht (Heap.IsSliceOf.new _ .none .none (.int (-1) tk)) ?_ (by rw [List.size_toArray]; omega)
    refine ⟨.ref _, _, I5.laid (t' := s4.toks) (o := .tup xs.reverse) (fun b ob q => Heap.get?_push_of_some _ q) (Nat.le_refl _) ?_, rfl, q _ (I5.hok.fresh (Nat.le_refl _))⟩
    exact ⟨by rw [List.length_reverse]; exact hz, _, r.reverse, ⟨_, Heap.get?_push_size _ rfl, rfl, _, rfl⟩⟩
end
end XB
set_option Elab.async false
set_option linter.all false
set_option maxRecDepth 100000
set_option maxHeartbeats 4000000
/-! tuple * int, the empty tuple too -/
namespace XB
open PySem PySem.Spec PyProof.Rows L2
theorem tuple_mul0 (l : Addr) (n : Nat) (dd : Option Addr) (sl : Array (Option Value)) (x : Int) (u : Tok) (c0 : (decide (x < -(2 ^ 63)) || decide (x ≥ 2 ^ 63)) = false) :
    Meets (Builtin.«tuple.__mul__» ⟨[.ref l, .int x u], []⟩) (fun _ R s => s.heap.get? l = some { cls := .type "tuple", dict := dd, data := .seq #[] n, slots := sl } ∧ R (.ok (.ret (Value.ref l))) s) :=
  .of_wp fun prog w A R s h => by
    obtain ⟨hp, g, d, tk, os⟩ := s
    obtain ⟨hl, h⟩ := h
    have f1 := AutoSeq1.idx_int
    wp_walk using wpAny_loadPart' hl
    repeat (first
      | (refine wpAny_ite_false (decide_eq_false (by rw [c0]; exact Bool.false_ne_true)) ?_; wp_walk using wpAny_loadPart' hl))
    exact ⟨_, rfl, h⟩
def rMulT (K : PySem.W.Frag) : R2 := fun x y H Q => ∃ l k xs, x = .ref l ∧ y = .int k ∧ SqT K H l xs ∧ 2 ≤ k ∧ k ≤ 1000 ∧ xs.length ≤ 1000 ∧ ∀ H' p, Same H H' → SqT K H' p (List.replicate k.toNat xs).flatten → Q (.ref p) H'
theorem op_mulT {X : Cx} {K : PySem.W.Frag} (hk : X.K = K) : OpR X (binaryOp .Mult) (rMulT K) := by
  subst hk
  intro pins s σ H x y v u Q I rx ry h
  obtain ⟨l, k, xs, rfl, rfl, hT, h1, h2, hz, q⟩ := h
  by_cases hne : xs = []
  · subst hne
    have hT' := hT
    cases rx
    obtain ⟨t, rfl⟩ := ry
    obtain ⟨its, r, ⟨⟨cls, dd, data, sl⟩, ho, hc, n, hd⟩, hs⟩ := I.tuple hT
    simp only at hc hd
    subst hc hd
    have hn : its = [] := List.eq_nil_of_length_eq_zero r.length.symm
    subst hn
    have c0 : (decide (k < -(2 ^ 63)) || decide (k ≥ 2 ^ 63)) = false := by
      rw [decide_eq_false (by omega), decide_eq_false (by omega)] <;> rfl
    refine wpAny_binaryOp_repeat_ref (T := "tuple") (U := "int") (by decide) ⟨_, ho, rfl⟩ (fun s' => typeIs_int s' k t) noFill_tuple_mul F.fills_int_mul F.slot_int_rmul repeat_tuple F.slot_int_index.lookup
      (call_meets F.slot_int_rmul (typeIs_int s k t) F.entry_int_rmul (F.args_int_rmul_2 _ _) (int_rmul_tuple k t l [].toArray n dd sl)
        ⟨ho, rfl, ⟨_, ho, rfl⟩, call_meets F.slot_tuple_mul ⟨_, ho, rfl⟩ F.entry_tuple_mul (F.args_tuple_mul_2 _ _) (tuple_mul0 l n dd sl k t c0) ⟨ho, ?_⟩⟩)
    refine ⟨.ref l, H, I, rfl, q H l (Same.refl _) ?_⟩
    have e : (List.replicate k.toNat ([] : List V)).flatten = [] := by
      rw [List.flatten_replicate_nil]
    rw [e]
    exact hT'
  · exact op_repT pins s σ H _ _ v u Q I rx ry ⟨l, k, xs, rfl, rfl, hT, hne, h1, h2, hz, fun p hp => q _ p (same_upd hp) (SqT.of upd_same)⟩
end XB
set_option Elab.async false
set_option linter.all false
set_option maxRecDepth 100000
set_option maxHeartbeats 4000000
/-! the head of a law whose promise holds where no repr runs around -/
namespace XB
open PySem PySem.Spec PyProof.Rows L2
section
variable {P : Program} {w : World} {K : PySem.W.Frag} {mg mb : Str → Option Value} {k : Nat} {fa a : Addr} {fd : FuncData} {x : Str} {sp : Sp} {st : Shared} {vs : List Value} {ns : List Int}
def scriptO (vs : List Value) : Obj := { cls := .type "list", data := .seq vs.toArray }
theorem end_g (kin : K.In st.heap) (gl : st.heap.Ns mainGlobals mg) (bl : st.heap.Ns builtinsNs mb) (bb : ∀ y : Str, y ≠ "__name__" → mb y = bootBuiltins y) (nl : st.heap.NoLimit) (ge : st.gens = #[])
    (at_ : st.heap.get? a = some (scriptO vs)) (whl : IntsAre vs ns) (short : ns.length ≤ sizeLine) (room : Room k callerA)
    (prom : ∀ base : Heap, K.In base → base.Ns mainGlobals mg → FnG P w K mg base CX0 k fa fd [x] sp) (bnd : ∀ (s : Shared) (u : Value), BindsTo s fd ⟨[u], []⟩ [(x, u)])
    (holds : ∀ H : Hp, SqL K H a (ns.map V.int) → sp [.ref a] H (fun v _ => v = .bl true) fun _ _ _ => False) :
    codeAny (model P w) callerA (.call (.ref fa) ⟨[.ref a], []⟩) (fun r t => r = .ok (.ret (.bool true)) ∧ OldK st.heap t.heap ∧ t.os = st.os ∧ AllBare t.gens) st := by
  have hv := vals_ints whl
  obtain ⟨G, hG⟩ : ∃ G : Hp, ∀ b, G b = if b = a ∧ (K.lookup a).isNone = true then some (.frz (scriptO vs) (.lst (ns.map V.int))) else none := ⟨fun b => if b = a ∧ (K.lookup a).isNone = true then _ else none, fun _ => rfl⟩
  have only : ∀ b u, G b = some u → b = a ∧ K.lookup a = none ∧ u = .frz (scriptO vs) (.lst (ns.map V.int)) := fun b u q => by
    rw [hG] at q
    by_cases c : b = a ∧ (K.lookup a).isNone = true
    · rw [if_pos c] at q
      exact ⟨c.1, by simpa using c.2, (Option.some.inj q).symm⟩
    · rw [if_neg c] at q
      cases q
  have row : SqL K G a (ns.map V.int) := by
    cases q : K.lookup a with
    | none => exact .inl (.inr ⟨scriptO vs, by rw [hG, if_pos ⟨rfl, by rw [q]; rfl⟩]⟩)
    | some o =>
      have q2 := kin a o q
      rw [at_] at q2
      have q3 : o = scriptO vs := (Option.some.inj q2).symm
      subst q3
      exact .inr ⟨_, vs.toArray, _, q, rfl, rfl, rfl, by rw [List.size_toArray, whl.length]; exact short, by simpa using hv⟩
  have sound : HOk P w G st.heap := fun b u q => by
    obtain ⟨rfl, _, rfl⟩ := only b u q
    exact ⟨at_, by rw [List.length_map]; exact short, vs, 0, hv, at_⟩
  have stays : ∀ {b : Addr} {o : Obj}, st.heap.get? b = some o → (b = a → o ≠ scriptO vs ∨ ∃ u, K.lookup a = some u) → (hidT st.heap G).get? b = some o := fun {b o} q c => by
    refine hidT_get q ?_
    cases g : G b with
    | none => rfl
    | some u =>
      obtain ⟨e1, e2, _⟩ := only b u g
      rcases c e1 with z | ⟨u', z⟩
      · rw [e1, at_] at q
        exact absurd (Option.some.inj q).symm z
      · rw [e2] at z
        cases z
  have names : ∀ {b : Addr} {f : Str → Option Value}, st.heap.Ns b f → (hidT st.heap G).Ns b f := fun {b f} h => by
    obtain ⟨o, es, ep, q, d, r⟩ := h
    refine ⟨o, es, ep, stays q fun _ => .inl fun z => ?_, d, r⟩
    rw [z] at d
    have d : Data.seq vs.toArray _ = Data.dict es ep := d
    cases d
  have kin' : K.In (hidT st.heap G) := fun b o q => stays (kin b o q) fun e => .inr ⟨o, by rw [← e]; exact q⟩
  have md : Mod K mg (hidT st.heap G) := ⟨kin', names gl, ⟨mb, names bl, bb⟩, by obtain ⟨mc, n1, n2⟩ := nl; exact ⟨mc, names n1, n2⟩⟩
  have none_in : ∀ {b : Addr}, b ∉ ([] : List Addr) := fun {b} z => by cases z
  have e0 : Env0 P w K mg (hidT st.heap G) callerA [] st G := { frames := rfl, mod := md, bs := fun _ _ q => of_hidT q, bsz := Nat.le_of_eq (hidT_size _ _), funs := trivial, frf := fun b z => absurd (show b ∈ ([] : List Addr) from z) none_in, hok := sound, bare := .of_eq ge }
  have ran := (prom _ kin' (names gl)).goes (A := callerA) (outer := []) (Q := fun v _ => v = .bl true) (E := fun _ _ _ => False) (args := ⟨[.ref a], []⟩) (us := [.ref a]) (vs := [.ref a]) rfl room e0 (bnd st (.ref a)) (.cons (show Value.ref a = Value.ref a from rfl) .nil) (holds G row)
  refine codeAny_mono ran ?_
  intro r t q
  match r, q with
  | .ok (.ret u), q =>
    obtain ⟨v, G', e1, e2, un, ok', rv, ev⟩ := q
    have ev : v = .bl true := ev
    subst ev
    have eu : u = Value.bool true := rv
    rw [eu]
    refine ⟨rfl, OldK.of_keep fun b o hb => ?_, e1, e2⟩
    cases g : G b with
    | none => exact un.keep b o hb g (fun z => absurd (show b ∈ ([] : List Addr) from z) none_in) none_in
    | some y =>
      obtain ⟨_, _, rfl⟩ := only b y g
      have c1 := (sound b _ g).1
      have c2 := (ok' b _ (un.frzs b _ _ g)).1
      rw [hb] at c1
      rw [c2, ← c1]
  | .ok .next, q => exact False.elim q
  | .ok .brk, q => exact False.elim q
  | .ok .cont, q => exact False.elim q
  | .error _, q => exact False.elim q
theorem walk_g {l : PySem.W.OpenLaw} {n k : Nat} {q : Program} {loose : List Str} {XP : (Str → Option Value) → Heap → Prop} {YP : World → Heap → Prop} {d : DefRec} {K : Params → PySem.W.Frag} {sp : PySem.W.Frag → Sp} {x : Str}
    (most : l.most = some n) (fits : n ≤ sizeLine) (plain : d.params.defaults = []) (room : Room k callerA) (inn : ∀ (w : World) (h : Heap), YP w h → (K w.params).In h)
    (prom : ∀ (w : World) (mg : Str → Option Value) (fa : Addr) (h : Heap), (K w.params).In h → h.Ns mainGlobals mg → mg d.name = some (.ref fa) →
      ∃ fd : FuncData, (∀ (s : Shared) (u : Value), BindsTo s fd ⟨[u], []⟩ [(x, u)]) ∧ ∀ base : Heap, (K w.params).In base → base.Ns mainGlobals mg → FnG l.prog w (K w.params) mg base CX0 k fa fd [x] (sp (K w.params)))
    (holds : ∀ (K : PySem.W.Frag) (H : Hp) (a : Addr) (ns : List Int), ns.length ≤ n → SqL K H a (ns.map V.int) → sp K [.ref a] H (fun v _ => v = .bl true) fun _ _ _ => False) : PySem.W.WalkO q loose XP YP l.row.toRowW d [] (fun f vs => PySem.call f vs) := by
  refine Att.attach_call most plain fun w s0 st mg mb fa o pm cd doc a vs ns gg y ho hd hcd hmg hobj hints hlen hgen => ?_
  have kin := inn w _ y
  obtain ⟨fd, b, pr⟩ := prom w mg fa _ kin gg.T.g hmg
  exact end_g kin gg.T.g gg.T.b gg.T.builtins gg.T.nolimit hgen hobj hints (Nat.le_trans hlen fits) room pr b fun H s => holds _ H a ns hlen s
/-- the same, with what the head tells of the globals beside the written part -/
theorem walk_gX {TX : (Str → Option Value) → Prop} {l : PySem.W.OpenLaw} {n k : Nat} {q : Program} {loose : List Str} {XP : (Str → Option Value) → Heap → Prop} {YP : World → Heap → Prop} {d : DefRec} {K : Params → PySem.W.Frag} {sp : PySem.W.Frag → Sp} {x : Str}
    (most : l.most = some n) (fits : n ≤ sizeLine) (plain : d.params.defaults = []) (room : Room k callerA) (told : ∀ (mg : Str → Option Value) (h : Heap), XP mg h → TX mg) (inn : ∀ (w : World) (h : Heap), YP w h → (K w.params).In h)
    (prom : ∀ (w : World) (mg : Str → Option Value) (fa : Addr) (h : Heap), (K w.params).In h → h.Ns mainGlobals mg → mg d.name = some (.ref fa) → TX mg →
      ∃ fd : FuncData, (∀ (s : Shared) (u : Value), BindsTo s fd ⟨[u], []⟩ [(x, u)]) ∧ ∀ base : Heap, (K w.params).In base → base.Ns mainGlobals mg → FnG l.prog w (K w.params) mg base CX0 k fa fd [x] (sp (K w.params)))
    (holds : ∀ (K : PySem.W.Frag) (H : Hp) (a : Addr) (ns : List Int), ns.length ≤ n → SqL K H a (ns.map V.int) → sp K [.ref a] H (fun v _ => v = .bl true) fun _ _ _ => False) : PySem.W.WalkO q loose XP YP l.row.toRowW d [] (fun f vs => PySem.call f vs) := by
  refine Att.attach_call most plain fun w s0 st mg mb fa o pm cd doc a vs ns gg y ho hd hcd hmg hobj hints hlen hgen => ?_
  have kin := inn w _ y
  obtain ⟨fd, b, pr⟩ := prom w mg fa _ kin gg.T.g hmg (told _ _ gg.X)
  exact end_g kin gg.T.g gg.T.b gg.T.builtins gg.T.nolimit hgen hobj hints (Nat.le_trans hlen fits) room pr b fun H s => holds _ H a ns hlen s
end
end XB
set_option Elab.async false
set_option linter.all false
set_option maxRecDepth 100000
set_option maxHeartbeats 4000000
/-! the head of a law whose defs make lambdas: what their code objects keep of them is told, too -/
namespace XB
open PySem PySem.Spec PyProof.Rows L2
/-- the code objects of some defs of the module, each with its table -/
def tabsOf (K : PySem.W.Frag) (xs : List Str) : List (Addr × Addr) := xs.filterMap (PySem.W.tabIn K)
section
variable {P : Program} {w : World} {K : PySem.W.Frag} {mg mb : Str → Option Value} {k : Nat} {fa a : Addr} {fd : FuncData} {x : Str} {sp : Sp} {st : Shared} {vs : List Value} {ns : List Int}
theorem end_gT {ts : List (Addr × Addr)} (kin : K.In st.heap) (gl : st.heap.Ns mainGlobals mg) (bl : st.heap.Ns builtinsNs mb) (bb : ∀ y : Str, y ≠ "__name__" → mb y = bootBuiltins y) (nl : st.heap.NoLimit) (ge : st.gens = #[])
    (empty : ∀ t ∈ ts, st.heap.get? t.2 = some (PySem.W.tabObj #[])) (out : ∀ t ∈ ts, K.lookup t.2 = none) (heads : ∀ t ∈ ts, PySem.W.CodeHd st.heap t.1 t.2)
    (bm : ∃ (b : Addr) (o : Obj), mg "__builtins__" = some (.ref b) ∧ b ≠ builtinsNs ∧ st.heap.get? b = some o ∧ o.cls = .type "module" ∧ o.dict = some builtinsNs ∧ o.data = .plain)
    (at_ : st.heap.get? a = some (scriptO vs)) (whl : IntsAre vs ns) (short : ns.length ≤ sizeLine) (room : Room k callerA)
    (prom : ∀ base : Heap, K.In base → base.Ns mainGlobals mg → (∀ t ∈ ts, LamX.TabB base mg t.1 t.2) → FnG P w K mg base CX0 k fa fd [x] sp) (bnd : ∀ (s : Shared) (u : Value), BindsTo s fd ⟨[u], []⟩ [(x, u)])
    (holds : ∀ H : Hp, (∀ t ∈ ts, H t.2 = some (.tbl #[])) → SqL K H a (ns.map V.int) → sp [.ref a] H (fun v _ => v = .bl true) fun _ _ _ => False) :
    codeAny (model P w) callerA (.call (.ref fa) ⟨[.ref a], []⟩) (fun r t => r = .ok (.ret (.bool true)) ∧ OldK st.heap t.heap ∧ t.os = st.os ∧ AllBare t.gens) st := by
  have hv := vals_ints whl
  have notT : ∀ t ∈ ts, t.2 ≠ a := fun t ht z => by
    have q := empty t ht
    rw [z, at_] at q
    have q2 : (scriptO vs).data = (PySem.W.tabObj #[]).data := congrArg Obj.data (Option.some.inj q)
    have q3 : Data.seq vs.toArray _ = Data.fields #[] := q2
    cases q3
  obtain ⟨G, hG⟩ : ∃ G : Hp, ∀ b, G b = if b = a ∧ (K.lookup a).isNone = true then some (.frz (scriptO vs) (.lst (ns.map V.int))) else if (ts.any fun t => t.2 == b) = true then some (.tbl #[]) else none := ⟨fun b => if b = a ∧ (K.lookup a).isNone = true then _ else if (ts.any fun t => t.2 == b) = true then _ else none, fun _ => rfl⟩
  have only : ∀ b u, G b = some u → (b = a ∧ K.lookup a = none ∧ u = .frz (scriptO vs) (.lst (ns.map V.int))) ∨ ((∃ t ∈ ts, t.2 = b) ∧ u = .tbl #[]) := fun b u q => by
    rw [hG] at q
    by_cases c : b = a ∧ (K.lookup a).isNone = true
    · rw [if_pos c] at q
      exact .inl ⟨c.1, by simpa using c.2, (Option.some.inj q).symm⟩
    · rw [if_neg c] at q
      by_cases d : (ts.any fun t => t.2 == b) = true
      · rw [if_pos d] at q
        obtain ⟨t, ht, e⟩ := List.any_eq_true.mp d
        exact .inr ⟨⟨t, ht, eq_of_beq e⟩, (Option.some.inj q).symm⟩
      · rw [if_neg d] at q
        cases q
  have tbls : ∀ t ∈ ts, G t.2 = some (.tbl #[]) := fun t ht => by
    have here : (ts.any fun u => u.2 == t.2) = true := List.any_eq_true.mpr ⟨t, ht, beq_self_eq_true _⟩
    rw [hG, if_neg fun z => notT t ht z.1, if_pos here]
  have row : SqL K G a (ns.map V.int) := by
    cases q : K.lookup a with
    | none => exact .inl (.inr ⟨scriptO vs, by rw [hG, if_pos ⟨rfl, by rw [q]; rfl⟩]⟩)
    | some o =>
      have q2 := kin a o q
      rw [at_] at q2
      have q3 : o = scriptO vs := (Option.some.inj q2).symm
      subst q3
      exact .inr ⟨_, vs.toArray, _, q, rfl, rfl, rfl, by rw [List.size_toArray, whl.length]; exact short, by simpa using hv⟩
  have sound : HOk P w G st.heap := fun b u q => by
    rcases only b u q with ⟨rfl, _, rfl⟩ | ⟨⟨t, ht, rfl⟩, rfl⟩
    · exact ⟨at_, by rw [List.length_map]; exact short, vs, 0, hv, at_⟩
    · exact empty t ht
  have stays : ∀ {b : Addr} {o : Obj}, st.heap.get? b = some o → (b = a → o ≠ scriptO vs ∨ ∃ u, K.lookup a = some u) → ((∃ t ∈ ts, t.2 = b) → o ≠ PySem.W.tabObj #[]) → (hidT st.heap G).get? b = some o := fun {b o} q c d => by
    refine hidT_get q ?_
    cases g : G b with
    | none => rfl
    | some u =>
      rcases only b u g with ⟨e1, e2, _⟩ | ⟨⟨t, ht, e1⟩, _⟩
      · rcases c e1 with z | ⟨u', z⟩
        · rw [e1, at_] at q
          exact absurd (Option.some.inj q).symm z
        · rw [e2] at z
          cases z
      · have q2 := empty t ht
        rw [e1, q] at q2
        exact absurd (Option.some.inj q2) (d ⟨t, ht, e1⟩)
  have plain : ∀ {b : Addr} {o : Obj}, st.heap.get? b = some o → (∀ l n, o.data ≠ .seq l n) → o.data ≠ .fields #[] → (hidT st.heap G).get? b = some o := fun {b o} q c d => stays q (fun _ => .inl fun z => by subst z; exact c _ _ rfl) fun _ z => by subst z; exact d rfl
  have names : ∀ {b : Addr} {f : Str → Option Value}, st.heap.Ns b f → (hidT st.heap G).Ns b f := fun {b f} h => by
    obtain ⟨o, es, ep, q, d, r⟩ := h
    refine ⟨o, es, ep, plain q (fun l n z => ?_) (fun z => ?_), d, r⟩ <;> (rw [d] at z; cases z)
  have kin' : K.In (hidT st.heap G) := fun b o q => stays (kin b o q) (fun e => .inr ⟨o, by rw [← e]; exact q⟩) fun ⟨t, ht, e⟩ _ => by
    have n := out t ht
    rw [e, q] at n
    cases n
  have md : Mod K mg (hidT st.heap G) := ⟨kin', names gl, ⟨mb, names bl, bb⟩, by obtain ⟨mc, n1, n2⟩ := nl; exact ⟨mc, names n1, n2⟩⟩
  have heads' : ∀ t ∈ ts, LamX.TabB (hidT st.heap G) mg t.1 t.2 := fun t ht => by
    refine ⟨?_, ?_, fun z => ?_⟩
    · obtain ⟨co, cv, f1, f2, f3, f4, f5, f6, f7, g0, g1, g2, g3, g4, g5, g6, g7, g8, g9⟩ := heads t ht
      refine ⟨co, cv, f1, f2, f3, f4, f5, f6, f7, plain g0 (fun l n z => ?_) (fun z => ?_), g1, g2, g3, g4, g5, g6, g7, g8, g9⟩
      · rw [g2] at z
        cases z
      · rw [g2] at z
        cases z
        simp at g3
    · obtain ⟨b, o, b1, b2, b3, b4, b5, b6⟩ := bm
      refine ⟨b, o, b1, b2, fun z => ?_, fun z => ?_, plain b3 (fun l n z => ?_) (fun z => ?_), b4, b5, b6⟩
      · obtain ⟨o2, es, ep, q, d, _⟩ := gl
        rw [z, q] at b3
        cases b3
        rw [d] at b6
        cases b6
      · have q := empty t ht
        rw [← z, b3] at q
        cases q
        cases b6
      · rw [b6] at z
        cases z
      · rw [b6] at z
        cases z
    · obtain ⟨o2, es, ep, q, d, _⟩ := gl
      have q2 := empty t ht
      rw [← z, q] at q2
      cases q2
      cases d
  have none_in : ∀ {b : Addr}, b ∉ ([] : List Addr) := fun {b} z => by cases z
  have e0 : Env0 P w K mg (hidT st.heap G) callerA [] st G := { frames := rfl, mod := md, bs := fun _ _ q => of_hidT q, bsz := Nat.le_of_eq (hidT_size _ _), funs := trivial, frf := fun b z => absurd (show b ∈ ([] : List Addr) from z) none_in, hok := sound, bare := .of_eq ge }
  have ran := (prom _ kin' (names gl) heads').goes (A := callerA) (outer := []) (Q := fun v _ => v = .bl true) (E := fun _ _ _ => False) (args := ⟨[.ref a], []⟩) (us := [.ref a]) (vs := [.ref a]) rfl room e0 (bnd st (.ref a)) (.cons (show Value.ref a = Value.ref a from rfl) .nil) (holds G tbls row)
  refine codeAny_mono ran ?_
  intro r t q
  match r, q with
  | .ok (.ret u), q =>
    obtain ⟨v, G', e1, e2, un, ok', rv, ev⟩ := q
    have ev : v = .bl true := ev
    subst ev
    have eu : u = Value.bool true := rv
    rw [eu]
    have kept : ∀ b o, (∀ y ∈ ts, y.2 ≠ b) → st.heap.get? b = some o → t.heap.get? b = some o := fun b o nb hb => by
      cases g : G b with
      | none => exact un.keep b o hb g (fun z => absurd (show b ∈ ([] : List Addr) from z) none_in) none_in
      | some y =>
        rcases only b y g with ⟨_, _, rfl⟩ | ⟨⟨y2, hy, e⟩, _⟩
        · have c1 := (sound b _ g).1
          have c2 := (ok' b _ (un.frzs b _ _ g)).1
          rw [hb] at c1
          rw [c2, ← c1]
        · exact absurd e (nb y2 hy)
    have grew : ∀ y ∈ ts, ∃ more : Array Value, t.heap.get? y.2 = some (PySem.W.tabObj more) := fun y hy => by
      obtain ⟨more, z⟩ := un.tbls y.2 #[] (tbls y hy)
      exact ⟨_, ok' y.2 _ z⟩
    refine ⟨rfl, ⟨fun b o hb => ?_, fun b o hb => ?_⟩, e1, e2⟩
    · rcases Classical.em (∃ y ∈ ts, y.2 = b) with ⟨y, hy, rfl⟩ | h
      · obtain ⟨more, hm⟩ := grew y hy
        have q := empty y hy
        rw [q] at hb
        cases hb
        exact .inr (.inl ⟨((heads y hy).tab q).isCodeTable, rfl, #[], more, rfl, by rw [Array.empty_append]; exact hm⟩)
      · exact .inl (kept b o (fun y hy e => h ⟨y, hy, e⟩) hb)
    · rcases Classical.em (∃ y ∈ ts, y.2 = b) with ⟨y, hy, rfl⟩ | h
      · obtain ⟨more, hm⟩ := grew y hy
        exact ⟨_, hm⟩
      · exact ⟨o, kept b o (fun y hy e => h ⟨y, hy, e⟩) hb⟩
  | .ok .next, q => exact False.elim q
  | .ok .brk, q => exact False.elim q
  | .ok .cont, q => exact False.elim q
  | .error _, q => exact False.elim q
/-- the walk to the law, with the tables of the defs that make lambdas -/
theorem walk_gT {TX : (Str → Option Value) → Prop} {l : PySem.W.OpenLaw} {n k : Nat} {q : Program} {loose : List Str} {XP : (Str → Option Value) → Heap → Prop} {YP : World → Heap → Prop} {d : DefRec} {K : Params → PySem.W.Frag} {sp : PySem.W.Frag → Sp} {x : Str} {xs : List Str}
    (most : l.most = some n) (fits : n ≤ sizeLine) (plain : d.params.defaults = []) (room : Room k callerA) (told : ∀ (mg : Str → Option Value) (h : Heap), XP mg h → TX mg) (inn : ∀ (w : World) (h : Heap), YP w h → (K w.params).In h)
    (recs : ∀ y ∈ xs, ∃ e, (recsOf q).find? (fun e => e.name == y) = some e) (noT : ∀ w : World, PySem.W.noTabs (K w.params) = true)
    (prom : ∀ (w : World) (mg : Str → Option Value) (fa : Addr) (h : Heap), (K w.params).In h → h.Ns mainGlobals mg → mg d.name = some (.ref fa) → TX mg →
      ∃ fd : FuncData, (∀ (s : Shared) (u : Value), BindsTo s fd ⟨[u], []⟩ [(x, u)]) ∧ ∀ base : Heap, (K w.params).In base → base.Ns mainGlobals mg → (∀ t ∈ tabsOf (K w.params) xs, LamX.TabB base mg t.1 t.2) → FnG l.prog w (K w.params) mg base CX0 k fa fd [x] (sp (K w.params)))
    (holds : ∀ (K : PySem.W.Frag) (H : Hp) (a : Addr) (ns : List Int), ns.length ≤ n → (∀ t ∈ tabsOf K xs, H t.2 = some (.tbl #[])) → SqL K H a (ns.map V.int) → sp K [.ref a] H (fun v _ => v = .bl true) fun _ _ _ => False) : PySem.W.WalkO q loose XP YP l.row.toRowW d [] (fun f vs => PySem.call f vs) := by
  refine Att.attach_call most plain fun w s0 st mg mb fa o pm cd doc a vs ns gg y ho hd hcd hmg hobj hints hlen hgen => ?_
  have kin := inn w _ y
  obtain ⟨fd, b, pr⟩ := prom w mg fa _ kin gg.T.g hmg (told _ _ gg.X)
  have all : ∀ t ∈ tabsOf (K w.params) xs, PySem.W.CodeHd st.heap t.1 t.2 ∧ st.heap.get? t.2 = some (PySem.W.tabObj #[]) := fun t ht => by
    obtain ⟨y, hy, e⟩ := List.mem_filterMap.mp ht
    obtain ⟨r, hr⟩ := recs y hy
    exact PySem.W.tab_of gg.T kin hr e
  refine end_gT kin gg.T.g gg.T.b gg.T.builtins gg.T.nolimit hgen (fun t ht => (all t ht).2) (fun t ht => ?_) (fun t ht => (all t ht).1) gg.T.bmain hobj hints (Nat.le_trans hlen fits) room pr b fun H hT s => holds _ H a ns hlen hT s
  cases e : (K w.params).lookup t.2 with
  | none => rfl
  | some o =>
    have k1 := kin _ o e
    rw [(all t ht).2] at k1
    cases k1
    have k2 := List.all_eq_true.mp (noT w) _ (PySem.W.mem_of_lookupK e)
    cases k2
end
end XB
set_option Elab.async false
set_option linter.all false
set_option maxRecDepth 100000
set_option maxHeartbeats 4000000
/-! defs that make lambdas: their code objects are known; a tuple of one thing many times over -/
namespace XB
open PySem PySem.Spec PyProof.Rows L2
/-- the code object of a def that makes lambdas, and its table -/
structure CodeT (K : PySem.W.Frag) (mg : Str → Option Value) (base : Heap) (x : Str) (c tab : Addr) : Prop where
  code : ∀ (f : Addr) (o : Obj) (fd : FuncData), mg x = some (.ref f) → K.lookup f = some o → o.data = .func fd → fd.code = .ref c
  tb : LamX.TabB base mg c tab
section
variable {P : Program} {w : World} {K : PySem.W.Frag} {mg : Str → Option Value} {base : Heap}
theorem clC {x : Str} {st : Stmt} {N ps : List Str} {k : Nat} {sp : Sp} {c tab : Addr} (D : Dn K mg x st) (C : CodeT K mg base x c tab)
    (hb : ∀ (kV doc pm : Value) (an : Option Addr) (cdv ct : Value) (us : List Value), us.length = ps.length → bindArgs (PySem.W.fnOf x x (defArgs st) (defBody st) (defScope st) .none kV doc pm an cdv ct) ⟨us, []⟩ = pure (ps.zip us))
    (S : FnScope N ps (defScope st)) (len : ∀ vs H Q E, sp vs H Q E → vs.length = ps.length)
    (body : ∀ (f : Addr) (A : Around) (outer : List Env) (s : Shared) (H : Hp) (vs : List V) (Q : VK) (E : XK), Room k (A.deeper (envOfC x (defScope st) s.heap.objs.size f (.ref c))) → sp vs H Q E →
      ∃ t, PSs (cxOf CX0 P w K mg base N x (defScope st) f (.ref c) A outer s H E).nox (defBody st) t ∧ t { nx := fun _ H' => Q .non H', rt := Q } (start N vs) H) : Cl P w K mg base CX0 (k + 1) x sp := by
  obtain ⟨f, fd, F, hm⟩ := D.ex
  obtain ⟨oc, od, kV, doc, pm, an, cdv, ct, osl, rfl, lk, hcd⟩ := id F.ex
  obtain rfl : cdv = .ref c := C.code f _ _ hm lk rfl
  refine ⟨f, _, ps, fn_of lk hcd S len fun A outer s H vs Q E hr h => ?_, hm, F.kp, F.binds hb⟩
  obtain ⟨t, ht, q⟩ := body f A outer s H vs Q E hr h
  exact ⟨t, ht.nox, q⟩
theorem fgC {x : Str} {st : Stmt} {N ps : List Str} {k : Nat} {sp : Sp} {fl c tab : Addr} {fd : FuncData} (F : Fun K x x st fl fd) (hm : mg x = some (.ref fl)) (C : CodeT K mg base x c tab) (S : FnScope N ps (defScope st)) (len : ∀ vs H Q E, sp vs H Q E → vs.length = ps.length)
    (body : ∀ (f : Addr) (A : Around) (outer : List Env) (s : Shared) (H : Hp) (vs : List V) (Q : VK) (E : XK), (A.deeper (envOfC x (defScope st) s.heap.objs.size f (.ref c))).guards = some [] → Room k (A.deeper (envOfC x (defScope st) s.heap.objs.size f (.ref c))) → sp vs H Q E →
      ∃ t, PSs (cxOf CX0 P w K mg base N x (defScope st) f (.ref c) A outer s H E).nox (defBody st) t ∧ t { nx := fun _ H' => Q .non H', rt := Q } (start N vs) H) : FnG P w K mg base CX0 (k + 1) fl fd ps sp := by
  obtain ⟨oc, od, kV, doc, pm, an, cdv, ct, osl, rfl, lk, hcd⟩ := id F.ex
  obtain rfl : cdv = .ref c := C.code fl _ _ hm lk rfl
  refine fng_of lk hcd S len fun A outer s H vs Q E hg hr h => ?_
  obtain ⟨t, ht, q⟩ := body fl A outer s H vs Q E hg hr h
  exact ⟨t, ht.nox, q⟩
theorem codeT_mk {h : Heap} {x : Str} {c tab : Addr} (X : K.In h) (G : h.Ns mainGlobals mg) (ht : PySem.W.tabIn K x = some (c, tab)) (tb : LamX.TabB base mg c tab) : CodeT K mg base x c tab :=
  ⟨fun f o fd hm ho hd => PySem.W.law_code X G ht hm (X f o ho) hd, tb⟩
end
/-- a tuple of one thing, many times over -/
def rMulM (K : PySem.W.Frag) : R2 := fun x y H Q => ∃ l k z, x = .ref l ∧ y = .int k ∧ SqT K H l [z] ∧ 2 ≤ k ∧ k ≤ 100000 ∧ ∀ H' p, Same H H' → SqT K H' p (List.replicate k.toNat z) → Q (.ref p) H'
theorem rep_flat1 {α : Type} (z : α) : ∀ n : Nat, (List.replicate n [z]).flatten = List.replicate n z := fun n => by
  induction n with
  | zero => rfl
  | succ n ih => rw [List.replicate_succ, List.flatten_cons, ih, List.replicate_succ]; rfl
theorem op_mulM {X : Cx} {K : PySem.W.Frag} (hk : X.K = K) : OpR X (binaryOp .Mult) (rMulM K) := by
  subst hk
  intro pins s σ H x y v u Q I rx ry h
  obtain ⟨l, k, z, rfl, rfl, hT, k2, kM, q⟩ := h
  cases rx
  obtain ⟨tk, rfl⟩ := ry
  obtain ⟨its, rel, ⟨⟨oc, od, dat, slo⟩, hob, ecl, nn, eda⟩, hsz⟩ := I.tuple hT
  simp only at ecl eda
  subst ecl eda
  obtain ⟨a, rfl⟩ : ∃ a, its = [a] := by
    cases rel with
    | cons _ r2 => cases r2; exact ⟨_, rfl⟩
  have big : (decide (k < -(2 ^ 63)) || decide (k ≥ 2 ^ 63)) = false := by
    rw [Bool.or_eq_false_iff]
    exact ⟨decide_eq_false (by omega), decide_eq_false (by omega)⟩
  have one : (([a].toArray.isEmpty) || k == 1) = false := by
    rw [Bool.or_eq_false_iff]
    exact ⟨rfl, beq_eq_false_iff_ne.mpr (by omega)⟩
  have nil : (decide (k ≤ 0) || ([a].toArray.isEmpty)) = false := by
    rw [Bool.or_eq_false_iff]
    exact ⟨decide_eq_false (by omega), rfl⟩
  have sz1 : (([a].toArray.size : Nat) : Int) * k = k := by
    show (((1 : Nat) : Int)) * k = k
    omega
  have many : Builtin.Tuple.tupleTooMany ((([a].toArray.size : Nat) : Int) * k) = false := by
    rw [sz1]
    unfold Builtin.Tuple.tupleTooMany
    rw [sizeLine_eq]
    exact decide_eq_false (by omega)
  have laid : (List.replicate k.toNat a).length ≤ sizeLine := by
    rw [List.length_replicate, sizeLine_eq]
    omega
  have e0 : (List.foldl (fun b c => b ++ c) #[] (List.replicate k.toNat [a].toArray)) = (List.replicate k.toNat a).toArray := by
    rw [size_rep, rep_flat1]
  refine wpAny_binaryOp_repeat_ref (T := "tuple") (U := "int") (by decide) ⟨_, hob, rfl⟩ (fun s' => typeIs_int s' k tk) noFill_tuple_mul F.fills_int_mul F.slot_int_rmul repeat_tuple F.slot_int_index.lookup ?_
  refine call_meets F.slot_int_rmul (typeIs_int s k tk) F.entry_int_rmul (F.args_int_rmul_2 _ _) (int_rmul_tuple k tk l [a].toArray nn od slo) ⟨hob, rfl, ⟨_, hob, rfl⟩, ?_⟩
  refine call_meets F.slot_tuple_mul ⟨_, hob, rfl⟩ F.entry_tuple_mul (F.args_tuple_mul_2 _ _) (tuple_mulW l [a].toArray nn od slo k tk big one nil (by rw [sz1]; omega) many (by rw [e0, List.size_toArray]; exact laid)) ⟨hob, ?_⟩
  rw [e0]
  have rel1 : Vals (List.replicate k.toNat z) (List.replicate k.toNat a) := by
    have r := rel.rep k.toNat
    rw [rep_flat1, rep_flat1] at r
    exact r
  refine ⟨.ref s.heap.objs.size, _, I.laid (t' := s.toks) (o := .tup (List.replicate k.toNat z)) (fun b ob e => Heap.get?_push_of_some _ e) (Nat.le_refl _) ?_, rfl, q _ _ (same_upd (I.hok.fresh (Nat.le_refl _))) (SqT.of upd_same)⟩
  exact ⟨by rw [List.length_replicate, sizeLine_eq]; omega, _, rel1, IsTup.new _ _⟩
end XB
set_option Elab.async false
set_option linter.all false
set_option maxRecDepth 100000
set_option maxHeartbeats 4000000
/-! defs that make lambdas and call what wants the guards known (repr): clC and cg0 in one -/
namespace XB
open PySem PySem.Spec PyProof.Rows L2
section
variable {P : Program} {w : World} {K : PySem.W.Frag} {mg : Str → Option Value} {base : Heap}
theorem cgC {x : Str} {st : Stmt} {N ps : List Str} {k : Nat} {sp : Sp} {c tab : Addr} (D : Dn K mg x st) (C : CodeT K mg base x c tab)
    (hb : ∀ (kV doc pm : Value) (an : Option Addr) (cdv ct : Value) (us : List Value), us.length = ps.length → bindArgs (PySem.W.fnOf x x (defArgs st) (defBody st) (defScope st) .none kV doc pm an cdv ct) ⟨us, []⟩ = pure (ps.zip us))
    (S : FnScope N ps (defScope st)) (len : ∀ vs H Q E, sp vs H Q E → vs.length = ps.length)
    (body : ∀ (f : Addr) (A : Around) (outer : List Env) (s : Shared) (H : Hp) (vs : List V) (Q : VK) (E : XK), (A.deeper (envOfC x (defScope st) s.heap.objs.size f (.ref c))).guards = some [] → Room k (A.deeper (envOfC x (defScope st) s.heap.objs.size f (.ref c))) → sp vs H Q E →
      ∃ t, PSs (cxOf CX0 P w K mg base N x (defScope st) f (.ref c) A outer s H E).nox (defBody st) t ∧ t { nx := fun _ H' => Q .non H', rt := Q } (start N vs) H) : Cg P w K mg base CX0 (k + 1) x sp := by
  obtain ⟨f, fd, F, hm⟩ := D.ex
  exact ⟨f, fd, ps, fgC F hm C S len body, hm, F.kp, F.binds hb⟩
end
/-- two things of an own class, joined by the operator whose method has that name -/
theorem op_O2e {X : Cx} {CX : CXT} {k j : Nat} {x m : Str} {sp : Sp} {E : XK} (op : Operator) (he : dunder op.info.snd = m) (O : Oc X.K X.mg x) (c : MCl X.prog X.w X.K X.mg X.base CX k x m sp) (hr : Room j X.A) (hk : k ≤ j) (hx : Passes CX X E) : OpR X (binaryOp op) (rO2 X.mg x sp E) := by
  subst he
  exact op_O2 O c hr hk hx
/-- a method called: pe_meth or pe_meth0 told by names -/
theorem pe_mtOf {X : Cx} {CX : CXT} {k : Nat} {x m : Str} {sp : Sp} {E : XK} {e : Expr} {ta : TE} {t : TA} (O : Oc X.K X.mg x) (c : MCl X.prog X.w X.K X.mg X.base CX k x m sp)
    (h : ∀ (C f : Addr) (fd : FuncData) (ps : List Str), Cls X.K C → Meth X.K C m f → FnOk X.prog X.w X.K X.mg X.base CX k f fd ps sp → L2.Binds X.K fd ps [] → PE X e (tMeth C m sp [] E ta t)) : PE X e (tMtO X.mg x m sp E ta t) := by
  obtain ⟨C, f, fd, ps, hm, M, F, b, _⟩ := c.ex
  rw [mtO_eq hm]
  exact h C f fd ps (oc_cls O hm) M F b
/-! the same in a lambda's body: K and mg told apart (a reading with X.mg in it cannot be found there) -/
section
variable {X : Cx} {K : PySem.W.Frag} {mg : Str → Option Value} {CX : CXT} {k j : Nat} {x m : Str} {sp : Sp} {E : XK}
theorem op_O2k (hK : X.K = K) (hmg : X.mg = mg) (op : Operator) (he : dunder op.info.snd = m) (O : Oc K mg x) (c : MCl X.prog X.w K mg X.base CX k x m sp) (hr : Room j X.A) (hk : k ≤ j) (hx : Passes CX X E) : OpR X (binaryOp op) (rO2 mg x sp E) := by
  subst hK hmg
  exact op_O2e op he O c hr hk hx
theorem pe_mtOk {pos apos : Pos} {e o : Expr} {es : List Expr} {ta : TE} {t : TA} {pl : Sem Bool} (hK : X.K = K) (hmg : X.mg = mg) (O : Oc K mg x) (c : MCl X.prog X.w K mg X.base CX k x m sp) (ho : PE X o ta) (hr : Room j X.A) (hk : k ≤ j) (hx : Passes CX X E) (ha : PA X (e :: es) t)
    (h1 : starEach (e :: es) X.env = (false, eval e X.env) :: starEach es X.env := by rfl) (h2 : ((backTo pos (starEach es X.env)).any fun x => x.fst) = false := by rfl)
    (h3 : eval ((o.Attribute m apos).Call (e :: es) [] pos) X.env = (do
      let ov ← eval o X.env
      standAt apos.atName
      let y ← holding [ov] (getMethod ov m pl)
      match y with
        | (f, first) => callWith pos f first (backTo pos (starEach (e :: es) X.env)) (backToKw pos (keywordEach [] X.env))) := by rfl) : PE X ((o.Attribute m apos).Call (e :: es) [] pos) (tMtO mg x m sp E ta t) := by
  subst hK hmg
  exact pe_mtO O c ho hr hk hx ha h1 h2 h3
theorem pe_mtO0k {pos apos : Pos} {o : Expr} {ta : TE} {pl : Sem Bool} (hK : X.K = K) (hmg : X.mg = mg) (O : Oc K mg x) (c : MCl X.prog X.w K mg X.base CX k x m sp) (ho : PE X o ta) (hr : Room j X.A) (hk : k ≤ j) (hx : Passes CX X E)
    (h3 : eval ((o.Attribute m apos).Call [] [] pos) X.env = (do
      let ov ← eval o X.env
      standAt apos.atName
      let y ← holding [ov] (getMethod ov m pl)
      match y with
        | (f, first) => callWith pos f first (backTo pos (starEach [] X.env)) (backToKw pos (keywordEach [] X.env))) := by rfl) : PE X ((o.Attribute m apos).Call [] [] pos) (tMtO mg x m sp E ta tNil) := by
  subst hK hmg
  exact pe_mtO0 O c ho hr hk hx h3
theorem pe_ixOk {a b : Expr} {ta tb : TE} {pos : Pos} (hK : X.K = K) (hmg : X.mg = mg) (c : MCl X.prog X.w K mg X.base CX k x "__getitem__" sp) (hr : Room j X.A) (hk : k + 1 ≤ j) (hx : Passes CX X E)
    (ha : PE X a ta) (hbb : PE X b tb) (hsl : ∀ o i, subscripted b true o i = runValue (Code.builtin "lifetime.subscript" ⟨[o, i], []⟩) := by exact fun _ _ => rfl) (hlt : ∀ o r, letTemporaryGo a o r = pure () := by exact fun _ _ => rfl) : PE X (.Subscript a b pos) (tOp (rOIx mg x sp E) ta tb) := by
  subst hK hmg
  exact pe_ixO c hr hk hx ha hbb hsl hlt
theorem pe_mkOk {p pos : Pos} {e : Expr} {es : List Expr} {t : TA} (hK : X.K = K) (hmg : X.mg = mg) (O : Oc K mg x) (c : MCl X.prog X.w K mg X.base CX k x "__init__" sp) (hr : Room j X.A) (hk : k + 1 ≤ j) (hg : Gl X x) (hx : Passes CX X E) (ha : PA X (e :: es) t)
    (h0 : (x == ("__debug__" : Str)) = false := by decide) (h1 : starEach (e :: es) X.env = (false, eval e X.env) :: starEach es X.env := by rfl) (h2 : ((backTo pos (starEach es X.env)).any fun x => x.fst) = false := by rfl) : PE X ((Expr.Name x p).Call (e :: es) [] pos) (tMkO mg x sp E t) := by
  subst hK hmg
  exact pe_mkO O c hr hk hg hx ha h0 h1 h2
end
end XB
set_option Elab.async false
set_option linter.all false
set_option maxRecDepth 100000
set_option maxHeartbeats 4000000
/-! x in o, of an own class -/
namespace XB
open PySem PySem.Spec PyProof.Rows L2
def rOIn (mg : Str → Option Value) (x : Str) (sp : Sp) (E : XK) : R2 := fun u v H Q => ∃ a fs, v = .ref a ∧ Ins mg x H a fs ∧ sp [v, u] H (fun r H' => ∃ b, r = .bl b ∧ Q (.bl b) H') E
section
variable {X : Cx} {CX : CXT} {k j : Nat} {x m : Str} {sp : Sp} {E : XK}
theorem op_inO (c : MCl X.prog X.w X.K X.mg X.base CX k x "__contains__" sp) (hr : Room j X.A) (hk : k ≤ j) (hx : Passes CX X E) : OpR X (compareOp .In) (rOIn X.mg x sp E) := by
  obtain ⟨C, f, fd, ps, hm, M, F, b, _⟩ := c.ex
  intro pins s σ H u v a b' Q I rx ry h
  obtain ⟨p, fs, h1, h2, h3⟩ := h
  rw [ins_eq hm] at h2
  obtain ⟨dx, h2⟩ := h2
  subst h1
  obtain rfl : b' = .ref p := by first | exact ry | exact rx
  obtain ⟨ox, od, ia⟩ := ins_at I h2
  obtain ⟨n, fr⟩ := I.fr
  refine PySem.W.in_K fr I.mod.kin ia M.at_ M.fn (wpAny_mono (run_def F (hr.mono hk) b hx I (show Vals [V.ref p, u] [Value.ref p, a] from .cons rfl (.cons rx .nil)) h3) (fun u' s' h' => ?_) fun e s' he => he)
  obtain ⟨r, H', I', rr, t, rfl, q⟩ := h'
  obtain rfl : u' = .bool t := rr
  exact wpAny_pure ⟨.bl t, H', I', rfl, q⟩
theorem op_inOk {K : PySem.W.Frag} {mg : Str → Option Value} (hK : X.K = K) (hmg : X.mg = mg) (c : MCl X.prog X.w K mg X.base CX k x "__contains__" sp) (hr : Room j X.A) (hk : k ≤ j) (hx : Passes CX X E) : OpR X (compareOp .In) (rOIn mg x sp E) := by
  subst hK hmg
  exact op_inO c hr hk hx
end
end XB
set_option Elab.async false
set_option linter.all false
set_option maxRecDepth 100000
set_option maxHeartbeats 4000000
/-! o == y, o != y and ~o, of an own class -/
namespace XB
open PySem PySem.Spec PyProof.Rows L2
/-- a thing of that class, an int, a tuple -/
def RightEq (K : PySem.W.Frag) (mg : Str → Option Value) (x : Str) (H : Hp) (v : V) : Prop := (∃ b gs, v = .ref b ∧ Ins mg x H b gs) ∨ (∃ n, v = .int n) ∨ ∃ b xs, v = .ref b ∧ SqT K H b xs
def rOEq (K : PySem.W.Frag) (mg : Str → Option Value) (x : Str) (sp : Sp) (E : XK) : R2 := fun u v H Q => ∃ a fs, u = .ref a ∧ Ins mg x H a fs ∧ RightEq K mg x H v ∧ sp [u, v] H Q E
section
variable {X : Cx} {CX : CXT} {k j : Nat} {x m : Str} {sp : Sp} {E : XK}
theorem right_looks {M : Model} {pins : List (Addr × Obj)} {s : Shared} {σ : L2.St} {H : Hp} {C : Addr} {v : V} {b : Value} (hm : X.mg x = some (.ref C)) (I : Inv X pins σ H s) (r : RelV v b) (h : RightEq X.K X.mg x H v) : ∃ tb, PySem.W.Looks M s.heap (typeOf b) tb ∧ PySem.W.notFirst X.K C tb = true := by
  rcases h with ⟨p, gs, rfl, h⟩ | ⟨n, rfl⟩ | ⟨p, xs, rfl, h⟩
  · rw [ins_eq hm] at h
    obtain ⟨dx, h⟩ := h
    obtain rfl : b = .ref p := by first | exact r | exact r.symm
    obtain ⟨ox, od, ia⟩ := ins_at I h
    refine ⟨_, looks_ins ia, ?_⟩
    simp [PySem.W.notFirst]
  · obtain ⟨t, rfl⟩ := r
    refine ⟨.type "int", ?_, by rfl⟩
    exact PySem.W.Looks.of_pure rfl
  · obtain rfl : b = .ref p := by first | exact r | exact r.symm
    obtain ⟨its, rv, ⟨o, ho, hc, n, hd⟩, _⟩ := I.tuple h
    refine ⟨.type "tuple", ?_, by rfl⟩
    exact hc ▸ (PySem.W.Looks.ld ho).andThen .now
theorem op_eqO (c : MCl X.prog X.w X.K X.mg X.base CX k x "__eq__" sp) (hu : X.A.units < cLine) (hr : Room j X.A) (hk : k ≤ j) (hx : Passes CX X E) : OpR X (compareOp .Eq) (rOEq X.K X.mg x sp E) := by
  obtain ⟨C, f, fd, ps, hm, M, F, b, _⟩ := c.ex
  intro pins s σ H u v a b' Q I rx ry h
  obtain ⟨p, fs, h1, h2, h4, h3⟩ := h
  rw [ins_eq hm] at h2
  obtain ⟨dx, h2⟩ := h2
  subst h1
  obtain rfl : a = .ref p := by first | exact rx | exact ry
  obtain ⟨ox, od, ia⟩ := ins_at I h2
  obtain ⟨n, fr⟩ := I.fr
  obtain ⟨tb, lk, nf⟩ := right_looks (M := model X.prog X.w) hm I ry h4
  refine PySem.W.cmp_K (op := .Eq) hu fr I.mod.kin ia lk nf M.at_ M.fn (wpAny_mono (run_def F (hr.mono hk) b hx I (show Vals [V.ref p, v] [Value.ref p, b'] from .cons rfl (.cons ry .nil)) h3) (fun u' s' h' => cmpBack h') fun e s' he => he)
/-- ~o -/
def rOInv (mg : Str → Option Value) (x : Str) (sp : Sp) (E : XK) : V → Hp → VK → Prop := fun u H Q => ∃ a fs, u = .ref a ∧ Ins mg x H a fs ∧ sp [u] H Q E
theorem un_invO (c : MCl X.prog X.w X.K X.mg X.base CX k x "__invert__" sp) (hr : Room j X.A) (hk : k ≤ j) (hx : Passes CX X E) : UnR X (unaryOp .Invert) (rOInv X.mg x sp E) := by
  obtain ⟨C, f, fd, ps, hm, M, F, b, _⟩ := c.ex
  intro pins s σ H u a Q I rx h
  obtain ⟨p, fs, h1, h2, h3⟩ := h
  rw [ins_eq hm] at h2
  obtain ⟨dx, h2⟩ := h2
  subst h1
  obtain rfl : a = .ref p := by exact rx
  obtain ⟨ox, od, ia⟩ := ins_at I h2
  obtain ⟨n, fr⟩ := I.fr
  exact PySem.W.ksp_inv fr I.mod.kin ia M.at_ M.fn (run_def F (hr.mono hk) b hx I (show Vals [V.ref p] [Value.ref p] from .cons rfl .nil) h3)
end
end XB
namespace XB
open PySem PySem.Spec PyProof.Rows L2
theorem ne_bind (self : Value) : bindSpecial (.builtin "object.__ne__") self = pure (.builtin "object.__ne__", [self]) :=
  (Slot.of (T := "object") (name := "__ne__") (owner := "object") (n := "__ne__") (by rw [typeLookup_type, builtinLookup_eq_fast]; kernel_rfl) (by decide +kernel) (by decide +kernel) (by decide +kernel) (.inl (by decide +kernel)) (by rw [isSubtype_type]; kernel_rfl)).bind self
theorem ne_plain : plainId "object.__ne__" = true := by decide +kernel
section
variable {prog : Program} {w : World} {A : Around} {E : Value → Shared → Prop} {s : Shared} {K : PySem.W.Frag} {x C L f : Addr} {h₀ : Heap} {m : Str → Option Value} {ox : Obj} {od : Option Obj} {b tb : Value}
theorem ifBound_ne {M : Model} {args : List Value} {Q : Option Value → Shared → Prop} (X : K.In s.heap) (I : PySem.W.InstAt s.heap x ox C od) (hs : PySem.W.findIn K (.ref C) "__ne__" = some (some (.builtin "object.__ne__")))
    (h : wpAny M A (call (.builtin "object.__ne__") (.ref x :: args)) (fun v => Q (some v)) E s) : wpAny M A (callSpecialIfBound? (.ref x) "__ne__" args) Q E s := by
  have made : wpAny M A (call (.builtin "object.__ne__") ([.ref x] ++ args) >>= fun u => pure (some u)) Q E s := wpAny_bind (wpAny_mono h (fun u t q => wpAny_pure q) fun _ _ q => q)
  simp only [bindSpecialIfBound?, callSpecialIfBound?]
  refine wpAny_holding (wpAny_bind (wpAny_bind (wpAny_bind (I.type.here ((PySem.W.looks_findIn X hs).here (wpAny_bind (wpAny_askSetting (wpAny_ite ?_))))))))
  simp only [ne_bind]
  split <;> first | exact wpAny_bind (wpAny_pure (wpAny_pure made)) | exact wpAny_tryCatch (wpAny_bind (wpAny_pure (wpAny_pure made)))
theorem ne_check {M : Model} {rest : List Value} {Q : Unit → Shared → Prop} (X : K.In s.heap) (I : PySem.W.InstAt s.heap x ox C od) (ho : PySem.W.mroIn K C (.type "object") = some true) (ha : argsOk "object.__ne__" ⟨.ref x :: rest, []⟩) (hq : Q () s) :
    wpAny M A (checkBuiltinCall "object.__ne__" ⟨.ref x :: rest, []⟩) Q E s := by
  simp only [checkBuiltinCall, F.cmpSplit_ne, F.cmpKind_ne]
  refine wpAny_bind ?_
  unfold isInstance
  refine wpAny_bind (I.type.here ((PySem.W.looks_mroIn X ho).here ?_))
  rw [if_neg (show ¬ ((!true) = true) by decide)]
  cases hg : Manifest.signature? "object.__ne__" with
  | none => exact wpAny_pure hq
  | some g =>
    have ha2 : Bind.checkArgs "object.__ne__" g ⟨.ref x :: rest, []⟩ = pure () := by simpa only [argsOk, hg] using ha
    show wpAny M A (Bind.checkArgs "object.__ne__" g ⟨.ref x :: rest, []⟩) Q E s
    rw [ha2]
    exact wpAny_pure hq
theorem ne_entry {M : Model} (X : K.In s.heap) (I : PySem.W.InstAt s.heap x ox C od) (hs : PySem.W.findIn K (.ref C) "__eq__" = some (some (.ref f))) (hf : PySem.W.isFn K (.ref f) = true) (hu : A.units < cLine) {Q : Fin → Shared → Prop}
    (hcall : wpAny (model prog w) A (call (.ref f) [.ref x, b]) (fun v s' => ∃ c, v = .bool c ∧ Q (.done (.ret (.bool (!c)))) s') E s) : wpAny (model prog w) A (Builtin.«object.__ne__» ⟨[.ref x, b], []⟩) Q E s := by
  unfold Builtin.«object.__ne__»
  repeat (first
    | with_reducible refine wpAny_cRoomFor hu ?_
    | (refine wpAny_bind (m := callSpecialIfBound? (.ref x) (Str.ofString "__eq__") [b]) (PySem.W.ifBound_K X I hs hf (wpAny_mono hcall (fun r s' hr => by
          obtain ⟨c, rfl, q⟩ := hr
          repeat (first | exact q | exact wpAny_pure q | exact wpAny_truthy_bool q | (refine wpAny_bind (m := truthy (.bool _)) (wpAny_truthy_bool ?_)) | wp_step)) fun _ _ e => e)))
    | wp_step)
theorem try_ne (X : K.In s.heap) (I : PySem.W.InstAt s.heap x ox C od) (hs : PySem.W.findIn K (.ref C) "__eq__" = some (some (.ref f))) (hf : PySem.W.isFn K (.ref f) = true) (hn : PySem.W.findIn K (.ref C) "__ne__" = some (some (.builtin "object.__ne__"))) (ho : PySem.W.mroIn K C (.type "object") = some true) (hu : A.units + 1 < cLine) {Q : Value → Shared → Prop}
    (hcall : wpAny (model prog w) A.in1 (call (.ref f) [.ref x, b]) (fun v s' => ∃ c, v = .bool c ∧ Q (.bool (!c)) s') E s) : wpAny (model prog w) A (tryCompare (.ref x) "__ne__" b) (fun r s' => ∃ v, r = some v ∧ Q v s') E s := by
  unfold tryCompare
  refine wpAny_bind (ifBound_ne X I hn (wpAny_call (codeAny_call_builtin ne_plain F.cmpEntry_ne (ne_check X I ho (F.cmpArgs_ne _ _) (ne_entry (M := model prog w) (A := A.in1) X I hs hf hu (wpAny_mono hcall (fun v s' hv => ?_) fun _ _ e => e))))))
  obtain ⟨c, rfl, q⟩ := hv
  exact ⟨c, rfl, wpAny_pure ⟨_, rfl, q⟩⟩
theorem cmp_ne {h₀ : Heap} {m : Str → Option Value} {Q : Value → Shared → Prop} (hu : A.units + 1 < cLine) (fr : Fr h₀ L s.heap m) (X₀ : K.In h₀) (I : PySem.W.InstAt s.heap x ox C od) (lk : PySem.W.Looks (model prog w) s.heap (typeOf b) tb) (nf : PySem.W.notFirst K C tb = true)
    (hs : PySem.W.findIn K (.ref C) "__eq__" = some (some (.ref f))) (hf : PySem.W.isFn K (.ref f) = true) (hn : PySem.W.findIn K (.ref C) "__ne__" = some (some (.builtin "object.__ne__"))) (ho : PySem.W.mroIn K C (.type "object") = some true)
    (hcall : wpAny (model prog w) A.in1 (call (.ref f) [.ref x, b]) (fun v s' => ∃ c, v = .bool c ∧ Q (.bool (!c)) s') E s) : wpAny (model prog w) A (compareOp .NotEq (.ref x) b) Q E s := by
  have X := X₀.keeps fr.keep
  have one := try_ne (A := A) (E := E) (b := b) X I hs hf hn ho hu hcall
  show wpAny (model prog w) A (richCompare .NotEq (.ref x) b) Q E s
  unfold richCompare
  simp only [oneThing_ref]
  refine wpAny_holding (wpAny_bind (wpAny_cRoomFor (Nat.lt_of_succ_lt hu) (wpAny_bind (I.type.here (wpAny_bind (lk.here ?_))))))
  split
  · rename_i q
    have e : PySem.W.subIn K tb (.ref C) = some false := by
      rcases Bool.or_eq_true_iff.mp nf with z | z
      · rw [beq_iff_eq.mp z] at q
        simp at q
      · exact beq_iff_eq.mp z
    refine wpAny_bind ((PySem.W.looks_subIn X e).here ?_)
    rw [if_neg Bool.false_ne_true]
    refine wpAny_bind (wpAny_mono one (fun r s' ⟨v, e, q⟩ => ?_) fun _ _ e => e)
    subst e
    exact wpAny_pure q
  · refine wpAny_bind (wpAny_pure ?_)
    rw [if_neg Bool.false_ne_true]
    refine wpAny_bind (wpAny_mono one (fun r s' ⟨v, e, q⟩ => ?_) fun _ _ e => e)
    subst e
    exact wpAny_pure q
end
/-- != goes by == -/
def NeOf (K : PySem.W.Frag) (mg : Str → Option Value) (x : Str) : Prop := ∃ C, mg x = some (.ref C) ∧ PySem.W.findIn K (.ref C) "__ne__" = some (some (.builtin "object.__ne__"))
def rONe (K : PySem.W.Frag) (mg : Str → Option Value) (x : Str) (sp : Sp) (E : XK) : R2 := fun u v H Q => ∃ a fs, u = .ref a ∧ Ins mg x H a fs ∧ RightEq K mg x H v ∧ sp [u, v] H (fun r H' => ∃ c, r = .bl c ∧ Q (.bl (!c)) H') E
section
variable {X : Cx} {CX : CXT} {k j : Nat} {x : Str} {sp : Sp} {E : XK}
theorem op_neO (c : MCl X.prog X.w X.K X.mg X.base CX k x "__eq__" sp) (O : Oc X.K X.mg x) (N : NeOf X.K X.mg x) (hu : X.A.units + 1 < cLine) (hr : Room j X.A) (hk : k + 1 ≤ j) (hx : Passes CX X E) : OpR X (compareOp .NotEq) (rONe X.K X.mg x sp E) := by
  obtain ⟨C, f, fd, ps, hm, M, F, b, _⟩ := c.ex
  obtain ⟨D, hd, _, _, _, ho⟩ := O.isx
  obtain ⟨D2, hd2, hn⟩ := N
  rw [cls_eq hd hm] at ho
  rw [cls_eq hd2 hm] at hn
  intro pins s σ H u v a b' Q I rx ry h
  obtain ⟨p, fs, h1, h2, h4, h3⟩ := h
  rw [ins_eq hm] at h2
  obtain ⟨dx, h2⟩ := h2
  subst h1
  obtain rfl : a = .ref p := rx
  obtain ⟨ox, od, ia⟩ := ins_at I h2
  obtain ⟨n, fr⟩ := I.fr
  obtain ⟨tb, lk, nf⟩ := right_looks (M := model X.prog X.w) hm I ry h4
  refine cmp_ne hu fr I.mod.kin ia lk nf M.at_ M.fn hn ho (wpAny_mono (run_in1 F (hr.mono (by omega)) b hx I (show Vals [V.ref p, v] [Value.ref p, b'] from .cons rfl (.cons ry .nil)) (Room.in1 hr hk) h3) (fun u' s' h' => ?_) fun e s' he => he)
  obtain ⟨r, H', I', rr, t, rfl, q⟩ := h'
  obtain rfl : u' = .bool t := rr
  exact ⟨t, rfl, .bl (!t), H', I', rfl, q⟩
end
theorem ne_mk {K : PySem.W.Frag} {h : Heap} {mg : Str → Option Value} {x : Str} {C : Addr} (X : K.In h) (G : h.Ns mainGlobals mg) (a : PySem.W.nsIn K mainGlobals x = some (some (.ref C))) (b : PySem.W.findIn K (.ref C) "__ne__" = some (some (.builtin "object.__ne__"))) : NeOf K mg x := ⟨C, PySem.W.mg_of X G a, b⟩
end XB
set_option Elab.async false
set_option linter.all false
set_option maxRecDepth 100000
set_option maxHeartbeats 4000000
namespace XB
open PySem PySem.Spec PyProof.Rows L2
def topS (i : Nat) : Stmt := PySem.Challenge.pw_deedpiles_k90_whole_values.main.body.getD i (.Pass ⟨0, 0, 0, 0⟩)
abbrev s__wall : Stmt := topS 0
theorem sc__wall : FnScope ["k"] ["k"] (defScope s__wall) := ⟨rfl, rfl, rfl, by decide +kernel, rfl, by decide +kernel, by decide +kernel⟩
abbrev s_BadField___init__ : Stmt := inClass (topS 3) 0
theorem sc_BadField___init__ : FnScope ["self", "part"] ["self", "part"] (defScope s_BadField___init__) := ⟨rfl, rfl, rfl, by decide +kernel, rfl, by decide +kernel, by decide +kernel⟩
abbrev s_BadScript___init__ : Stmt := inClass (topS 4) 0
theorem sc_BadScript___init__ : FnScope ["self", "place"] ["self", "place"] (defScope s_BadScript___init__) := ⟨rfl, rfl, rfl, by decide +kernel, rfl, by decide +kernel, by decide +kernel⟩
abbrev s_BadNumber___init__ : Stmt := inClass (topS 5) 0
theorem sc_BadNumber___init__ : FnScope ["self", "value"] ["self", "value"] (defScope s_BadNumber___init__) := ⟨rfl, rfl, rfl, by decide +kernel, rfl, by decide +kernel, by decide +kernel⟩
abbrev s_Unlike___init__ : Stmt := inClass (topS 6) 0
theorem sc_Unlike___init__ : FnScope ["self", "value"] ["self", "value"] (defScope s_Unlike___init__) := ⟨rfl, rfl, rfl, by decide +kernel, rfl, by decide +kernel, by decide +kernel⟩
abbrev s_TooGreat___init__ : Stmt := inClass (topS 7) 0
theorem sc_TooGreat___init__ : FnScope ["self", "most"] ["self", "most"] (defScope s_TooGreat___init__) := ⟨rfl, rfl, rfl, by decide +kernel, rfl, by decide +kernel, by decide +kernel⟩
abbrev s_is_whole : Stmt := topS 9
theorem sc_is_whole : FnScope ["value"] ["value"] (defScope s_is_whole) := ⟨rfl, rfl, rfl, by decide +kernel, rfl, by decide +kernel, by decide +kernel⟩
abbrev s_is_pair : Stmt := topS 10
theorem sc_is_pair : FnScope ["value"] ["value"] (defScope s_is_pair) := ⟨rfl, rfl, rfl, by decide +kernel, rfl, by decide +kernel, by decide +kernel⟩
abbrev s_is_ascending : Stmt := topS 11
theorem sc_is_ascending : FnScope ["items", "one", "other"] ["items"] (defScope s_is_ascending) := ⟨rfl, rfl, rfl, by decide +kernel, rfl, by decide +kernel, by decide +kernel⟩
abbrev s_need_field : Stmt := topS 15
theorem sc_need_field : FnScope ["field", "names", "pairs"] ["field"] (defScope s_need_field) := ⟨rfl, rfl, rfl, by decide +kernel, rfl, by decide +kernel, by decide +kernel⟩
abbrev s_touch_table : Stmt := topS 16
theorem sc_touch_table : FnScope ["field", "names", "_", "name"] ["field"] (defScope s_touch_table) := ⟨rfl, rfl, rfl, by decide +kernel, rfl, by decide +kernel, by decide +kernel⟩
abbrev s_names_touching : Stmt := topS 17
theorem sc_names_touching : FnScope ["field", "name", "names", "pairs", "other"] ["field", "name"] (defScope s_names_touching) := ⟨rfl, rfl, rfl, by decide +kernel, rfl, by decide +kernel, by decide +kernel⟩
abbrev s_are_apart : Stmt := topS 18
theorem sc_are_apart : FnScope ["pairs", "one", "other"] ["pairs", "one", "other"] (defScope s_are_apart) := ⟨rfl, rfl, rfl, by decide +kernel, rfl, by decide +kernel, by decide +kernel⟩
abbrev s_are_names : Stmt := topS 19
theorem sc_are_names : FnScope ["value", "item"] ["value"] (defScope s_are_names) := ⟨rfl, rfl, rfl, by decide +kernel, rfl, by decide +kernel, by decide +kernel⟩
abbrev s_is_name : Stmt := topS 20
theorem sc_is_name : FnScope ["value", "letter"] ["value"] (defScope s_is_name) := ⟨rfl, rfl, rfl, by decide +kernel, rfl, by decide +kernel, by decide +kernel⟩
abbrev s_are_pairs : Stmt := topS 21
theorem sc_are_pairs : FnScope ["names", "value", "item"] ["names", "value"] (defScope s_are_pairs) := ⟨rfl, rfl, rfl, by decide +kernel, rfl, by decide +kernel, by decide +kernel⟩
abbrev s_is_pair_of : Stmt := topS 22
theorem sc_is_pair_of : FnScope ["names", "value", "one", "other"] ["names", "value"] (defScope s_is_pair_of) := ⟨rfl, rfl, rfl, by decide +kernel, rfl, by decide +kernel, by decide +kernel⟩
abbrev s_need_script : Stmt := topS 26
theorem sc_need_script : FnScope ["field", "deeds", "names", "_", "place", "item"] ["field", "deeds"] (defScope s_need_script) := ⟨rfl, rfl, rfl, by decide +kernel, rfl, by decide +kernel, by decide +kernel⟩
abbrev s_is_step : Stmt := topS 27
theorem sc_is_step : FnScope ["names", "value"] ["names", "value"] (defScope s_is_step) := ⟨rfl, rfl, rfl, by decide +kernel, rfl, by decide +kernel, by decide +kernel⟩
abbrev s_is_great_step : Stmt := topS 28
theorem sc_is_great_step : FnScope ["names", "value", "name", "times"] ["names", "value"] (defScope s_is_great_step) := ⟨rfl, rfl, rfl, by decide +kernel, rfl, by decide +kernel, by decide +kernel⟩
abbrev s_is_times : Stmt := topS 29
theorem sc_is_times : FnScope ["value"] ["value"] (defScope s_is_times) := ⟨rfl, rfl, rfl, by decide +kernel, rfl, by decide +kernel, by decide +kernel⟩
abbrev s_least_pile : Stmt := topS 30
theorem sc_least_pile : FnScope ["field", "deeds"] ["field", "deeds"] (defScope s_least_pile) := ⟨rfl, rfl, rfl, by decide +kernel, rfl, by decide +kernel, by decide +kernel⟩
abbrev s_piled : Stmt := topS 31
theorem sc_piled : FnScope ["touch", "steps", "pieces", "name", "times", "at"] ["touch", "steps"] (defScope s_piled) := ⟨rfl, rfl, rfl, by decide +kernel, rfl, by decide +kernel, by decide +kernel⟩
abbrev s_last_touched : Stmt := topS 32
theorem sc_last_touched : FnScope ["names", "pieces", "at"] ["names", "pieces"] (defScope s_last_touched) := ⟨rfl, rfl, rfl, by decide +kernel, rfl, by decide +kernel, by decide +kernel⟩
abbrev s_place_behind : Stmt := topS 33
theorem sc_place_behind : FnScope ["pieces", "at", "name", "place"] ["pieces", "at", "name"] (defScope s_place_behind) := ⟨rfl, rfl, rfl, by decide +kernel, rfl, by decide +kernel, by decide +kernel⟩
abbrev s_length_of : Stmt := topS 34
theorem sc_length_of : FnScope ["pieces", "_", "times"] ["pieces"] (defScope s_length_of) := ⟨rfl, rfl, rfl, by decide +kernel, rfl, by decide +kernel, by decide +kernel⟩
abbrev s_back : Stmt := topS 35
theorem sc_back : FnScope ["steps", "name", "times"] ["steps"] (defScope s_back) := ⟨rfl, rfl, rfl, by decide +kernel, rfl, by decide +kernel, by decide +kernel⟩
abbrev s_do_touch : Stmt := topS 36
theorem sc_do_touch : FnScope ["touch", "one", "other", "name", "_", "far"] ["touch", "one", "other"] (defScope s_do_touch) := ⟨rfl, rfl, rfl, by decide +kernel, rfl, by decide +kernel, by decide +kernel⟩
abbrev s_is_lower_of : Stmt := topS 38
theorem sc_is_lower_of : FnScope ["touch", "low", "high", "lacking"] ["touch", "low", "high"] (defScope s_is_lower_of) := ⟨rfl, rfl, rfl, by decide +kernel, rfl, by decide +kernel, by decide +kernel⟩
abbrev s_common_of : Stmt := topS 39
theorem sc_common_of : FnScope ["touch", "one", "other", "shared", "barred", "rest", "name", "times", "part", "above"] ["touch", "one", "other"] (defScope s_common_of) := ⟨rfl, rfl, rfl, by decide +kernel, rfl, by decide +kernel, by decide +kernel⟩
abbrev s_front_times : Stmt := topS 40
theorem sc_front_times : FnScope ["touch", "pieces", "name", "other", "times"] ["touch", "pieces", "name"] (defScope s_front_times) := ⟨rfl, rfl, rfl, by decide +kernel, rfl, by decide +kernel, by decide +kernel⟩
abbrev s_shared_times : Stmt := topS 41
theorem sc_shared_times : FnScope ["one", "other"] ["one", "other"] (defScope s_shared_times) := ⟨rfl, rfl, rfl, by decide +kernel, rfl, by decide +kernel, by decide +kernel⟩
abbrev s_over_both_of : Stmt := topS 42
theorem sc_over_both_of : FnScope ["touch", "one", "other", "low", "rest", "more"] ["touch", "one", "other"] (defScope s_over_both_of) := ⟨rfl, rfl, rfl, by decide +kernel, rfl, by decide +kernel, by decide +kernel⟩
abbrev s_leading : Stmt := topS 44
theorem sc_leading : FnScope ["touch", "one", "other"] ["touch", "one", "other"] (defScope s_leading) := ⟨rfl, rfl, rfl, by decide +kernel, rfl, by decide +kernel, by decide +kernel⟩
abbrev s_distance_of : Stmt := topS 45
theorem sc_distance_of : FnScope ["touch", "one", "other"] ["touch", "one", "other"] (defScope s_distance_of) := ⟨rfl, rfl, rfl, by decide +kernel, rfl, by decide +kernel, by decide +kernel⟩
abbrev s_middle_pile : Stmt := topS 46
theorem sc_middle_pile : FnScope ["touch", "one", "two", "three"] ["touch", "one", "two", "three"] (defScope s_middle_pile) := ⟨rfl, rfl, rfl, by decide +kernel, rfl, by decide +kernel, by decide +kernel⟩
abbrev s_Pieces___init__ : Stmt := inClass (topS 49) 0
theorem sc_Pieces___init__ : FnScope ["self", "made"] ["self", "made"] (defScope s_Pieces___init__) := ⟨rfl, rfl, rfl, by decide +kernel, rfl, by decide +kernel, by decide +kernel⟩
abbrev s_Pile___init__ : Stmt := inClass (topS 50) 0
theorem sc_Pile___init__ : FnScope ["self", "field", "deeds"] ["self", "field", "deeds"] (defScope s_Pile___init__) := ⟨rfl, rfl, rfl, by decide +kernel, rfl, by decide +kernel, by decide +kernel⟩
abbrev s_Pile_field : Stmt := inClass (topS 50) 1
theorem sc_Pile_field : FnScope ["self"] ["self"] (defScope s_Pile_field) := ⟨rfl, rfl, rfl, by decide +kernel, rfl, by decide +kernel, by decide +kernel⟩
abbrev s_Pile_steps : Stmt := inClass (topS 50) 2
theorem sc_Pile_steps : FnScope ["self"] ["self"] (defScope s_Pile_steps) := ⟨rfl, rfl, rfl, by decide +kernel, rfl, by decide +kernel, by decide +kernel⟩
abbrev s_Pile_length : Stmt := inClass (topS 50) 3
theorem sc_Pile_length : FnScope ["self"] ["self"] (defScope s_Pile_length) := ⟨rfl, rfl, rfl, by decide +kernel, rfl, by decide +kernel, by decide +kernel⟩
abbrev s_Pile___len__ : Stmt := inClass (topS 50) 4
theorem sc_Pile___len__ : FnScope ["self"] ["self"] (defScope s_Pile___len__) := ⟨rfl, rfl, rfl, by decide +kernel, rfl, by decide +kernel, by decide +kernel⟩
abbrev s_Pile___getitem__ : Stmt := inClass (topS 50) 5
theorem sc_Pile___getitem__ : FnScope ["self", "at"] ["self", "at"] (defScope s_Pile___getitem__) := ⟨rfl, rfl, rfl, by decide +kernel, rfl, by decide +kernel, by decide +kernel⟩
abbrev s_Pile___contains__ : Stmt := inClass (topS 50) 6
theorem sc_Pile___contains__ : FnScope ["self", "x", "name", "_"] ["self", "x"] (defScope s_Pile___contains__) := ⟨rfl, rfl, rfl, by decide +kernel, rfl, by decide +kernel, by decide +kernel⟩
abbrev s_Pile___iter__ : Stmt := inClass (topS 50) 7
theorem sc_Pile___iter__ : FnScope ["self"] ["self"] (defScope s_Pile___iter__) := ⟨rfl, rfl, rfl, by decide +kernel, rfl, by decide +kernel, by decide +kernel⟩
abbrev s_Pile___eq__ : Stmt := inClass (topS 50) 8
theorem sc_Pile___eq__ : FnScope ["self", "other"] ["self", "other"] (defScope s_Pile___eq__) := ⟨rfl, rfl, rfl, by decide +kernel, rfl, by decide +kernel, by decide +kernel⟩
abbrev s_Pile___mul__ : Stmt := inClass (topS 50) 9
theorem sc_Pile___mul__ : FnScope ["self", "other"] ["self", "other"] (defScope s_Pile___mul__) := ⟨rfl, rfl, rfl, by decide +kernel, rfl, by decide +kernel, by decide +kernel⟩
abbrev s_Pile___invert__ : Stmt := inClass (topS 50) 10
theorem sc_Pile___invert__ : FnScope ["self"] ["self"] (defScope s_Pile___invert__) := ⟨rfl, rfl, rfl, by decide +kernel, rfl, by decide +kernel, by decide +kernel⟩
abbrev s_Pile___and__ : Stmt := inClass (topS 50) 11
theorem sc_Pile___and__ : FnScope ["self", "other"] ["self", "other"] (defScope s_Pile___and__) := ⟨rfl, rfl, rfl, by decide +kernel, rfl, by decide +kernel, by decide +kernel⟩
abbrev s_Pile_many : Stmt := inClass (topS 50) 12
theorem sc_Pile_many : FnScope ["self", "times"] ["self", "times"] (defScope s_Pile_many) := ⟨rfl, rfl, rfl, by decide +kernel, rfl, by decide +kernel, by decide +kernel⟩
abbrev s_Pile_is_lower : Stmt := inClass (topS 50) 13
theorem sc_Pile_is_lower : FnScope ["self", "other"] ["self", "other"] (defScope s_Pile_is_lower) := ⟨rfl, rfl, rfl, by decide +kernel, rfl, by decide +kernel, by decide +kernel⟩
abbrev s_Pile_over_both : Stmt := inClass (topS 50) 14
theorem sc_Pile_over_both : FnScope ["self", "other", "pieces"] ["self", "other"] (defScope s_Pile_over_both) := ⟨rfl, rfl, rfl, by decide +kernel, rfl, by decide +kernel, by decide +kernel⟩
abbrev s_Pile_distance : Stmt := inClass (topS 50) 15
theorem sc_Pile_distance : FnScope ["self", "other"] ["self", "other"] (defScope s_Pile_distance) := ⟨rfl, rfl, rfl, by decide +kernel, rfl, by decide +kernel, by decide +kernel⟩
abbrev s_Pile_middle : Stmt := inClass (topS 50) 16
theorem sc_Pile_middle : FnScope ["self", "other", "third"] ["self", "other", "third"] (defScope s_Pile_middle) := ⟨rfl, rfl, rfl, by decide +kernel, rfl, by decide +kernel, by decide +kernel⟩
abbrev s_need_like : Stmt := topS 51
theorem sc_need_like : FnScope ["pile", "other"] ["pile", "other"] (defScope s_need_like) := ⟨rfl, rfl, rfl, by decide +kernel, rfl, by decide +kernel, by decide +kernel⟩
abbrev s_made_pile : Stmt := topS 52
theorem sc_made_pile : FnScope ["field", "pieces"] ["field", "pieces"] (defScope s_made_pile) := ⟨rfl, rfl, rfl, by decide +kernel, rfl, by decide +kernel, by decide +kernel⟩
abbrev s__law_mixed : Stmt := topS 54
theorem sc__law_mixed : FnScope ["cell", "n", "blend"] ["cell", "n"] (defScope s__law_mixed) := ⟨rfl, rfl, rfl, by decide +kernel, rfl, by decide +kernel, by decide +kernel⟩
abbrev s__law_folded : Stmt := topS 55
theorem sc__law_folded : FnScope ["script", "found", "n", "cell"] ["script"] (defScope s__law_folded) := ⟨rfl, rfl, rfl, by decide +kernel, rfl, by decide +kernel, by decide +kernel⟩
abbrev s__law_draw : Stmt := topS 56
theorem sc__law_draw : FnScope ["m", "limit", "n", "lot", "here", "cell"] ["m", "limit"] (defScope s__law_draw) := ⟨rfl, rfl, rfl, by decide +kernel, rfl, by decide +kernel, by decide +kernel⟩
abbrev s__law_begun : Stmt := topS 57
theorem sc__law_begun : FnScope ["script", "m", "cell"] ["script"] (defScope s__law_begun) := ⟨rfl, rfl, rfl, by decide +kernel, rfl, by decide +kernel, by decide +kernel⟩
abbrev s__law_like : Stmt := topS 58
theorem sc__law_like : FnScope ["answer", "due"] ["answer", "due"] (defScope s__law_like) := ⟨rfl, rfl, rfl, by decide +kernel, rfl, by decide +kernel, by decide +kernel⟩
abbrev s__law_field : Stmt := topS 59
theorem sc__law_field : FnScope ["m", "most", "names", "some", "k", "other", "pair"] ["m", "most"] (defScope s__law_field) := ⟨rfl, rfl, rfl, by decide +kernel, rfl, by decide +kernel, by decide +kernel⟩
abbrev s__law_steps : Stmt := topS 60
theorem sc__law_steps : FnScope ["m", "field", "most", "great", "found", "k", "times"] ["m", "field", "most", "great"] (defScope s__law_steps) := ⟨rfl, rfl, rfl, by decide +kernel, rfl, by decide +kernel, by decide +kernel⟩
abbrev s__law_apart : Stmt := topS 61
theorem sc__law_apart : FnScope ["field", "one", "other"] ["field", "one", "other"] (defScope s__law_apart) := ⟨rfl, rfl, rfl, by decide +kernel, rfl, by decide +kernel, by decide +kernel⟩
abbrev s__law_meet : Stmt := topS 62
theorem sc__law_meet : FnScope ["field", "steps", "k", "far"] ["field", "steps"] (defScope s__law_meet) := ⟨rfl, rfl, rfl, by decide +kernel, rfl, by decide +kernel, by decide +kernel⟩
abbrev s__law_pile : Stmt := topS 63
theorem sc__law_pile : FnScope ["field", "steps", "found", "pair", "name", "times"] ["field", "steps"] (defScope s__law_pile) := ⟨rfl, rfl, rfl, by decide +kernel, rfl, by decide +kernel, by decide +kernel⟩
abbrev s__law_firsts : Stmt := topS 64
theorem sc__law_firsts : FnScope ["field", "steps", "found", "k", "step"] ["field", "steps"] (defScope s__law_firsts) := ⟨rfl, rfl, rfl, by decide +kernel, rfl, by decide +kernel, by decide +kernel⟩
abbrev s__law_least : Stmt := topS 65
theorem sc__law_least : FnScope ["field", "steps", "left", "found", "k", "far"] ["field", "steps"] (defScope s__law_least) := ⟨rfl, rfl, rfl, by decide +kernel, rfl, by decide +kernel, by decide +kernel⟩
abbrev s__law_back : Stmt := topS 66
theorem sc__law_back : FnScope ["steps", "name", "times"] ["steps"] (defScope s__law_back) := ⟨rfl, rfl, rfl, by decide +kernel, rfl, by decide +kernel, by decide +kernel⟩
abbrev s__law_length : Stmt := topS 67
theorem sc__law_length : FnScope ["field", "steps", "name", "times"] ["field", "steps"] (defScope s__law_length) := ⟨rfl, rfl, rfl, by decide +kernel, rfl, by decide +kernel, by decide +kernel⟩
abbrev s__law_far : Stmt := topS 68
theorem sc__law_far : FnScope ["field", "one", "other"] ["field", "one", "other"] (defScope s__law_far) := ⟨rfl, rfl, rfl, by decide +kernel, rfl, by decide +kernel, by decide +kernel⟩
abbrev s__law_common : Stmt := topS 69
theorem sc__law_common : FnScope ["field", "one", "other", "found", "mine", "yours", "some", "more", "names", "step", "k", "name"] ["field", "one", "other"] (defScope s__law_common) := ⟨rfl, rfl, rfl, by decide +kernel, rfl, by decide +kernel, by decide +kernel⟩
abbrev s__law_over : Stmt := topS 70
theorem sc__law_over : FnScope ["field", "one", "other", "part", "more", "rest", "near", "far"] ["field", "one", "other"] (defScope s__law_over) := ⟨rfl, rfl, rfl, by decide +kernel, rfl, by decide +kernel, by decide +kernel⟩
abbrev s__law_shows : Stmt := topS 71
theorem sc__law_shows : FnScope ["pile", "field", "steps", "least", "told_so", "due", "k", "name", "step"] ["pile", "field", "steps"] (defScope s__law_shows) := ⟨rfl, rfl, rfl, by decide +kernel, rfl, by decide +kernel, by decide +kernel⟩
abbrev s__law_right : Stmt := topS 72
theorem sc__law_right : FnScope ["field", "one", "other", "third", "near", "far", "more", "is_so", "due", "part", "over", "told_so", "some"] ["field", "one", "other", "third"] (defScope s__law_right) := ⟨rfl, rfl, rfl, by decide +kernel, rfl, by decide +kernel, by decide +kernel⟩
abbrev s_law : Stmt := topS 73
theorem sc_law : FnScope ["script", "m", "turn", "field", "one", "other", "third", "near", "far", "wide", "k"] ["script"] (defScope s_law) := ⟨rfl, rfl, rfl, by decide +kernel, rfl, by decide +kernel, by decide +kernel⟩
structure Tx (K : PySem.W.Frag) (mg : Str → Option Value) : Prop where
  c_PileError : ∃ C, mg "PileError" = some (.ref C)
  c_BadField : ∃ C, mg "BadField" = some (.ref C)
  c_BadScript : ∃ C, mg "BadScript" = some (.ref C)
  c_BadNumber : ∃ C, mg "BadNumber" = some (.ref C)
  c_Unlike : ∃ C, mg "Unlike" = some (.ref C)
  c_TooGreat : ∃ C, mg "TooGreat" = some (.ref C)
  e_BadField : Ek K mg "BadField" "BadField.__init__" s_BadField___init__
  e_BadScript : Ek K mg "BadScript" "BadScript.__init__" s_BadScript___init__
  e_Unlike : Ek K mg "Unlike" "Unlike.__init__" s_Unlike___init__
  e_TooGreat : Ek K mg "TooGreat" "TooGreat.__init__" s_TooGreat___init__
  e_BadNumber : Ek K mg "BadNumber" "BadNumber.__init__" s_BadNumber___init__
  n_BadField_part : NoF K mg "BadField" "part"
  n_BadScript_place : NoF K mg "BadScript" "place"
  n_Unlike_value : NoF K mg "Unlike" "value"
  n_TooGreat_most : NoF K mg "TooGreat" "most"
  n_BadNumber_value : NoF K mg "BadNumber" "value"
  q_Pile : NeOf K mg "Pile"
  o_Pieces : Oc K mg "Pieces"
  m_Pieces___init__ : Mt K mg "Pieces" "__init__" "Pieces.__init__" s_Pieces___init__
  n_Pieces_made : NoF K mg "Pieces" "made"
  o_Pile : Oc K mg "Pile"
  m_Pile___init__ : Mt K mg "Pile" "__init__" "Pile.__init__" s_Pile___init__
  m_Pile___len__ : Mt K mg "Pile" "__len__" "Pile.__len__" s_Pile___len__
  m_Pile___getitem__ : Mt K mg "Pile" "__getitem__" "Pile.__getitem__" s_Pile___getitem__
  m_Pile___contains__ : Mt K mg "Pile" "__contains__" "Pile.__contains__" s_Pile___contains__
  m_Pile___iter__ : Mt K mg "Pile" "__iter__" "Pile.__iter__" s_Pile___iter__
  m_Pile___eq__ : Mt K mg "Pile" "__eq__" "Pile.__eq__" s_Pile___eq__
  m_Pile___mul__ : Mt K mg "Pile" "__mul__" "Pile.__mul__" s_Pile___mul__
  m_Pile___invert__ : Mt K mg "Pile" "__invert__" "Pile.__invert__" s_Pile___invert__
  m_Pile___and__ : Mt K mg "Pile" "__and__" "Pile.__and__" s_Pile___and__
  m_Pile_many : Mt K mg "Pile" "many" "Pile.many" s_Pile_many
  m_Pile_is_lower : Mt K mg "Pile" "is_lower" "Pile.is_lower" s_Pile_is_lower
  m_Pile_over_both : Mt K mg "Pile" "over_both" "Pile.over_both" s_Pile_over_both
  m_Pile_distance : Mt K mg "Pile" "distance" "Pile.distance" s_Pile_distance
  m_Pile_middle : Mt K mg "Pile" "middle" "Pile.middle" s_Pile_middle
  p_Pile_field : Pt K mg "Pile" "field" "Pile.field" s_Pile_field
  p_Pile_steps : Pt K mg "Pile" "steps" "Pile.steps" s_Pile_steps
  p_Pile_length : Pt K mg "Pile" "length" "Pile.length" s_Pile_length
  n_Pile__steps : NoF K mg "Pile" "_steps"
  n_Pile__field : NoF K mg "Pile" "_field"
  k_Pieces : KitD K mg "Pieces"
  i_Pieces_Pieces : Kit K mg "Pieces" "Pieces" true
  i_Pile_Pieces : Kit K mg "Pile" "Pieces" false
  k_Pile : KitD K mg "Pile"
  i_Pieces_Pile : Kit K mg "Pieces" "Pile" false
  i_Pile_Pile : Kit K mg "Pile" "Pile" true
  b_OverflowError : mg "OverflowError" = none
  b_ValueError : mg "ValueError" = none
  b_abs : mg "abs" = none
  b_all : mg "all" = none
  b_any : mg "any" = none
  b_bool : mg "bool" = none
  b_dict : mg "dict" = none
  b_enumerate : mg "enumerate" = none
  b_int : mg "int" = none
  b_isinstance : mg "isinstance" = none
  b_len : mg "len" = none
  b_list : mg "list" = none
  b_max : mg "max" = none
  b_min : mg "min" = none
  b_range : mg "range" = none
  b_repr : mg "repr" = none
  b_str : mg "str" = none
  b_sum : mg "sum" = none
  b_tuple : mg "tuple" = none
  b_zip : mg "zip" = none
  g_MOST_NAMES : ∃ t, mg "MOST_NAMES" = some (.int (6) t)
  g_MOST_LETTERS : ∃ t, mg "MOST_LETTERS" = some (.int (6) t)
  g_MOST_STEPS : ∃ t, mg "MOST_STEPS" = some (.int (60) t)
  g_MOST_TIMES : ∃ t, mg "MOST_TIMES" = some (.int (10 ^ 30) t)
  g_MOST_PIECES : ∃ t, mg "MOST_PIECES" = some (.int (200) t)
  d__wall : Dn K mg "_wall" s__wall
  d_is_whole : Dn K mg "is_whole" s_is_whole
  d_is_pair : Dn K mg "is_pair" s_is_pair
  d_is_ascending : Dn K mg "is_ascending" s_is_ascending
  d_need_field : Dn K mg "need_field" s_need_field
  d_touch_table : Dn K mg "touch_table" s_touch_table
  d_names_touching : Dn K mg "names_touching" s_names_touching
  d_are_apart : Dn K mg "are_apart" s_are_apart
  d_are_names : Dn K mg "are_names" s_are_names
  d_is_name : Dn K mg "is_name" s_is_name
  d_are_pairs : Dn K mg "are_pairs" s_are_pairs
  d_is_pair_of : Dn K mg "is_pair_of" s_is_pair_of
  d_need_script : Dn K mg "need_script" s_need_script
  d_is_step : Dn K mg "is_step" s_is_step
  d_is_great_step : Dn K mg "is_great_step" s_is_great_step
  d_is_times : Dn K mg "is_times" s_is_times
  d_least_pile : Dn K mg "least_pile" s_least_pile
  d_piled : Dn K mg "piled" s_piled
  d_last_touched : Dn K mg "last_touched" s_last_touched
  d_place_behind : Dn K mg "place_behind" s_place_behind
  d_length_of : Dn K mg "length_of" s_length_of
  d_back : Dn K mg "back" s_back
  d_do_touch : Dn K mg "do_touch" s_do_touch
  d_is_lower_of : Dn K mg "is_lower_of" s_is_lower_of
  d_common_of : Dn K mg "common_of" s_common_of
  d_front_times : Dn K mg "front_times" s_front_times
  d_shared_times : Dn K mg "shared_times" s_shared_times
  d_over_both_of : Dn K mg "over_both_of" s_over_both_of
  d_leading : Dn K mg "leading" s_leading
  d_distance_of : Dn K mg "distance_of" s_distance_of
  d_middle_pile : Dn K mg "middle_pile" s_middle_pile
  d_need_like : Dn K mg "need_like" s_need_like
  d_made_pile : Dn K mg "made_pile" s_made_pile
  d__law_mixed : Dn K mg "_law_mixed" s__law_mixed
  d__law_folded : Dn K mg "_law_folded" s__law_folded
  d__law_draw : Dn K mg "_law_draw" s__law_draw
  d__law_begun : Dn K mg "_law_begun" s__law_begun
  d__law_like : Dn K mg "_law_like" s__law_like
  d__law_field : Dn K mg "_law_field" s__law_field
  d__law_steps : Dn K mg "_law_steps" s__law_steps
  d__law_apart : Dn K mg "_law_apart" s__law_apart
  d__law_meet : Dn K mg "_law_meet" s__law_meet
  d__law_pile : Dn K mg "_law_pile" s__law_pile
  d__law_firsts : Dn K mg "_law_firsts" s__law_firsts
  d__law_least : Dn K mg "_law_least" s__law_least
  d__law_back : Dn K mg "_law_back" s__law_back
  d__law_length : Dn K mg "_law_length" s__law_length
  d__law_far : Dn K mg "_law_far" s__law_far
  d__law_common : Dn K mg "_law_common" s__law_common
  d__law_over : Dn K mg "_law_over" s__law_over
  d__law_shows : Dn K mg "_law_shows" s__law_shows
  d__law_right : Dn K mg "_law_right" s__law_right
  d_law : Dn K mg "law" s_law
end XB
set_option Elab.async false
set_option linter.all false
set_option maxRecDepth 100000
set_option maxHeartbeats 4000000
namespace XB
open PySem PySem.Spec PyProof.Rows L2
section
variable {P : Program} {w : World} {K : PySem.W.Frag} {mg : Str → Option Value} {base : Heap}
def spMixed : Sp := fun vs H Q _ => ∃ c n : Int, vs = [.int c, .int n] ∧ 0 ≤ c ∧ c < 1099511627776 ∧ 0 ≤ n ∧ n < 1099511627776 ∧ ∀ r : Int, 0 ≤ r → r < 1099511627 → Q (.int r) H
theorem c_mixed (T : Tx K mg) : Cl P w K mg base CX0 1 "_law_mixed" spMixed := by
  refine cl0 T.d__law_mixed (ps := ["cell", "n"]) (fun _ _ _ _ _ _ us hl => match us, hl with | [_, _], _ => rfl) sc__law_mixed (fun vs H Q E h => ?_) (fun f cdv A outer s H vs Q E hr h => ?_)
  · obtain ⟨c, n, rfl, _⟩ := h
    rfl
  · obtain ⟨c, n, rfl, c0, c1, n0, n1, q⟩ := h
    have nd := sc__law_mixed.nd
    refine ⟨_, pss_cons (ps_set (i := 2) nd rfl (.inl rfl) (pe_op op_add (pe_op op_add
        (pe_op op_mod (pe_callTy call_int1 (by rfl) T.b_int (by decide +kernel) (pa_cons (pe_op op_mul (pe_op op_mul (pv 0) (pe_op op_add pe_int (pe_op op_mul pe_int (pv 1)))) pe_int) pa_nil)) pe_int)
        (pe_op op_mul (pe_op op_mul pe_int (pv 1)) (pv 1))) (pe_op op_mul pe_int (pv 1))))
      (pss_one (ps_ret (pe_op op_fdiv (pe_op op_mod (pe_callTy call_int1 (by rfl) T.b_int (by decide +kernel) (pa_cons (pe_op op_mul (pv 2) pe_int) pa_nil)) pe_int) pe_int))), ?_⟩
    refine ⟨_, rfl, _, rfl, _, _, rfl, rfl, .inl (by constructor <;> omega), _, _, rfl, rfl, _, _, rfl, rfl, .inl (by constructor <;> omega), ?_⟩
    refine ⟨_, _, rfl, rfl, .inr (by decide), .inl ⟨_, rfl, ?_⟩⟩
    refine ⟨_, _, rfl, rfl, (show (0 : Int) < 2147483647 by decide), ?_⟩
    refine ⟨_, rfl, _, _, rfl, rfl, .inl (by decide), _, rfl, _, _, rfl, rfl, .inl (by constructor <;> omega), ?_⟩
    refine ⟨_, _, rfl, rfl, _, rfl, _, _, rfl, rfl, .inl (by decide), _, _, rfl, rfl, ?_⟩
    refine ⟨_, rfl, _, _, rfl, rfl, .inr (by decide), .inl ⟨_, rfl, ?_⟩⟩
    refine ⟨_, _, rfl, rfl, (show (0 : Int) < 2147483629 by decide), _, _, rfl, rfl, ⟨by decide, by decide⟩, ?_⟩
    refine q _ ?_ ?_
    · exact Int.ediv_nonneg (Int.emod_nonneg _ (by decide)) (by decide)
    · have h1 := Int.emod_lt_of_pos (c * (1 + 2 * n) * 48271 % 2147483647 + 7919 * n * n + 104729 * n) (b := 2147483629) (by decide)
      generalize (c * (1 + 2 * n) * 48271 % 2147483647 + 7919 * n * n + 104729 * n) = z
      have h1 := Int.emod_lt_of_pos (z * 69621) (b := 2147483629) (by decide)
      generalize (z * 69621) % 2147483629 = y at h1 ⊢
      show y / 7 < 1099511627
      omega
/-- what a row of numbers is that draws come from -/
structure Good (xs : List Int) : Prop where
  len : xs.length = 64
  bd : ∀ v ∈ xs, 0 ≤ v ∧ v < 2147483647
theorem Good.set {xs : List Int} (g : Good xs) (k : Nat) (z : Int) : Good (xs.set k (z % 2147483647)) := by
  refine ⟨by rw [List.length_set]; exact g.len, fun v hv => ?_⟩
  rcases List.mem_or_eq_of_mem_set hv with h | h
  · exact g.bd v h
  · rw [h]
    exact ⟨Int.emod_nonneg _ (by decide), Int.emod_lt_of_pos _ (by decide)⟩
theorem Good.at (xs : List Int) (g : Good xs) {k : Nat} (h : k < 64) : ∃ v, xs[k]? = some v ∧ 0 ≤ v ∧ v < 2147483647 := by
  have h' : k < xs.length := by rw [g.len]; exact h
  exact ⟨xs[k], List.getElem?_eq_getElem h', g.bd _ (List.getElem_mem h')⟩
theorem mod_nat {z : Int} : ∃ k : Nat, z % 64 = (k : Int) ∧ k < 64 := by
  have h0 := Int.emod_nonneg z (b := 64) (by decide)
  have h1 := Int.emod_lt_of_pos z (b := 64) (by decide)
  exact ⟨(z % 64).toNat, by omega, by omega⟩
def spFolded (K : PySem.W.Frag) : Sp := fun vs H Q _ => ∃ (a : Addr) (ns : List Int), vs = [.ref a] ∧ SqL K H a (ns.map V.int) ∧ ns.length ≤ 1000 ∧
  ∀ H' p xs, Same H H' → H p = none → H' p = some (.lst (xs.map V.int)) → Good xs → Q (.ref p) H'
theorem c_folded (T : Tx K mg) : Cl P w K mg base CX0 1 "_law_folded" (spFolded K) := by
  refine cl0 T.d__law_folded (ps := ["script"]) (fun _ _ _ _ _ _ us hl => match us, hl with | [_], _ => rfl) sc__law_folded (fun vs H Q E h => ?_) (fun f cdv A outer s H vs Q E hr h => ?_)
  · obtain ⟨a, ns, rfl, _⟩ := h
    rfl
  · obtain ⟨a, ns, rfl, hS, hlen, q⟩ := h
    have nd := sc__law_folded.nd
    refine ⟨_, pss_cons (ps_setLc (i := 1) (own := [("n", 2)]) (g := gName 2) (tt := tYes) rfl nd rfl rfl (sw_true rfl rfl rfl (by decide +kernel)) (pi_range1 (by rfl) T.b_range (pa_cons pe_int pa_nil)) (blkOk_by (own := [("n", 2)]) (N := ["script", "found", "n", "cell"]) (sc := defScope s__law_folded) (by decide +kernel))
          (fun _ _ _ _ _ => pg_name (i := 2) nd rfl (Or.inl rfl)) (fun _ _ _ _ _ => pts_nil) (fun _ _ _ _ _ => pe_op op_add pe_int (pv 2)))
      (pss_cons (ps_for PassesOwn.never rfl (pi_enum (by rfl) T.b_enumerate (pa_cons (pv 0) pa_nil)) (pg_tup rfl (pgs_cons (pg_name (i := 2) nd rfl (.inl rfl)) (pgs_cons (pg_name (i := 3) nd rfl (.inl rfl)) pgs_nil)))
        (pss_one (ps_asg (pe_op op_mod (pe_callTy call_int1 (by rfl) T.b_int (by decide +kernel) (pa_cons (pe_op op_add (pe_op op_mul (pe_ix ix_list (pv 1) (pe_op op_mod (pe_callTy call_int1 (by rfl) T.b_int (by decide +kernel) (pa_cons (pv 2) pa_nil)) pe_int) (fun _ _ => rfl)) pe_int) (pv 3)) pa_nil)) pe_int)
          (pg_sub (pv 1) (pe_op op_mod (pe_callTy call_int1 (by rfl) T.b_int (by decide +kernel) (pa_cons (pv 2) pa_nil)) pe_int) set_list))))
      (pss_cons (ps_for PassesOwn.never rfl (pi_range2 (by rfl) T.b_range (pa_cons pe_int (pa_cons pe_int pa_nil))) (pg_name (i := 2) nd rfl (.inl rfl))
        (pss_one (ps_asg (pe_op op_mod (pe_callTy call_int1 (by rfl) T.b_int (by decide +kernel) (pa_cons (pe_op op_add (pe_ix ix_list (pv 1) (pv 2) (fun _ _ => rfl)) (pe_op op_mul (pe_ix ix_list (pv 1) (pe_op op_sub (pv 2) pe_int) (fun _ _ => rfl)) pe_int)) pa_nil)) pe_int)
          (pg_sub (pv 1) (pv 2) set_list))))
      (pss_one (ps_ret (pv 1))))), ?_⟩
    refine ⟨64, rfl, by decide, by decide, fun D hD => ?_⟩
    refine lc_range (lo := 0) (n := 64) (fun i H' => ∃ acc : List Int, H' D = some (.lst (acc.map V.int)) ∧ acc.length = i ∧ (∀ v ∈ acc, 0 ≤ v ∧ v < 2147483647) ∧ Same H H')
      ⟨[], upd_same, rfl, (fun _ h => nomatch h), same_upd hD⟩ (fun i H' hi ⟨acc, eD, el, eb, sm⟩ => ?_) (fun H' ⟨acc, eD, el, eb, sm⟩ => ?_)
    · refine ⟨rfl, yes_ ?_⟩
      refine ⟨_, rfl, _, _, rfl, rfl, _, eD, by rw [List.length_map]; exact small1000 (by omega), acc ++ [17 + (0 + (i : Int))], ?_, by rw [List.length_append, el]; rfl, fun v hv => ?_, same_put sm hD⟩
      · rw [upd_same, List.map_append]
        rfl
      · rcases List.mem_append.mp hv with h | h
        · exact eb v h
        · rw [List.mem_singleton.mp h]
          omega
    · refine ⟨_, rfl, a, ns.map V.int, rfl, sm.seq hS, for_it (walk_enum (xs := ns.map V.int)) (fun i σ H2 => ∃ (xs : List Int) (y2 y3 : Option V), σ = [some (.ref a), some (.ref D), y2, y3] ∧ Same H H2 ∧ H2 D = some (.lst (xs.map V.int)) ∧ Good xs)
        ⟨acc, none, none, rfl, sm, eD, ⟨el, eb⟩⟩ (fun i σ H2 _ ⟨xs, y2, y3, _, s2, _⟩ => s2.seq hS) (fun i x σ H2 H3 hi ⟨xs, y2, y3, eσ, s2, e2, g⟩ hy => ?_) (fun σ H2 ⟨xs, y2, y3, eσ, s2, e2, g⟩ => ?_)⟩
      · obtain ⟨Tt, x1, x2, rfl, nT, rfl, f1, f2⟩ := hy
        subst eσ
        obtain ⟨k, hk, k64⟩ := mod_nat (z := (i : Int))
        obtain ⟨v, hv, v0, v1⟩ := g.at xs k64
        have e1 : x1 = V.int (i : Int) := (Option.some.inj f1).symm
        obtain ⟨z, _, rfl⟩ := int_at f2
        subst e1
        have nDT : D ≠ Tt := ne_of_none e2 nT
        have e3 : upd H2 Tt (.tup [.int (i : Int), .int z]) D = some (.lst (xs.map V.int)) := by
          rw [upd_ne nDT]
          exact e2
        refine ⟨Tt, _, rfl, SqT.of upd_same, rfl, _, _, rfl, _, _, rfl, rfl, ?_⟩
        refine ⟨_, rfl, _, rfl, .inl ⟨_, rfl, _, _, rfl, rfl, (show (0 : Int) < 64 by decide), _, _, _, _, rfl, rfl, SqL.of e3, atI_of hk hv, ?_⟩⟩
        refine ⟨_, _, rfl, rfl, .inr (by decide), _, rfl, _, _, rfl, rfl, .inl ⟨_, rfl, _, _, rfl, rfl, (show (0 : Int) < 2147483647 by decide), ?_⟩⟩
        refine ⟨_, rfl, _, rfl, .inl ⟨_, rfl, _, _, rfl, rfl, (show (0 : Int) < 64 by decide), _, _, _, k, rfl, rfl, e3, ?_, ?_⟩⟩
        · rw [List.length_map, g.len]
          exact ixN_of hk k64
        · refine ⟨_, _, _, rfl, same_put (same_new s2 nT) hD, by rw [upd_same, map_set], g.set k _⟩
      · subst eσ
        refine ⟨1, 64, rfl, by decide, for_range (lo := 1) (n := 63) (fun i σ H3 => ∃ (xs : List Int) (y2 y3 : Option V), σ = [some (.ref a), some (.ref D), y2, y3] ∧ Same H H3 ∧ H3 D = some (.lst (xs.map V.int)) ∧ Good xs)
          ⟨xs, y2, y3, rfl, s2, e2, g⟩ (fun i σ H3 hi ⟨xs, y2, y3, eσ, s3, e3, g⟩ => ?_) (fun σ H3 ⟨xs, y2, y3, eσ, s3, e3, g⟩ => ?_)⟩
        · subst eσ
          obtain ⟨v, hv, v0, v1⟩ := g.at xs (k := i + 1) (by omega)
          obtain ⟨u, hu, u0, u1⟩ := g.at xs (k := i) (by omega)
          refine ⟨_, rfl, _, rfl, _, _, _, _, rfl, rfl, SqL.of e3, atI_of (k := i + 1) (by omega) hv, ?_⟩
          refine ⟨_, rfl, _, rfl, _, _, rfl, rfl, _, _, _, _, rfl, rfl, SqL.of e3, atI_of (k := i) (by omega) hu, ?_⟩
          refine ⟨_, _, rfl, rfl, .inr (by decide), _, _, rfl, rfl, .inl ⟨_, rfl, _, _, rfl, rfl, (show (0 : Int) < 2147483647 by decide), ?_⟩⟩
          refine ⟨_, rfl, _, rfl, _, _, _, i + 1, rfl, rfl, e3, ?_, ?_⟩
          · rw [List.length_map, g.len]
            exact ixN_of (by omega) (by omega)
          · exact ⟨_, _, _, rfl, same_put s3 hD, by rw [upd_same, map_set], g.set _ _⟩
        · subst eσ
          exact ⟨_, rfl, q _ _ _ s3 hD e3 g⟩
end
end XB
set_option Elab.async false
set_option linter.all false
set_option maxRecDepth 100000
set_option maxHeartbeats 4000000
namespace XB
open PySem PySem.Spec PyProof.Rows L2
/-! ### the draws' state: a dict of two rows and a number -/
abbrev kCells : Key := .inr "cells"
abbrev kGreat : Key := .inr "great"
abbrev kSpot : Key := .inr "spot"
def drawn (c g : Addr) (s : Int) : List (Key × V) := [(kCells, .ref c), (kGreat, .ref g), (kSpot, .int s)]
theorem drawn_spot (c g : Addr) (s : Int) : valV (drawn c g s) kSpot = some (.int s) := by rfl
theorem drawn_great (c g : Addr) (s : Int) : valV (drawn c g s) kGreat = some (.ref g) := by rfl
theorem drawn_cells (c g : Addr) (s : Int) : valV (drawn c g s) kCells = some (.ref c) := by rfl
theorem drawn_put (c g : Addr) (s z : Int) : putK (drawn c g s) kSpot (.int z) = drawn c g z := by rfl
structure Dr (H : Hp) (m c g : Addr) (s : Int) : Prop where
  ex : ∃ cs gs : List Int, H m = some (.dK (drawn c g s)) ∧ H c = some (.lst (cs.map V.int)) ∧ H g = some (.lst (gs.map V.int)) ∧ Good cs ∧ gs.length ≤ 1000
  ne : c ≠ g
  s0 : 0 ≤ s
/-- all but the draws' state stands -/
def Kp (m g : Addr) (H H' : Hp) : Prop := ∀ b o, b ≠ m → b ≠ g → H b = some o → H' b = some o
theorem Kp.refl {m g : Addr} {H : Hp} : Kp m g H H := fun _ _ _ _ e => e
theorem Kp.trans {m g : Addr} {H H1 H2 : Hp} (a : Kp m g H H1) (b : Kp m g H1 H2) : Kp m g H H2 := fun x o h1 h2 e => b x o h1 h2 (a x o h1 h2 e)
theorem Kp.of {m g : Addr} {H H1 : Hp} (a : Same H H1) : Kp m g H H1 := fun x o _ _ e => a x o e
theorem Kp.putM {m g : Addr} {H H1 : Hp} {o : HO} (a : Kp m g H H1) : Kp m g H (upd H1 m o) := fun x u h1 h2 e => by
  rw [upd_ne h1]
  exact a x u h1 h2 e
theorem Kp.putG {m g : Addr} {H H1 : Hp} {o : HO} (a : Kp m g H H1) : Kp m g H (upd H1 g o) := fun x u h1 h2 e => by
  rw [upd_ne h2]
  exact a x u h1 h2 e
theorem Kp.new {m g p : Addr} {H H1 : Hp} {o : HO} (a : Kp m g H H1) (hp : H1 p = none) : Kp m g H (upd H1 p o) := fun x u h1 h2 e => by
  rw [upd_ne (ne_of_none (a x u h1 h2 e) hp)]
  exact a x u h1 h2 e
theorem dpInts {K : PySem.W.Frag} {H : Hp} : ∀ gs : List Int, DpAll K H (gs.map V.int) (gs.map PyData.int)
  | [] => .nil
  | x :: r => .cons (.int x) (dpInts r)
theorem layInts : ∀ gs : List Int, PyData.canLayAll0 (gs.map PyData.int) = true
  | [] => rfl
  | x :: r => by
    show (PyData.canLay0 (.int x) && PyData.canLayAll0 (r.map PyData.int)) = true
    rw [layInts r]
    rfl
theorem deepInts : ∀ gs : List Int, PyData.depthAll (gs.map PyData.int) = 0
  | [] => rfl
  | x :: r => by
    show max (PyData.depth (.int x)) (PyData.depthAll (r.map PyData.int)) = 0
    rw [deepInts r]
    rfl
theorem shInts (gs : List Int) : SeqAt.shaped (.list (gs.map PyData.int)) = true := by
  show (PyData.canLayAll0 (gs.map PyData.int) && decide (PyData.depthAll (gs.map PyData.int) + 1 ≤ 64)) = true
  rw [layInts, deepInts]
  rfl
theorem neInts (gs : List Int) : PyData.eqv (.list (gs.map .int)) (.list []) = gs.isEmpty := by
  cases gs <;> rfl
section
variable {P : Program} {w : World} {K : PySem.W.Frag} {mg : Str → Option Value} {base : Heap}
def spDraw : Sp := fun vs H Q _ => ∃ (m c g : Addr) (s lim : Int), vs = [.ref m, .int lim] ∧ Dr H m c g s ∧ 0 < lim ∧ lim < 1073741824 ∧ s < 1073741824 ∧
  ∀ r H', 0 ≤ r → r < lim → Dr H' m c g (s + 1) → Kp m g H H' → Q (.int r) H'
theorem c_draw (T : Tx K mg) : Cl P w K mg base CX0 2 "_law_draw" spDraw := by
  refine cl0 T.d__law_draw (ps := ["m", "limit"]) (fun _ _ _ _ _ _ us hl => match us, hl with | [_, _], _ => rfl) sc__law_draw (fun vs H Q E h => ?_) (fun f cdv A outer st H vs Q E hr h => ?_)
  · obtain ⟨m, c, g, s, lim, rfl, _⟩ := h
    rfl
  · obtain ⟨m, c, g, s, lim, rfl, D, l0, l1, s1, q⟩ := h
    obtain ⟨⟨cs, gs, em, ec, eg, gc, gl⟩, ncg, s0⟩ := D
    have nd := sc__law_draw.nd
    have hu := hu_of hr
    refine ⟨_, pss_cons (ps_set (i := 2) nd rfl (.inl rfl) (pe_dget hu (pv 0) pe_str (fun _ _ => rfl)))
      (pss_cons (ps_dput hu (pv 0) pe_str (pe_op op_add (pv 2) pe_int) rfl)
      (C8.pss_cut (ps_if (pt_cmpR (op_neD hr.units) (pe_dget hu (pv 0) pe_str (fun _ _ => rfl)) (pe_lst pa_nil) (nomark _))
        (pss_cons (ps_set (i := 3) nd rfl (.inl rfl) (pe_dget hu (pv 0) pe_str (fun _ _ => rfl)))
        (pss_cons (ps_set (i := 4) nd rfl (.inl rfl) (pe_op op_mod (pe_callTy call_int1 (by rfl) T.b_int (by decide +kernel) (pa_cons (pv 2) pa_nil)) (pe_callB call_len_seq (by rfl) T.b_len PySem.boot_len (pa_cons (pv 3) pa_nil))))
        (pss_cons (ps_set (i := 5) nd rfl (.inl rfl) (pe_ix ix_list (pv 3) (pv 4) (fun _ _ => rfl)))
        (pss_one (ps_if (pt_cmpR op_gt (pv 5) pe_int (nomark _))
          (pss_cons (ps_asg (pe_op op_fdivW (pv 5) (pv 1)) (pg_sub (pv 3) (pv 4) set_list))
          (pss_one (ps_ret (pe_op op_mod (pe_callTy call_int1 (by rfl) T.b_int (by decide +kernel) (pa_cons (pv 5) pa_nil)) (pv 1))))) pss_nil)))))
        pss_nil)
      (pss_cons (ps_set (i := 3) nd rfl (.inl rfl) (pe_dget hu (pv 0) pe_str (fun _ _ => rfl)))
      (pss_one (ps_ret (pe_op op_mod (pe_callTy call_int1 (by rfl) T.b_int (by decide +kernel) (pa_cons
        (pe_k (c_mixed T) hr (by decide) (by rfl) (pa_cons
          (pe_k (c_mixed T) hr (by decide) (by rfl) (pa_cons (pe_op op_add (pe_ix ix_list (pv 3) (pe_op op_mod (pe_callTy call_int1 (by rfl) T.b_int (by decide +kernel) (pa_cons (pv 2) pa_nil)) pe_int) (fun _ _ => rfl)) (pe_op op_mul pe_int (pe_op op_fdiv (pv 2) pe_int))) (pa_cons (pv 2) pa_nil)))
          (pa_cons (pe_op op_add (pv 2) pe_int) pa_nil))) pa_nil)) (pv 1))))))), ?_⟩
    have nmc : m ≠ c := ne_of em ec (by intro z; cases z)
    have nmg : m ≠ g := ne_of em eg (by intro z; cases z)
    refine ⟨_, rfl, m, _, rfl, DGet.k (k := kSpot) em, ?_⟩
    refine ⟨_, rfl, _, _, rfl, rfl, _, rfl, m, _, rfl, DPut.k (k := kSpot) em (by show 3 < sizeLine; decide), ?_⟩
    have em1 : upd H m (.dK (putK (drawn c g s) kSpot (.int (s + 1)))) m = some (.dK (drawn c g (s + 1))) := upd_same
    generalize hH1 : upd H m (.dK (putK (drawn c g s) kSpot (.int (s + 1)))) = H1 at em1
    have ec1 : H1 c = some (.lst (cs.map V.int)) := by
      rw [← hH1, upd_ne nmc.symm]
      exact ec
    have eg1 : H1 g = some (.lst (gs.map V.int)) := by
      rw [← hH1, upd_ne nmg.symm]
      exact eg
    have k1 : Kp m g H H1 := by
      rw [← hH1]
      exact Kp.refl.putM
    refine ⟨fun σ H' => ∃ y3 y4 y5, σ = [some (.ref m), some (.int lim), some (.int s), y3, y4, y5] ∧ Dr H' m c g (s + 1) ∧ Kp m g H H', ?_, ?_⟩
    · refine ⟨_, rfl, m, _, rfl, DGet.k (k := kGreat) em1, Nat.zero_le _, fun p hp => ?_⟩
      have em2 := (same_upd (o := .lst []) hp) m _ em1
      have ec2 := (same_upd (o := .lst []) hp) c _ ec1
      have eg2 := (same_upd (o := .lst []) hp) g _ eg1
      have k2 : Kp m g H (upd H1 p (.lst [])) := k1.new hp
      have ep2 : upd H1 p (.lst []) p = some (.lst []) := upd_same
      generalize upd H1 p (.lst []) = H2 at em2 ec2 eg2 k2 ep2 ⊢
      refine ⟨.list (gs.map .int), .list [], .lst (SqL.of eg2) (dpInts gs), .lst (SqL.of ep2) .nil, shInts gs, rfl, _, rfl, ?_⟩
      refine ite2 (fun hne => ?_) (fun _ => ⟨_, _, _, rfl, ⟨⟨cs, gs, em2, ec2, eg2, gc, gl⟩, ncg, by omega⟩, k2⟩)
      have hpos : 0 < gs.length := by
        rw [neInts] at hne
        cases gs with
        | nil => exact absurd hne (by decide)
        | cons _ _ => exact Nat.succ_pos _
      refine ⟨_, rfl, m, _, rfl, DGet.k (k := kGreat) em2, ?_⟩
      refine ⟨_, rfl, .inl ⟨_, rfl, _, rfl, g, _, rfl, .inl (SqL.of eg2), _, _, rfl, rfl, ?_, ?_⟩⟩
      · show (0 : Int) < ((gs.map V.int).length : Int)
        rw [List.length_map]
        omega
      have h0 := Int.emod_nonneg s (b := ((gs.map V.int).length : Int)) (by rw [List.length_map]; omega)
      have h1 := Int.emod_lt_of_pos s (b := ((gs.map V.int).length : Int)) (by rw [List.length_map]; omega)
      rw [List.length_map] at h0 h1
      obtain ⟨k, hk⟩ : ∃ k : Nat, s % (gs.length : Int) = (k : Int) := ⟨(s % (gs.length : Int)).toNat, by omega⟩
      have hkl : k < gs.length := by omega
      have hk' : s % ((gs.map V.int).length : Int) = (k : Int) := by
        rw [List.length_map]
        exact hk
      refine ⟨_, rfl, _, rfl, _, _, _, _, rfl, rfl, SqL.of eg2, atI_of hk' (List.getElem?_eq_getElem hkl), ?_⟩
      refine ⟨_, rfl, _, _, rfl, rfl, _, rfl, ?_⟩
      refine ite2 (fun hp => ?_) (fun _ => ⟨_, _, _, rfl, ⟨⟨cs, gs, em2, ec2, eg2, gc, gl⟩, ncg, by omega⟩, k2⟩)
      refine ⟨_, rfl, _, rfl, _, _, rfl, rfl, wide_div l0 (b := 31) (by omega) (by decide) (by decide), ?_⟩
      refine ⟨_, rfl, _, rfl, _, _, _, k, rfl, rfl, eg2, ixN_of hk' (by rw [List.length_map]; exact hkl), ?_⟩
      refine ⟨_, rfl, .inl ⟨_, rfl, _, rfl, _, _, rfl, rfl, l0, ?_⟩⟩
      refine q _ _ (Int.emod_nonneg _ (by omega)) (Int.emod_lt_of_pos _ l0) ⟨⟨cs, _, ?_, ?_, by rw [upd_same, map_set], gc, by rw [List.length_set]; exact gl⟩, ncg, by omega⟩ k2.putG
      · rw [upd_ne nmg]
        exact em2
      · rw [upd_ne ncg]
        exact ec2
    · rintro σ H3 ⟨y3, y4, y5, rfl, ⟨⟨cs, gs, em3, ec3, eg3, gc3, gl3⟩, _, _⟩, k3⟩
      obtain ⟨k, hk, k64⟩ := mod_nat (z := s)
      obtain ⟨v, hv, v0, v1⟩ := gc3.at cs k64
      refine ⟨_, rfl, m, _, rfl, DGet.k (k := kCells) em3, ?_⟩
      refine ⟨_, rfl, _, rfl, .inl ⟨_, rfl, _, _, rfl, rfl, (show (0 : Int) < 64 by decide), _, _, _, _, rfl, rfl, SqL.of ec3, atI_of hk hv, ?_⟩⟩
      refine ⟨_, rfl, _, _, rfl, rfl, ⟨by decide, by decide⟩, _, _, rfl, rfl, .inl (by decide), _, _, rfl, rfl, ?_⟩
      refine ⟨_, rfl, _, _, rfl, by omega, by omega, s0, by omega, fun r1 a0 a1 => ?_⟩
      refine ⟨_, rfl, _, _, rfl, rfl, _, _, rfl, a0, by omega, by omega, by omega, fun r2 b0 b1 => ?_⟩
      refine .inl ⟨_, rfl, _, rfl, _, _, rfl, rfl, l0, ?_⟩
      exact q _ _ (Int.emod_nonneg _ (by omega)) (Int.emod_lt_of_pos _ l0) ⟨⟨cs, gs, em3, ec3, eg3, gc3, gl3⟩, ncg, by omega⟩ k3
end
end XB
set_option Elab.async false
set_option linter.all false
set_option maxRecDepth 100000
set_option maxHeartbeats 4000000
namespace XB
open PySem PySem.Spec PyProof.Rows L2
section
variable {P : Program} {w : World} {K : PySem.W.Frag} {mg : Str → Option Value} {base : Heap}
def spBegun (K : PySem.W.Frag) : Sp := fun vs H Q _ => ∃ (a : Addr) (ns : List Int), vs = [.ref a] ∧ SqL K H a (ns.map V.int) ∧ ns.length ≤ 1000 ∧
  ∀ H' m c g, Same H H' → H m = none → H c = none → H g = none → Dr H' m c g 0 → Q (.ref m) H'
theorem c_begun (T : Tx K mg) : Cl P w K mg base CX0 2 "_law_begun" (spBegun K) := by
  refine cl0 T.d__law_begun (ps := ["script"]) (fun _ _ _ _ _ _ us hl => match us, hl with | [_], _ => rfl) sc__law_begun (fun vs H Q E h => ?_) (fun f cdv A outer st H vs Q E hr h => ?_)
  · obtain ⟨a, ns, rfl, _⟩ := h
    rfl
  · obtain ⟨a, ns, rfl, hS, hlen, q⟩ := h
    have nd := sc__law_begun.nd
    have hu := hu_of hr
    refine ⟨_, pss_cons (ps_set (i := 1) nd rfl (.inl rfl) (pe_disp (pps_cons pe_str (pe_k (c_folded T) hr (by decide) (by rfl) (pa_cons (pv 0) pa_nil)) (pps_cons pe_str (pe_lst pa_nil) (pps_cons pe_str pe_int pps_nil))) (by rfl) (by rfl) (fun z => by cases z) (by decide)))
      (pss_cons (ps_dput hu (pv 1) pe_str (pe_lc (own := [("cell", 2)]) (g := gName 2) (tt := tYes) (by rfl) nd (pi_list (pv 0)) (blkOk_by (own := [("cell", 2)]) (N := ["script", "m", "cell"]) (sc := defScope s__law_begun) (by decide +kernel))
          (fun _ _ _ _ _ => pg_name (i := 2) nd rfl (Or.inl rfl)) (fun _ _ _ _ _ => pts_nil) (fun _ _ _ _ _ => pe_ifExp (pt_cmpR op_ge (pv 2) (pe_op op_pow pe_int pe_int) (nomark _)) (pv 2) pe_int)) rfl)
      (pss_one (ps_ret (pv 1)))), ?_⟩
    refine fun m hm => ?_
    have s1 : Same H (upd H m (.dK [])) := same_upd hm
    refine ⟨_, rfl, a, ns, rfl, s1.seq hS, hlen, fun H1 c cs sm nc ec gc => ?_⟩
    have hc0 : H c = none := s1.free nc
    have nmc : m ≠ c := fun e => by
      rw [← e, upd_same] at nc
      cases nc
    have em1 : H1 m = some (.dK []) := sm _ _ upd_same
    refine ⟨Nat.zero_le _, fun g0 hg0 => ?_⟩
    have em2 : upd H1 g0 (.lst []) m = some (.dK []) := (same_upd (o := .lst []) hg0) _ _ em1
    have ec2 : upd H1 g0 (.lst []) c = some (.lst (cs.map V.int)) := (same_upd (o := .lst []) hg0) _ _ ec
    have s2 : Same H (upd H1 g0 (.lst [])) := (s1.trans sm).trans (same_upd hg0)
    generalize upd H1 g0 (.lst []) = H2 at em2 ec2 s2 ⊢
    refine ⟨em2, [(kCells, .ref c), (kGreat, .ref g0), (kSpot, .int 0)], rfl, by show 3 ≤ 15; decide, ?_⟩
    have em3 : upd H2 m (.dK (mergeK [] [(kCells, .ref c), (kGreat, .ref g0), (kSpot, .int 0)])) m = some (.dK (drawn c g0 0)) := by
      rw [upd_same]
      rfl
    have ec3 : upd H2 m (.dK (mergeK [] [(kCells, .ref c), (kGreat, .ref g0), (kSpot, .int 0)])) c = some (.lst (cs.map V.int)) := by
      rw [upd_ne nmc.symm]
      exact ec2
    have s3 : Same H (upd H2 m (.dK (mergeK [] [(kCells, .ref c), (kGreat, .ref g0), (kSpot, .int 0)]))) := same_put s2 hm
    generalize upd H2 m (.dK (mergeK [] [(kCells, .ref c), (kGreat, .ref g0), (kSpot, .int 0)])) = H3 at em3 ec3 s3 ⊢
    refine ⟨_, rfl, a, rfl, ⟨_, s3.seq hS⟩, fun g hg => ?_⟩
    have hgH : H g = none := s3.free hg
    refine lc_list (K := K) (a := a) (xs := ns.map V.int) (fun i H' => ∃ acc : List Int, H' g = some (.lst (acc.map V.int)) ∧ acc.length = i ∧ Same H H' ∧ H' m = some (.dK (drawn c g0 0)) ∧ H' c = some (.lst (cs.map V.int)))
      ⟨[], upd_same, rfl, same_new s3 hg, (same_upd hg) _ _ em3, (same_upd hg) _ _ ec3⟩ (fun i H' _ ⟨_, _, _, s', _⟩ => s'.seq hS) (fun i x H' hi ⟨acc, eg, el, s', em', ec'⟩ => ?_) (fun H' ⟨acc, eg, el, s', em', ec'⟩ => ?_)
    · obtain ⟨z, hz, rfl⟩ := int_at hi
      have hil : i < ns.length := (List.getElem?_eq_some_iff.mp hz).1
      have nmg : m ≠ g := ne_of em' eg (by intro z; cases z)
      have ncg : c ≠ g := fun e => by
        rw [← e, ec3] at hg
        cases hg
      refine ⟨rfl, yes_ ?_⟩
      refine ⟨_, rfl, _, _, rfl, rfl, ⟨by decide, by decide, by decide⟩, _, _, rfl, rfl, _, rfl, ?_⟩
      have fin : ∀ y : Int, ∃ acc_1, H' g = some (.lst acc_1) ∧ acc_1.length < sizeLine ∧ ∃ acc2 : List Int, upd H' g (.lst (acc_1 ++ [V.int y])) g = some (.lst (acc2.map V.int)) ∧ acc2.length = i + 1 ∧ Same H (upd H' g (.lst (acc_1 ++ [V.int y]))) ∧
          upd H' g (.lst (acc_1 ++ [V.int y])) m = some (.dK (drawn c g0 0)) ∧ upd H' g (.lst (acc_1 ++ [V.int y])) c = some (.lst (cs.map V.int)) := fun y => by
        refine ⟨_, eg, by rw [List.length_map, el]; exact small1000 (by omega), acc ++ [y], ?_, by rw [List.length_append, el]; rfl, same_put s' hgH, ?_, ?_⟩
        · rw [upd_same, List.map_append]
          rfl
        · rw [upd_ne nmg]
          exact em'
        · rw [upd_ne ncg]
          exact ec'
      refine ite2 (fun _ => ?_) (fun _ => ?_)
      · exact ⟨_, rfl, fin z⟩
      · exact fin 0
    · have nmg : m ≠ g := ne_of em' eg (by intro z; cases z)
      have ncg : c ≠ g := fun e => by
        rw [← e, ec3] at hg
        cases hg
      refine ⟨_, rfl, m, _, rfl, DPut.k (k := kGreat) em' (by show 3 < sizeLine; decide), _, rfl, ?_⟩
      refine q _ m c g (same_put s' hm) hm hc0 hgH ⟨⟨cs, acc, ?_, ?_, ?_, gc, ?_⟩, ncg, Int.le_refl _⟩
      · rw [upd_same]
        rfl
      · rw [upd_ne nmc.symm]
        exact ec'
      · rw [upd_ne nmg.symm]
        exact eg
      · rw [el, List.length_map]
        exact hlen
end
end XB
set_option Elab.async false
set_option linter.all false
set_option maxRecDepth 100000
set_option maxHeartbeats 4000000
namespace XB
open PySem PySem.Spec PyProof.Rows L2
section
variable {P : Program} {w : World} {K : PySem.W.Frag} {mg : Str → Option Value} {base : Heap}
def spIsPair (K : PySem.W.Frag) : Sp := fun vs H Q _ => ∃ (a : Addr) (xs : List V), vs = [.ref a] ∧ SqT K H a xs ∧ Q (.bl (decide (xs.length = 2))) H
theorem c_is_pair (T : Tx K mg) : Cl P w K mg base CX0 1 "is_pair" (spIsPair K) := by
  refine cl0 T.d_is_pair (ps := ["value"]) (fun _ _ _ _ _ _ us hl => match us, hl with | [_], _ => rfl) sc_is_pair (fun vs H Q E h => ?_) (fun f cdv A outer st H vs Q E hr h => ?_)
  · obtain ⟨a, xs, rfl, _⟩ := h
    rfl
  · obtain ⟨a, xs, rfl, hS, q⟩ := h
    refine ⟨_, pss_one (ps_ret (pe_and (pe_isT "tuple" (by rfl) T.b_isinstance (by rfl) T.b_tuple (by decide +kernel) (pv 0)) (pe_one (pe_cmpR op_eq (pe_lenS (by rfl) T.b_len (pv 0)) pe_int (nomark _))))), ?_⟩
    refine ⟨_, rfl, _, _, _, _, _, rfl, .ty _, tyx_tup hS, kit_ty (by decide +kernel), _, rfl, iteT ?_⟩
    refine ⟨_, rfl, a, xs, rfl, .inr hS, rfl, ?_⟩
    have e : decide (V.int (xs.length : Int) = V.int 2) = decide (xs.length = 2) := by
      refine decide_eq_decide.mpr ⟨fun h => ?_, fun h => ?_⟩
      · injection h with h
        omega
      · rw [h]
        rfl
    show Q (.bl (decide (V.int (xs.length : Int) = V.int 2))) H
    rw [e]
    exact q
/-- each text ahead of the next one -/
def spAscN (K : PySem.W.Frag) : Sp := fun vs H Q _ => (∃ (a : Addr) (l : List Str), vs = [.ref a] ∧ SqT K H a (l.map V.str) ∧ l.length ≤ 1000 ∧ l.Pairwise (fun a b => sLt a b = true) ∧ ∀ H', Same H H' → Q (.bl true) H') ∨
  (∃ (a : Addr) (vs' : List V) (l : List (Str × Str)), vs = [.ref a] ∧ SqT K H a vs' ∧ DpAll K H vs' (l.map dPair) ∧ l.length ≤ 1000 ∧ l.Pairwise (fun p q => (if p.1 == q.1 then (if p.2 == q.2 then false else sLt p.2 q.2) else sLt p.1 q.1) = true) ∧ ∀ H', Same H H' → Q (.bl true) H')
theorem all_true : ∀ n : Nat, (List.replicate n true).all id = true
  | 0 => rfl
  | n + 1 => by
    rw [List.replicate_succ, List.all_cons, all_true n]
    rfl
theorem map_rep (n : Nat) : (List.replicate n true).map V.bl = List.replicate n (V.bl true) := by
  rw [List.map_replicate]
theorem c_is_ascending (T : Tx K mg) : Cl P w K mg base CX0 1 "is_ascending" (spAscN K) := by
  refine cl0 T.d_is_ascending (ps := ["items"]) (fun _ _ _ _ _ _ us hl => match us, hl with | [_], _ => rfl) sc_is_ascending (fun vs H Q E h => ?_) (fun f cdv A outer st H vs Q E hr h => ?_)
  · rcases h with ⟨a, l, rfl, _⟩ | ⟨a, l, _, rfl, _⟩ <;> rfl
  · have nd := sc_is_ascending.nd
    have hu := hr.units
    rcases h with ⟨a, l, rfl, hS, hlen, hP, q⟩ | ⟨a, vs', l, rfl, hS, hD, hlen, hP, q⟩
    · refine ⟨_, pss_one (ps_ret (pe_callB (cr_all rfl) (by rfl) T.b_all (by decide +kernel) (pa_cons (pe_lc (own := [("one", 1), ("other", 2)]) (g := gTup K 2 (gCons (gName 1) (gCons (gName 2) gNil))) (tt := tYes) (by rfl) nd
        (RZ.pi_zipA (by rfl) T.b_zip (pa_cons (pv 0) (pa_cons (pe_slice sl_tupA (pv 0) (po_some pe_int) po_none) pa_nil)))
        (blkOk_by (own := [("one", 1), ("other", 2)]) (N := ["items", "one", "other"]) (sc := defScope s_is_ascending) (by decide +kernel))
        (fun _ _ _ _ _ => pg_tup rfl (pgs_cons (pg_name (i := 1) nd rfl (Or.inl rfl)) (pgs_cons (pg_name (i := 2) nd rfl (Or.inl rfl)) pgs_nil))) (fun _ _ _ _ _ => pts_nil) (fun _ _ _ _ _ => pe_cmpR op_lt_str (pv 1) (pv 2) (nomark _))) pa_nil))), ?_⟩
      refine ⟨_, rfl, _, rfl, 1, rfl, ?_⟩
      refine noPart ?_
      refine sl_tail hS (fun e => ?_) (fun hne b hb => ?_)
      rotate_left
      · have hB : SqT K (upd H b (.tup ((l.map V.str).drop 1))) b ((l.drop 1).map V.str) := by
          rw [List.map_drop]
          exact SqT.of upd_same
        have hA := (Tk.of (same_upd (o := .tup ((l.map V.str).drop 1)) hb)).sqT hS
        have sm := same_upd (o := .tup ((l.map V.str).drop 1)) hb
        generalize upd H b (.tup ((l.map V.str).drop 1)) = H1 at hA hB sm ⊢
        refine ⟨a, b, _, _, rfl, .inr ⟨hA, hB, fun D hD => ?_⟩⟩
        refine lc_it (walk_zipT (xs := l.map V.str) (ys := (l.drop 1).map V.str) rfl) (fun i H' => H' D = some (.lst (List.replicate i (V.bl true))) ∧ Same H1 H') ⟨upd_same, same_upd hD⟩ (fun i H' _ ⟨_, s'⟩ => ⟨(Tk.of s').sqT hA, (Tk.of s').sqT hB⟩)
          (fun i x H2 H3 hi ⟨eD, s'⟩ hy => ?_) (fun H2 ⟨eD, s'⟩ => ?_)
        · obtain ⟨Tt, x1, x2, rfl, nT, rfl, f1, f2⟩ := hy
          obtain ⟨y1, g1, rfl⟩ := str_at f1
          obtain ⟨y2, g2, rfl⟩ := str_at f2
          have nDT : D ≠ Tt := ne_of_none eD nT
          refine ⟨Tt, _, rfl, SqT.of upd_same, rfl, _, _, rfl, _, _, rfl, rfl, rfl, yes_ ?_⟩
          refine ⟨_, rfl, _, rfl, _, _, rfl, rfl, _, by rw [upd_ne nDT]; exact eD, ?_, ?_, ?_⟩
          · rw [List.length_replicate, List.length_map, List.length_map] at *
            exact small1000 (by omega)
          · rw [upd_same]
            have lt : sLt y1 y2 = true := by
              rw [List.getElem?_drop] at g2
              obtain ⟨h1, e1⟩ := List.getElem?_eq_some_iff.mp g1
              obtain ⟨h2, e2⟩ := List.getElem?_eq_some_iff.mp g2
              rw [← e1, ← e2]
              exact List.pairwise_iff_getElem.mp hP i (1 + i) h1 h2 (by omega)
            have e : decide (y1.cps.toList < y2.cps.toList) = true := lt
            rw [e, List.replicate_succ']
          · exact same_put (same_new s' nT) hD
        · refine ⟨D, List.replicate _ true, rfl, SqL.of (by rw [map_rep]; exact eD), ?_⟩
          rw [all_true]
          exact q _ (sm.trans s')
      · have e0 : l = [] := List.map_eq_nil_iff.mp e
        subst e0
        refine ⟨a, a, _, _, rfl, .inr ⟨hS, hS, fun D hD => ?_⟩⟩
        refine lc_it (walk_zipT (xs := []) (ys := []) rfl) (fun i H' => H' D = some (.lst []) ∧ Same H H') ⟨upd_same, same_upd hD⟩ (fun i H' _ ⟨_, s'⟩ => ⟨(Tk.of s').sqT hS, (Tk.of s').sqT hS⟩)
          (fun i x H2 H3 hi _ _ => absurd hi (Nat.not_lt_zero _)) (fun H2 ⟨eD, s'⟩ => ?_)
        exact ⟨D, [], rfl, SqL.of eD, q _ s'⟩
    · refine ⟨_, pss_one (ps_ret (pe_callB (cr_all rfl) (by rfl) T.b_all (by decide +kernel) (pa_cons (pe_lc (own := [("one", 1), ("other", 2)]) (g := gTup K 2 (gCons (gName 1) (gCons (gName 2) gNil))) (tt := tYes) (by rfl) nd
        (RZ.pi_zipA (by rfl) T.b_zip (pa_cons (pv 0) (pa_cons (pe_slice sl_tupA (pv 0) (po_some pe_int) po_none) pa_nil)))
        (blkOk_by (own := [("one", 1), ("other", 2)]) (N := ["items", "one", "other"]) (sc := defScope s_is_ascending) (by decide +kernel))
        (fun _ _ _ _ _ => pg_tup rfl (pgs_cons (pg_name (i := 1) nd rfl (Or.inl rfl)) (pgs_cons (pg_name (i := 2) nd rfl (Or.inl rfl)) pgs_nil))) (fun _ _ _ _ _ => pts_nil) (fun _ _ _ _ _ => pe_cmpR (op_ltSSk (K := K) rfl hu) (pv 1) (pv 2) (nomark _))) pa_nil))), ?_⟩
      refine ⟨_, rfl, _, rfl, 1, rfl, ?_⟩
      have hl := hD.len
      rw [List.length_map] at hl
      refine noPart ?_
      refine sl_tail hS (fun e => ?_) (fun hne b hb => ?_)
      rotate_left
      · have hB : SqT K (upd H b (.tup (vs'.drop 1))) b (vs'.drop 1) := SqT.of upd_same
        have hA := (Tk.of (same_upd (o := .tup (vs'.drop 1)) hb)).sqT hS
        have sm := same_upd (o := .tup (vs'.drop 1)) hb
        generalize upd H b (.tup (vs'.drop 1)) = H1 at hA hB sm ⊢
        refine ⟨a, b, _, _, rfl, .inr ⟨hA, hB, fun D hD' => ?_⟩⟩
        refine lc_it (walk_zipT (xs := vs') (ys := vs'.drop 1) rfl) (fun i H' => H' D = some (.lst (List.replicate i (V.bl true))) ∧ Same H1 H') ⟨upd_same, same_upd hD'⟩ (fun i H' _ ⟨_, s'⟩ => ⟨(Tk.of s').sqT hA, (Tk.of s').sqT hB⟩)
          (fun i x H2 H3 hi ⟨eD, s'⟩ hy => ?_) (fun H2 ⟨eD, s'⟩ => ?_)
        · obtain ⟨Tt, x1, x2, rfl, nT, rfl, f1, f2⟩ := hy
          have f1 : vs'[i]? = some x1 := f1
          have f2 : (vs'.drop 1)[i]? = some x2 := f2
          rw [List.getElem?_drop] at f2
          obtain ⟨d1, g1, p1⟩ := hD.get f1
          obtain ⟨d2, g2, p2⟩ := hD.get f2
          rw [List.getElem?_map] at g1 g2
          obtain ⟨y1, k1, rfl⟩ := Option.map_eq_some_iff.mp g1
          obtain ⟨y2, k2, rfl⟩ := Option.map_eq_some_iff.mp g2
          obtain ⟨b1, rfl, c1⟩ := p1.pair
          obtain ⟨b2, rfl, c2⟩ := p2.pair
          have kT : Tk H (upd H2 Tt (.tup [.ref b1, .ref b2])) := (Tk.of (sm.trans s')).new nT
          have nDT : D ≠ Tt := ne_of_none eD nT
          refine ⟨Tt, _, rfl, SqT.of upd_same, rfl, _, _, rfl, _, _, rfl, rfl, rfl, yes_ ?_⟩
          refine ⟨_, rfl, _, rfl, _, _, _, _, _, _, rfl, rfl, kT.sqT c1, kT.sqT c2, _, by rw [upd_ne nDT]; exact eD, ?_, ?_, ?_⟩
          · rw [List.length_replicate]
            exact small1000 (by omega)
          · rw [upd_same]
            have lt : (if y1.1 == y2.1 then (if y1.2 == y2.2 then false else sLt y1.2 y2.2) else sLt y1.1 y2.1) = true := by
              obtain ⟨h1, e1⟩ := List.getElem?_eq_some_iff.mp k1
              obtain ⟨h2, e2⟩ := List.getElem?_eq_some_iff.mp k2
              rw [← e1, ← e2]
              exact List.pairwise_iff_getElem.mp hP i (1 + i) h1 h2 (by omega)
            rw [lt, List.replicate_succ']
          · exact same_put (same_new s' nT) hD'
        · refine ⟨D, List.replicate _ true, rfl, SqL.of (by rw [map_rep]; exact eD), ?_⟩
          rw [all_true]
          exact q _ (sm.trans s')
      · subst e
        refine ⟨a, a, _, _, rfl, .inr ⟨hS, hS, fun D hD' => ?_⟩⟩
        refine lc_it (walk_zipT (xs := []) (ys := []) rfl) (fun i H' => H' D = some (.lst []) ∧ Same H H') ⟨upd_same, same_upd hD'⟩ (fun i H' _ ⟨_, s'⟩ => ⟨(Tk.of s').sqT hS, (Tk.of s').sqT hS⟩)
          (fun i x H2 H3 hi _ _ => absurd hi (Nat.not_lt_zero _)) (fun H2 ⟨eD, s'⟩ => ?_)
        exact ⟨D, [], rfl, SqL.of eD, q _ s'⟩
end
end XB
set_option Elab.async false
set_option linter.all false
set_option maxRecDepth 100000
set_option maxHeartbeats 4000000
namespace XB
open PySem PySem.Spec PyProof.Rows L2
theorem inV_strs (a : Str) : ∀ l : List Str, inV (.str a) (l.map V.str) = l.contains a
  | [] => rfl
  | x :: l => by
    have ih := inV_strs a l
    unfold inV at ih ⊢
    rw [List.map_cons, List.any_cons, ih, List.contains_cons]
    congr 1
    show decide (x = a) = (a == x)
    by_cases e : x = a
    · subst e
      simp
    · have : a ≠ x := fun q => e q.symm
      simp [e, this]
theorem flat_strs (l : List Str) : (l.map V.str).all flatV = true := by
  rw [List.all_map]
  exact List.all_eq_true.mpr fun _ _ => rfl
section
variable {P : Program} {w : World} {K : PySem.W.Frag} {mg : Str → Option Value} {base : Heap}
def GoodName (n : Str) : Prop := 1 ≤ n.length ∧ n.length ≤ 6 ∧ ∀ c ∈ n.cps.toList, 97 ≤ c ∧ c ≤ 122
def spIsName : Sp := fun vs H Q _ => ∃ n : Str, vs = [.str n] ∧ GoodName n ∧ ∀ H', Same H H' → Q (.bl true) H'
theorem c_is_name (T : Tx K mg) : Cl P w K mg base CX0 1 "is_name" spIsName := by
  refine cl0 T.d_is_name (ps := ["value"]) (fun _ _ _ _ _ _ us hl => match us, hl with | [_], _ => rfl) sc_is_name (fun vs H Q E h => ?_) (fun f cdv A outer st H vs Q E hr h => ?_)
  · obtain ⟨n, rfl, _⟩ := h
    rfl
  · obtain ⟨n, rfl, ⟨n1, n6, nc⟩, q⟩ := h
    have nd := sc_is_name.nd
    obtain ⟨tk, hML⟩ := T.g_MOST_LETTERS
    have hsz : n.length ≤ sizeLine := Nat.le_trans n6 (by decide)
    refine ⟨_, pss_cons (ps_if (PW.pt (pw_or (pt_not (pt_val (pe_isT "str" (by rfl) T.b_isinstance (by rfl) T.b_str (by decide +kernel) (pv 0)))) (pw_or1 (pt_not (pt_chain op_le op_le pe_int (pe_lenT (by rfl) T.b_len (pv 0)) (pe_glob (v := .int 6) (by rfl) hML ⟨_, rfl⟩)))))) pss_never pss_nil)
      (pss_one (ps_ret (pe_callB (cr_all rfl) (by rfl) T.b_all (by decide +kernel) (pa_cons (pe_lc (own := [("letter", 1)]) (g := gName 1) (tt := tYes) (by rfl) nd (pi_str (pv 0))
        (blkOk_by (own := [("letter", 1)]) (N := ["value", "letter"]) (sc := defScope s_is_name) (by decide +kernel)) (fun _ _ _ _ _ => pg_name (i := 1) nd rfl (Or.inl rfl)) (fun _ _ _ _ _ => pts_nil) (fun _ _ _ _ _ => pe_chain op_le_str op_le_str pe_str (pv 1) pe_str)) pa_nil)))), ?_⟩
    refine ⟨_, rfl, _, _, _, _, _, rfl, .ty _, .base (.str n), kit_ty (r := true) (by decide +kernel), _, rfl, iteF ?_⟩
    refine ⟨_, rfl, n, rfl, hsz, _, _, rfl, rfl, _, rfl, ?_⟩
    rw [decide_eq_true (show (1 : Int) ≤ (n.length : Int) by omega)]
    refine iteT ⟨_, _, rfl, rfl, _, rfl, ?_⟩
    rw [decide_eq_true (show (n.length : Int) ≤ 6 by omega)]
    refine iteF ?_
    refine ⟨_, rfl, n, rfl, fun D hD => ?_⟩
    refine lc_it walk_str (fun i H' => H' D = some (.lst (List.replicate i (V.bl true))) ∧ Same H H') ⟨upd_same, same_upd hD⟩ (fun _ _ _ _ => True.intro) (fun i x H2 H3 hi ⟨eD, s'⟩ hy => ?_) (fun H2 ⟨eD, s'⟩ => ?_)
    · obtain ⟨rfl, c, hc, rfl⟩ := hy
      have hm : c ∈ n.cps.toList := by
        rw [← Array.getElem?_toList] at hc
        exact List.mem_of_getElem? hc
      obtain ⟨c1, c2⟩ := nc c hm
      refine ⟨rfl, yes_ ?_⟩
      refine ⟨_, rfl, _, _, rfl, rfl, _, rfl, ?_⟩
      have e1 : (!decide ((⟨#[c]⟩ : Str).cps.toList < ("a" : Str).cps.toList)) = true := by
        show (!decide ([c] < [97])) = true
        simp [List.cons_lt_cons_iff]
        omega
      have e2 : (!decide (("z" : Str).cps.toList < (⟨#[c]⟩ : Str).cps.toList)) = true := by
        show (!decide ([122] < [c])) = true
        simp [List.cons_lt_cons_iff]
        omega
      rw [e1]
      refine iteT ⟨_, _, rfl, rfl, ?_⟩
      rw [e2]
      refine ⟨_, eD, ?_, ?_, same_put s' hD⟩
      · rw [List.length_replicate]
        have : n.cps.size = n.length := rfl
        exact small1000 (by omega)
      · rw [upd_same, List.replicate_succ']
    · refine ⟨D, List.replicate _ true, rfl, SqL.of (by rw [map_rep]; exact eD), ?_⟩
      rw [all_true]
      exact q _ s'
def spAreNames (K : PySem.W.Frag) : Sp := fun vs H Q _ => ∃ (a : Addr) (l : List Str), vs = [.ref a] ∧ SqT K H a (l.map V.str) ∧ 1 ≤ l.length ∧ l.length ≤ 6 ∧ (∀ n ∈ l, GoodName n) ∧ l.Pairwise (fun a b => sLt a b = true) ∧ ∀ H', Same H H' → Q (.bl true) H'
theorem c_are_names (T : Tx K mg) : Cl P w K mg base CX0 2 "are_names" (spAreNames K) := by
  refine cl0 T.d_are_names (ps := ["value"]) (fun _ _ _ _ _ _ us hl => match us, hl with | [_], _ => rfl) sc_are_names (fun vs H Q E h => ?_) (fun f cdv A outer st H vs Q E hr h => ?_)
  · obtain ⟨a, l, rfl, _⟩ := h
    rfl
  · obtain ⟨a, l, rfl, hS, l1, l6, hg, hP, q⟩ := h
    have nd := sc_are_names.nd
    obtain ⟨tk, hMN⟩ := T.g_MOST_NAMES
    refine ⟨_, pss_cons (ps_if (PW.pt (pw_or (pt_not (pt_val (pe_isT "tuple" (by rfl) T.b_isinstance (by rfl) T.b_tuple (by decide +kernel) (pv 0)))) (pw_or1 (pt_not (pt_chain op_le op_le pe_int (pe_lenS (by rfl) T.b_len (pv 0)) (pe_glob (v := .int 6) (by rfl) hMN ⟨_, rfl⟩)))))) pss_never pss_nil)
      (pss_one (ps_ret (pe_and (pe_callB (cr_all rfl) (by rfl) T.b_all (by decide +kernel) (pa_cons (pe_lc (own := [("item", 1)]) (g := gName 1) (tt := tYes) (by rfl) nd (pi_tup (pv 0))
        (blkOk_by (own := [("item", 1)]) (N := ["value", "item"]) (sc := defScope s_are_names) (by decide +kernel)) (fun _ _ _ _ _ => pg_name (i := 1) nd rfl (Or.inl rfl)) (fun _ _ _ _ _ => pts_nil) (fun _ _ _ _ _ => pe_k (c_is_name T) hr (by decide) (by rfl) (pa_cons (pv 1) pa_nil))) pa_nil))
        (pe_one (pe_k (c_is_ascending T) hr (by decide) (by rfl) (pa_cons (pv 0) pa_nil)))))), ?_⟩
    refine ⟨_, rfl, _, _, _, _, _, rfl, .ty _, tyx_tup hS, kit_ty (r := true) (by decide +kernel), _, rfl, iteF ?_⟩
    refine ⟨_, rfl, a, _, rfl, .inr hS, _, _, rfl, rfl, _, rfl, ?_⟩
    rw [List.length_map, decide_eq_true (show (1 : Int) ≤ (l.length : Int) by omega)]
    refine iteT ⟨_, _, rfl, rfl, _, rfl, ?_⟩
    rw [decide_eq_true (show (l.length : Int) ≤ 6 by omega)]
    refine iteF ?_
    refine ⟨_, rfl, a, rfl, ⟨_, hS⟩, fun D hD => ?_⟩
    refine lc_it (walk_tup (xs := l.map V.str)) (fun i H' => H' D = some (.lst (List.replicate i (V.bl true))) ∧ Same H H') ⟨upd_same, same_upd hD⟩ (fun _ _ _ ⟨_, s'⟩ => (Tk.of s').sqT hS) (fun i x H2 H3 hi ⟨eD, s'⟩ hy => ?_) (fun H2 ⟨eD, s'⟩ => ?_)
    · obtain ⟨rfl, hx⟩ := hy
      obtain ⟨n, hn, rfl⟩ := str_at hx
      refine ⟨rfl, yes_ ?_⟩
      refine ⟨_, rfl, n, rfl, hg n (List.mem_of_getElem? hn), fun H4 s4 => ⟨_, s4 _ _ eD, ?_, ?_, same_put (s'.trans s4) hD⟩⟩
      · rw [List.length_map] at hi
        rw [List.length_replicate]
        exact small1000 (by omega)
      · rw [upd_same, List.replicate_succ']
    · refine ⟨D, List.replicate _ true, rfl, SqL.of (by rw [map_rep]; exact eD), _, rfl, ?_⟩
      rw [all_true]
      refine iteT ?_
      refine ⟨_, rfl, .inl ⟨a, l, rfl, (Tk.of s').sqT hS, by omega, hP, fun H4 s4 => q _ (s'.trans s4)⟩⟩
def spIsPairOf (K : PySem.W.Frag) : Sp := fun vs H Q _ => ∃ (n v : Addr) (l : List Str) (a b : Str), vs = [.ref n, .ref v] ∧ SqT K H n (l.map V.str) ∧ SqT K H v [.str a, .str b] ∧ a ∈ l ∧ b ∈ l ∧ sLt a b = true ∧ Q (.bl true) H
theorem c_is_pair_of (T : Tx K mg) : Cl P w K mg base CX0 2 "is_pair_of" (spIsPairOf K) := by
  refine cl0 T.d_is_pair_of (ps := ["names", "value"]) (fun _ _ _ _ _ _ us hl => match us, hl with | [_, _], _ => rfl) sc_is_pair_of (fun vs H Q E h => ?_) (fun f cdv A outer st H vs Q E hr h => ?_)
  · obtain ⟨n, v, l, a, b, rfl, _⟩ := h
    rfl
  · obtain ⟨n, v, l, a, b, rfl, hN, hV, ha, hb, lt, q⟩ := h
    have nd := sc_is_pair_of.nd
    refine ⟨_, pss_cons (ps_if (pt_not (pt_val (pe_k (c_is_pair T) hr (by decide) (by rfl) (pa_cons (pv 1) pa_nil)))) pss_never pss_nil)
      (pss_cons (ps_asg (pv 1) (pg_tup rfl (pgs_cons (pg_name (i := 2) nd rfl (.inl rfl)) (pgs_cons (pg_name (i := 3) nd rfl (.inl rfl)) pgs_nil))))
      (pss_one (ps_ret (pe_and (pe_cmpR op_in_seq (pv 2) (pv 0) (by rfl)) (pe_and (pe_cmpR op_in_seq (pv 3) (pv 0) (by rfl)) (pe_one (pe_cmpR op_lt_str (pv 2) (pv 3) (nomark _)))))))), ?_⟩
    refine ⟨_, rfl, v, _, rfl, hV, _, rfl, iteF ?_⟩
    refine ⟨_, rfl, v, _, rfl, hV, rfl, _, _, rfl, _, _, rfl, rfl, ?_⟩
    refine ⟨_, rfl, _, rfl, n, _, rfl, .inr hN, rfl, flat_strs l, _, rfl, ?_⟩
    rw [if_neg Bool.false_ne_true, inV_strs, show l.contains a = true by simpa using ha]
    refine iteT ⟨_, rfl, _, rfl, n, _, rfl, .inr hN, rfl, flat_strs l, _, rfl, ?_⟩
    rw [if_neg Bool.false_ne_true, inV_strs, show l.contains b = true by simpa using hb]
    refine iteT ⟨_, rfl, _, rfl, _, _, rfl, rfl, ?_⟩
    have e : decide (a.cps.toList < b.cps.toList) = true := lt
    rw [e]
    exact q
def spArePairs (K : PySem.W.Frag) : Sp := fun vs H Q _ => ∃ (n v : Addr) (ps : List V) (F : Fld), vs = [.ref n, .ref v] ∧ SqT K H n (F.names.map V.str) ∧ SqT K H v ps ∧ DpAll K H ps (F.pairs.map dPair) ∧ F.Ok ∧ ∀ H', Same H H' → Q (.bl true) H'
theorem c_are_pairs (T : Tx K mg) : Cl P w K mg base CX0 3 "are_pairs" (spArePairs K) := by
  refine cl0 T.d_are_pairs (ps := ["names", "value"]) (fun _ _ _ _ _ _ us hl => match us, hl with | [_, _], _ => rfl) sc_are_pairs (fun vs H Q E h => ?_) (fun f cdv A outer st H vs Q E hr h => ?_)
  · obtain ⟨n, v, ps, F, rfl, _⟩ := h
    rfl
  · obtain ⟨n, v, ps, F, rfl, hN, hV, hD, ok, q⟩ := h
    have nd := sc_are_pairs.nd
    have hl := hD.len
    rw [List.length_map] at hl
    have hl2 := ok.len
    refine ⟨_, pss_cons (ps_if (pt_not (pt_val (pe_isT "tuple" (by rfl) T.b_isinstance (by rfl) T.b_tuple (by decide +kernel) (pv 1)))) pss_never pss_nil)
      (pss_one (ps_ret (pe_and (pe_callB (cr_all rfl) (by rfl) T.b_all (by decide +kernel) (pa_cons (pe_lc (own := [("item", 2)]) (g := gName 2) (tt := tYes) (by rfl) nd (pi_tup (pv 1))
        (blkOk_by (own := [("item", 2)]) (N := ["names", "value", "item"]) (sc := defScope s_are_pairs) (by decide +kernel)) (fun _ _ _ _ _ => pg_name (i := 2) nd rfl (Or.inl rfl)) (fun _ _ _ _ _ => pts_nil) (fun _ _ _ _ _ => pe_k (c_is_pair_of T) hr (by decide) (by rfl) (pa_cons (pv 0) (pa_cons (pv 2) pa_nil)))) pa_nil))
        (pe_one (pe_k (c_is_ascending T) hr (by decide) (by rfl) (pa_cons (pv 1) pa_nil)))))), ?_⟩
    refine ⟨_, rfl, _, _, _, _, _, rfl, .ty _, tyx_tup hV, kit_ty (r := true) (by decide +kernel), _, rfl, iteF ?_⟩
    refine ⟨_, rfl, v, rfl, ⟨_, hV⟩, fun D hD' => ?_⟩
    refine lc_it (walk_tup (xs := ps)) (fun i H' => H' D = some (.lst (List.replicate i (V.bl true))) ∧ Same H H') ⟨upd_same, same_upd hD'⟩ (fun _ _ _ ⟨_, s'⟩ => (Tk.of s').sqT hV) (fun i x H2 H3 hi ⟨eD, s'⟩ hy => ?_) (fun H2 ⟨eD, s'⟩ => ?_)
    · obtain ⟨rfl, hx⟩ := hy
      obtain ⟨d, g1, p1⟩ := hD.get hx
      rw [List.getElem?_map] at g1
      obtain ⟨y, k1, rfl⟩ := Option.map_eq_some_iff.mp g1
      obtain ⟨b, rfl, cb⟩ := p1.pair
      have my := List.mem_of_getElem? k1
      refine ⟨rfl, yes_ ?_⟩
      refine ⟨_, rfl, _, rfl, n, b, F.names, y.1, y.2, rfl, (Tk.of s').sqT hN, (Tk.of s').sqT cb, (ok.inN y my).1, (ok.inN y my).2, ok.asc y my, _, eD, ?_, ?_, same_put s' hD'⟩
      · rw [List.length_replicate]
        exact small1000 (by omega)
      · rw [upd_same, List.replicate_succ']
    · refine ⟨D, List.replicate _ true, rfl, SqL.of (by rw [map_rep]; exact eD), _, rfl, ?_⟩
      rw [all_true]
      refine iteT ?_
      refine ⟨_, rfl, .inr ⟨v, ps, F.pairs, rfl, (Tk.of s').sqT hV, DpAll.tk (Tk.of s') _ (flatAll_of fun d hd => ?_) hD, by omega, ok.asP, fun H4 s4 => q _ (s'.trans s4)⟩⟩
      obtain ⟨y, _, rfl⟩ := List.mem_map.mp hd
      rfl
def spNeedField (K : PySem.W.Frag) : Sp := fun vs H Q _ => ∃ (a : Addr) (F : Fld), vs = [.ref a] ∧ Dp K H (.ref a) (dField F) ∧ F.Ok ∧ ∀ H', Same H H' → Q (.ref a) H'
theorem c_need_field (T : Tx K mg) : Cl P w K mg base CX0 4 "need_field" (spNeedField K) := by
  refine cl0 T.d_need_field (ps := ["field"]) (fun _ _ _ _ _ _ us hl => match us, hl with | [_], _ => rfl) sc_need_field (fun vs H Q E h => ?_) (fun f cdv A outer st H vs Q E hr h => ?_)
  · obtain ⟨a, F, rfl, _⟩ := h
    rfl
  · obtain ⟨a, F, rfl, hF, ok, q⟩ := h
    have nd := sc_need_field.nd
    obtain ⟨_, n, p, ps, e, hA, hN, hP, hD⟩ := hF.field
    cases e
    refine ⟨_, pss_cons (ps_if (pt_not (pt_val (pe_k (c_is_pair T) hr (by decide) (by rfl) (pa_cons (pv 0) pa_nil)))) pss_never pss_nil)
      (pss_cons (ps_asg (pv 0) (pg_tup rfl (pgs_cons (pg_name (i := 1) nd rfl (.inl rfl)) (pgs_cons (pg_name (i := 2) nd rfl (.inl rfl)) pgs_nil))))
      (pss_cons (ps_if (pt_not (pt_val (pe_k (c_are_names T) hr (by decide) (by rfl) (pa_cons (pv 1) pa_nil)))) pss_never pss_nil)
      (pss_cons (ps_if (pt_not (pt_val (pe_k (c_are_pairs T) hr (by decide) (by rfl) (pa_cons (pv 1) (pa_cons (pv 2) pa_nil))))) pss_never pss_nil)
      (pss_one (ps_ret (pv 0)))))), ?_⟩
    refine ⟨_, rfl, a, _, rfl, hA, _, rfl, iteF ?_⟩
    refine ⟨_, rfl, a, _, rfl, hA, rfl, _, _, rfl, _, _, rfl, rfl, ?_⟩
    refine ⟨_, rfl, n, F.names, rfl, hN, ok.n0, ok.n6, ok.sgn, ok.asN, fun H1 s1 => ⟨_, rfl, iteF ?_⟩⟩
    refine ⟨_, rfl, _, rfl, n, p, ps, F, rfl, (Tk.of s1).sqT hN, (Tk.of s1).sqT hP, DpAll.tk (Tk.of s1) _ (flatAll_of fun d hd => ?_) hD, ok, fun H2 s2 => ⟨_, rfl, iteF ?_⟩⟩
    · obtain ⟨y, _, rfl⟩ := List.mem_map.mp hd
      rfl
    · exact ⟨_, rfl, q _ (s1.trans s2)⟩
end
end XB
set_option linter.all false
namespace XM
section
variable {α : Type} [DecidableEq α] {O : Ord α}
/-- the place of the last that touches (from the last piece on), or -1 -/
def lastIx (p : α → Bool) : Row α → Int
  | [] => -1
  | y :: r => if p y.1 then (r.length : Int) else lastIx p r
/-- a row cut where the last one touches -/
theorem last_cut {p : α → Bool} : ∀ r : Row α, (lastIx p r = -1 ∧ ∀ y ∈ r, p y.1 = false) ∨ ∃ v z r0, r = v ++ z :: r0 ∧ lastIx p r = (r0.length : Int) ∧ p z.1 = true ∧ ∀ y ∈ v, p y.1 = false
  | [] => .inl ⟨rfl, fun _ h => nomatch h⟩
  | y :: r => by
    cases h : p y.1
    · have e : lastIx p (y :: r) = lastIx p r := by
        unfold lastIx
        rw [if_neg (by rw [h]; decide)]
        cases r <;> rfl
      rcases last_cut (p := p) r with ⟨h1, h2⟩ | ⟨v, z, r0, rfl, h2, h3, h4⟩
      · exact .inl ⟨by rw [e, h1], fun w hw => (List.mem_cons.mp hw).elim (fun q => q ▸ h) (h2 w)⟩
      · exact .inr ⟨y :: v, z, r0, rfl, by rw [e, h2], h3, fun w hw => (List.mem_cons.mp hw).elim (fun q => q ▸ h) (h4 w)⟩
    · refine .inr ⟨[], y, r, rfl, ?_, h, fun _ h => nomatch h⟩
      unfold lastIx
      rw [if_pos h]
/-- how many stand at the begin that are less -/
def lead (O : Ord α) (a : α) : Row α → Nat
  | [] => 0
  | y :: r => if O.lt y.1 a then lead O a r + 1 else 0
theorem lead_le {a : α} : ∀ w : Row α, lead O a w ≤ w.length
  | [] => Nat.le_refl _
  | y :: r => by
    have := lead_le (a := a) r
    unfold lead
    split <;> simp <;> omega
theorem lead_snoc {a : α} {y : α × Int} : ∀ {w : Row α}, lead O a (w ++ [y]) = if lead O a w = w.length then (if O.lt y.1 a then w.length + 1 else w.length) else lead O a w
  | [] => by
    show (if O.lt y.1 a then 0 + 1 else 0) = _
    rw [if_pos (show lead O a [] = ([] : Row α).length from rfl)]
    rfl
  | z :: w => by
    have ih := lead_snoc (a := a) (y := y) (w := w)
    have hle := lead_le (O := O) (a := a) w
    show (if O.lt z.1 a then lead O a (w ++ [y]) + 1 else 0) = if (if O.lt z.1 a then lead O a w + 1 else 0) = (z :: w).length then _ else (if O.lt z.1 a then lead O a w + 1 else 0)
    cases h : O.lt z.1 a
    · have n : ¬ (0 = (z :: w).length) := by simp
      have q : ∀ {c d : Nat}, (if false = true then c else d) = d := fun {_ _} => rfl
      rw [q, q, if_neg n]
    · have q : ∀ {c d : Nat}, (if true = true then c else d) = c := fun {_ _} => rfl
      rw [q, q, ih, List.length_cons]
      by_cases e : lead O a w = w.length
      · rw [if_pos e, if_pos (congrArg (· + 1) e)]
        cases O.lt y.1 a <;> rfl
      · rw [if_neg e, if_neg (fun q => e (Nat.succ.inj q))]
theorem lead_all {a : α} : ∀ {w : Row α}, lead O a w = w.length ↔ ∀ y ∈ w, O.lt y.1 a = true
  | [] => by
    constructor
    · intro _ y h
      cases h
    · intro _
      rfl
  | y :: w => by
    have ih := lead_all (a := a) (w := w)
    show (if O.lt y.1 a then lead O a w + 1 else 0) = w.length + 1 ↔ _
    cases h : O.lt y.1 a
    · rw [if_neg (by decide)]
      constructor
      · intro q
        omega
      · intro q
        rw [q y List.mem_cons_self] at h
        cases h
    · rw [if_pos rfl]
      constructor
      · intro q z hz
        rcases List.mem_cons.mp hz with rfl | hz
        · exact h
        · exact ih.mp (by omega) z hz
      · intro q
        have := ih.mpr fun z hz => q z (List.mem_cons_of_mem _ hz)
        omega
/-- put among those that it may pass, ahead of the first greater one -/
def among (O : Ord α) (x : α × Int) (w : Row α) : Row α := w.take (lead O x.1 w) ++ x :: w.drop (lead O x.1 w)
theorem ins_among {x : α × Int} {r0 : Row α} (h0 : top O x.1 r0 = true) : ∀ {v : Row α}, (∀ y ∈ v, O.tc y.1 x.1 = false) → ins O x (v ++ r0) = (among O x v.reverse).reverse ++ r0 ∧ (top O x.1 (v ++ r0) = true ↔ ∀ y ∈ v, O.lt y.1 x.1 = true)
  | [], _ => ⟨by rw [List.nil_append, ins_top h0]; rfl, Iff.intro (fun _ _ h => (by cases h)) (fun _ => h0)⟩
  | y :: v, h => by
    have hy := h y List.mem_cons_self
    obtain ⟨i1, i2⟩ := ins_among h0 (v := v) fun z hz => h z (List.mem_cons_of_mem _ hz)
    have ht : top O x.1 (y :: v ++ r0) = (O.lt y.1 x.1 && top O x.1 (v ++ r0)) := top_apart hy
    have e2 : top O x.1 (y :: v ++ r0) = true ↔ ∀ z ∈ y :: v, O.lt z.1 x.1 = true := by
      rw [ht, Bool.and_eq_true, i2]
      constructor
      · rintro ⟨q1, q2⟩ z hz
        rcases List.mem_cons.mp hz with rfl | hz
        · exact q1
        · exact q2 z hz
      · exact fun q => ⟨q y List.mem_cons_self, fun z hz => q z (List.mem_cons_of_mem _ hz)⟩
    refine ⟨?_, e2⟩
    show ins O x (y :: (v ++ r0)) = _
    rw [ins_apart hy, i1, List.reverse_cons]
    have hl : lead O x.1 v.reverse = v.reverse.length ↔ top O x.1 (v ++ r0) = true := by
      rw [lead_all, i2]
      simp
    have hle := lead_le (O := O) (a := x.1) v.reverse
    unfold among
    rw [lead_snoc]
    cases hA : O.lt y.1 x.1 && top O x.1 (v ++ r0)
    · rw [if_neg (by decide)]
      have hk : (if lead O x.1 v.reverse = v.reverse.length then (if O.lt y.1 x.1 then v.reverse.length + 1 else v.reverse.length) else lead O x.1 v.reverse) = lead O x.1 v.reverse := by
        by_cases e : lead O x.1 v.reverse = v.reverse.length
        · rw [hl.mp e, Bool.and_true] at hA
          rw [if_pos e, hA, if_neg (by decide), e]
        · rw [if_neg e]
      rw [hk, List.take_append_of_le_length hle, List.drop_append_of_le_length hle]
      simp
    · obtain ⟨a1, a2⟩ := Bool.and_eq_true_iff.mp hA
      rw [if_pos rfl, if_pos (hl.mpr a2), if_pos a1]
      have e : v.reverse.length + 1 = (v.reverse ++ [y]).length := by simp
      rw [e, List.take_length, List.drop_length]
      simp
theorem ins_merge {a : α} {s t : Int} {r0 : Row α} : ∀ {v : Row α}, (∀ y ∈ v, O.tc y.1 a = false) → ins O (a, t) (v ++ (a, s) :: r0) = v ++ (if s + t = 0 then r0 else (a, s + t) :: r0) ∧ top O a (v ++ (a, s) :: r0) = false
  | [], _ => ⟨ins_same, top_same⟩
  | y :: v, h => by
    have hy := h y List.mem_cons_self
    obtain ⟨i1, i2⟩ := ins_merge (s := s) (t := t) (r0 := r0) (v := v) fun z hz => h z (List.mem_cons_of_mem _ hz)
    have ht : top O a (y :: v ++ (a, s) :: r0) = (O.lt y.1 a && top O a (v ++ (a, s) :: r0)) := top_apart hy
    refine ⟨?_, by rw [ht, i2, Bool.and_false]⟩
    show ins O (a, t) (y :: (v ++ (a, s) :: r0)) = _
    rw [ins_apart (x := (a, t)) hy, i2, Bool.and_false, if_neg (by decide), i1]
    rfl
/-- what the program does with a step, told by places of the row in its own order -/
theorem ins_code {l : Row α} {x : α × Int} {k : Int} (hk : lastIx (fun b => O.tc b x.1) l.reverse = k) :
    (k = -1 ∧ ins O x l.reverse = (among O x l).reverse) ∨
    ∃ (i : Nat) (z : α × Int), k = (i : Int) ∧ l[i]? = some z ∧
      ((z.1 ≠ x.1 ∧ ins O x l.reverse = (l.take (i + 1) ++ among O x (l.drop (i + 1))).reverse) ∨
       (z.1 = x.1 ∧ z.2 + x.2 ≠ 0 ∧ ins O x l.reverse = (l.set i (x.1, z.2 + x.2)).reverse) ∨
       (z.1 = x.1 ∧ z.2 + x.2 = 0 ∧ ins O x l.reverse = (l.eraseIdx i).reverse)) := by
  rcases last_cut (p := fun b => O.tc b x.1) l.reverse with ⟨h1, h2⟩ | ⟨v, z, r0, e, h2, h3, h4⟩
  · refine .inl ⟨by rw [← hk, h1], ?_⟩
    have := (ins_among (O := O) (x := x) (r0 := []) rfl (v := l.reverse) h2).1
    rw [List.append_nil, List.append_nil, List.reverse_reverse] at this
    exact this
  · right
    have el : l = r0.reverse ++ z :: v.reverse := by
      have := congrArg List.reverse e
      simpa using this
    have hi : l[r0.length]? = some z := by
      rw [el, List.getElem?_append_right (by simp)]
      simp
    refine ⟨r0.length, z, by rw [← hk, h2], hi, ?_⟩
    by_cases hz : z.1 = x.1
    · obtain ⟨z1, z2⟩ := z
      obtain ⟨x1, x2⟩ := x
      have hz : z1 = x1 := hz
      subst hz
      have m := (ins_merge (O := O) (a := z1) (s := z2) (t := x2) (r0 := r0) h4).1
      right
      by_cases h0 : z2 + x2 = 0
      · right
        refine ⟨rfl, h0, ?_⟩
        rw [e, m, if_pos h0, el]
        rw [List.eraseIdx_append_of_length_le (by simp)]
        simp
      · left
        refine ⟨rfl, h0, ?_⟩
        rw [e, m, if_neg h0, el]
        rw [List.set_append_right _ _ (by simp)]
        simp
    · left
      refine ⟨hz, ?_⟩
      have hc : O.tc z.1 x.1 = true := h3
      have m := (ins_among (O := O) (x := x) (r0 := z :: r0) (top_touch hc hz) h4).1
      rw [e, m]
      have t1 : l.take (r0.length + 1) = r0.reverse ++ [z] := by
        rw [el, List.take_append, List.length_reverse, Nat.add_sub_cancel_left, List.take_of_length_le (by simp)]
        rfl
      have t2 : l.drop (r0.length + 1) = v.reverse := by
        rw [el, List.drop_append, List.length_reverse, Nat.add_sub_cancel_left, List.drop_of_length_le (by simp)]
        rfl
      rw [t1, t2]
      simp
end
end XM
set_option Elab.async false
set_option linter.all false
set_option maxRecDepth 100000
set_option maxHeartbeats 4000000
namespace XB
open PySem PySem.Spec PyProof.Rows L2
theorem u65 {k : Nat} {A : Around} (r : Room k A) : A.units + 65 < cLine := by
  have := r.un
  omega
section
variable {X : Cx}
theorem op_inDTk {K : PySem.W.Frag} (hk : X.K = K) (hu : X.A.units + 65 < cLine) : OpR X (compareOp .In) (fun x y H Q => ∃ d ds, Dp K H x d ∧ Dp K H y (.tuple ds) ∧ SeqAt.shaped d = true ∧ SeqAt.shaped (.tuple ds) = true ∧ Q (.bl (ds.any fun z => PyData.eqv z d)) H) := by
  subst hk
  intro pins s σ H x y v u Q I rx ry h
  obtain ⟨d, ds, hd, he, sd, se, q⟩ := h
  obtain ⟨as, r1⟩ := Dp.reads I d x v hd rx
  obtain ⟨bs, r2⟩ := Dp.reads I (.tuple ds) y u he ry
  exact SeqAt.in_tuple_reads r2 r1 (SeqAt.canLay_of_shaped se) (SeqAt.canLay_of_shaped sd) (room_in_shaped sd hu) ⟨.bl _, H, I, rfl, q⟩
end
section
variable {P : Program} {w : World} {K : PySem.W.Frag} {mg : Str → Option Value} {base : Heap}
def spIsWhole : Sp := fun vs H Q _ => ∃ z : Int, vs = [.int z] ∧ Q (.bl true) H
theorem c_is_whole (T : Tx K mg) : Cl P w K mg base CX0 1 "is_whole" spIsWhole := by
  refine cl0 T.d_is_whole (ps := ["value"]) (fun _ _ _ _ _ _ us hl => match us, hl with | [_], _ => rfl) sc_is_whole (fun vs H Q E h => ?_) (fun f cdv A outer st H vs Q E hr h => ?_)
  · obtain ⟨z, rfl, _⟩ := h
    rfl
  · obtain ⟨z, rfl, q⟩ := h
    refine ⟨_, pss_one (ps_ret (pe_and (pe_isT "int" (by rfl) T.b_isinstance (by rfl) T.b_int (by decide +kernel) (pv 0)) (pe_one (pe_not (pe_isT "bool" (by rfl) T.b_isinstance (by rfl) T.b_bool (by decide +kernel) (pv 0)))))), ?_⟩
    refine ⟨_, rfl, _, _, _, _, _, rfl, .ty _, .base (.int z), kit_ty (r := true) (by decide +kernel), _, rfl, iteT ?_⟩
    refine ⟨_, rfl, _, _, _, _, _, rfl, .ty _, .base (.int z), kit_ty (r := false) (by decide +kernel), _, rfl, q⟩
def GoodTimes (t : Int) : Prop := t ≠ 0 ∧ -(10 ^ 30) ≤ t ∧ t ≤ 10 ^ 30
def spIsGreat (K : PySem.W.Frag) : Sp := fun vs H Q _ => ∃ (n v : Addr) (l : List Str) (s : Str × Int), vs = [.ref n, .ref v] ∧ SqT K H n (l.map V.str) ∧ SqT K H v [.str s.1, .int s.2] ∧ s.1 ∈ l ∧ s.2 ≠ 0 ∧ Q (.bl true) H
theorem c_is_great_step (T : Tx K mg) : Cl P w K mg base CX0 2 "is_great_step" (spIsGreat K) := by
  refine cl0 T.d_is_great_step (ps := ["names", "value"]) (fun _ _ _ _ _ _ us hl => match us, hl with | [_, _], _ => rfl) sc_is_great_step (fun vs H Q E h => ?_) (fun f cdv A outer st H vs Q E hr h => ?_)
  · obtain ⟨n, v, l, s, rfl, _⟩ := h
    rfl
  · obtain ⟨n, v, l, s, rfl, hN, hV, ha, t0, q⟩ := h
    have nd := sc_is_great_step.nd
    refine ⟨_, pss_cons (ps_if (pt_not (pt_val (pe_k (c_is_pair T) hr (by decide) (by rfl) (pa_cons (pv 1) pa_nil)))) pss_never pss_nil)
      (pss_cons (ps_asg (pv 1) (pg_tup rfl (pgs_cons (pg_name (i := 2) nd rfl (.inl rfl)) (pgs_cons (pg_name (i := 3) nd rfl (.inl rfl)) pgs_nil))))
      (pss_one (ps_ret (pe_and (pe_cmpR op_in_seq (pv 2) (pv 0) (by rfl)) (pe_and (pe_k (c_is_whole T) hr (by decide) (by rfl) (pa_cons (pv 3) pa_nil)) (pe_one (pe_cmpR op_ne (pv 3) pe_int (nomark _)))))))), ?_⟩
    refine ⟨_, rfl, v, _, rfl, hV, _, rfl, iteF ?_⟩
    refine ⟨_, rfl, v, _, rfl, hV, rfl, _, _, rfl, _, _, rfl, rfl, ?_⟩
    refine ⟨_, rfl, _, rfl, n, _, rfl, .inr hN, rfl, flat_strs l, _, rfl, ?_⟩
    rw [if_neg Bool.false_ne_true, inV_strs, show l.contains s.1 = true by simpa using ha]
    refine iteT ⟨_, rfl, _, rfl, _, rfl, iteT ?_⟩
    refine ⟨_, rfl, rfl, ?_⟩
    have e : (!decide (V.int s.2 = V.int 0)) = true := by
      rw [dec_int]
      simp [t0]
    rw [e]
    exact q
def spIsTimes : Sp := fun vs H Q _ => ∃ z : Int, vs = [.int z] ∧ GoodTimes z ∧ Q (.bl true) H
theorem c_is_times (T : Tx K mg) : Cl P w K mg base CX0 2 "is_times" spIsTimes := by
  refine cl0 T.d_is_times (ps := ["value"]) (fun _ _ _ _ _ _ us hl => match us, hl with | [_], _ => rfl) sc_is_times (fun vs H Q E h => ?_) (fun f cdv A outer st H vs Q E hr h => ?_)
  · obtain ⟨z, rfl, _⟩ := h
    rfl
  · obtain ⟨z, rfl, ⟨t0, t1, t2⟩, q⟩ := h
    obtain ⟨tk, hMT⟩ := T.g_MOST_TIMES
    refine ⟨_, pss_one (ps_ret (pe_and (pe_k (c_is_whole T) hr (by decide) (by rfl) (pa_cons (pv 0) pa_nil)) (pe_and (pe_cmpR op_ne (pv 0) pe_int (nomark _))
        (pe_one (pe_cmpR op_le (pe_callB call_abs (by rfl) T.b_abs (by decide +kernel) (pa_cons (pv 0) pa_nil)) (pe_glob (v := .int (10 ^ 30)) (by rfl) hMT ⟨_, rfl⟩) (nomark _)))))), ?_⟩
    refine ⟨_, rfl, _, rfl, _, rfl, iteT ?_⟩
    refine ⟨_, rfl, rfl, _, rfl, ?_⟩
    have e : (!decide (V.int z = V.int 0)) = true := by
      rw [dec_int]
      simp [t0]
    rw [e]
    refine iteT ⟨_, rfl, _, rfl, _, _, rfl, rfl, ?_⟩
    have e2 : decide ((if z < 0 then -z else z) ≤ 10 ^ 30) = true := by
      refine decide_eq_true ?_
      split <;> omega
    show Q (.bl (decide ((if z < 0 then -z else z) ≤ 10 ^ 30))) H
    rw [e2]
    exact q
def spIsStep (K : PySem.W.Frag) : Sp := fun vs H Q _ => ∃ (n v : Addr) (l : List Str) (s : Str × Int), vs = [.ref n, .ref v] ∧ SqT K H n (l.map V.str) ∧ SqT K H v [.str s.1, .int s.2] ∧ s.1 ∈ l ∧ GoodTimes s.2 ∧ Q (.bl true) H
theorem c_is_step (T : Tx K mg) : Cl P w K mg base CX0 3 "is_step" (spIsStep K) := by
  refine cl0 T.d_is_step (ps := ["names", "value"]) (fun _ _ _ _ _ _ us hl => match us, hl with | [_, _], _ => rfl) sc_is_step (fun vs H Q E h => ?_) (fun f cdv A outer st H vs Q E hr h => ?_)
  · obtain ⟨n, v, l, s, rfl, _⟩ := h
    rfl
  · obtain ⟨n, v, l, s, rfl, hN, hV, ha, gt, q⟩ := h
    refine ⟨_, pss_one (ps_ret (pe_and (pe_k (c_is_great_step T) hr (by decide) (by rfl) (pa_cons (pv 0) (pa_cons (pv 1) pa_nil)))
        (pe_one (pe_k (c_is_times T) hr (by decide) (by rfl) (pa_cons (pe_ix (ixk_tup (K := K) rfl) (pv 1) pe_int (fun _ _ => rfl)) pa_nil))))), ?_⟩
    refine ⟨_, rfl, _, rfl, n, v, l, s, rfl, hN, hV, ha, gt.1, _, rfl, iteT ?_⟩
    exact ⟨_, rfl, v, _, _, _, rfl, rfl, hV, rfl, _, rfl, gt, q⟩
def GoodScript (F : Fld) (l : List (Str × Int)) : Prop := l.length ≤ 60 ∧ ∀ s ∈ l, s.1 ∈ F.names ∧ GoodTimes s.2
def spNeedScript (K : PySem.W.Frag) : Sp := fun vs H Q _ => ∃ (a d : Addr) (F : Fld) (l : List (Str × Int)), vs = [.ref a, .ref d] ∧ Dp K H (.ref a) (dField F) ∧ F.Ok ∧ Dp K H (.ref d) (dSteps l) ∧ GoodScript F l ∧ ∀ H', Same H H' → Q (.ref d) H'
theorem c_need_script (T : Tx K mg) : Cl P w K mg base CX0 5 "need_script" (spNeedScript K) := by
  refine cl0 T.d_need_script (ps := ["field", "deeds"]) (fun _ _ _ _ _ _ us hl => match us, hl with | [_, _], _ => rfl) sc_need_script (fun vs H Q E h => ?_) (fun f cdv A outer st H vs Q E hr h => ?_)
  · obtain ⟨a, d, F, l, rfl, _⟩ := h
    rfl
  · obtain ⟨a, d, F, l, rfl, hF, ok, hL, ⟨l60, hg⟩, q⟩ := h
    have nd := sc_need_script.nd
    obtain ⟨tk, hMS⟩ := T.g_MOST_STEPS
    refine ⟨_, pss_cons (ps_asg (pe_k (c_need_field T) hr (by decide) (by rfl) (pa_cons (pv 0) pa_nil)) (pg_tup rfl (pgs_cons (pg_name (i := 2) nd rfl (.inl rfl)) (pgs_cons (pg_name (i := 3) nd rfl (.inl rfl)) pgs_nil))))
      (pss_cons (ps_if (PW.pt (pw_or (pt_not (pt_val (pe_isT "tuple" (by rfl) T.b_isinstance (by rfl) T.b_tuple (by decide +kernel) (pv 1)))) (pw_or1 (pt_cmpR op_gt (pe_lenS (by rfl) T.b_len (pv 1)) (pe_glob (v := .int 60) (by rfl) hMS ⟨_, rfl⟩) (nomark _))))) pss_never pss_nil)
      (pss_cons (ps_for PassesOwn.never rfl (pi_enumT (by rfl) T.b_enumerate (pa_cons (pv 1) pa_nil)) (pg_tup rfl (pgs_cons (pg_name (i := 4) nd rfl (.inl rfl)) (pgs_cons (pg_name (i := 5) nd rfl (.inl rfl)) pgs_nil)))
        (pss_one (ps_if (pt_not (pt_val (pe_k (c_is_step T) hr (by decide) (by rfl) (pa_cons (pv 2) (pa_cons (pv 5) pa_nil))))) pss_never pss_nil)))
      (pss_one (ps_ret (pv 1))))), ?_⟩
    refine ⟨_, rfl, a, F, rfl, hF, ok, fun H1 s1 => ?_⟩
    obtain ⟨_, n, p, ps, e, hA, hN, hP, hD⟩ := (Dp.tk (Tk.of s1) (dField F) (flat_field F) hF).field
    cases e
    obtain ⟨_, vs, e, hS, hV⟩ := (Dp.tk (Tk.of s1) (dSteps l) (flat_steps l) hL).steps
    cases e
    have hl := hV.len
    rw [List.length_map] at hl
    refine ⟨a, _, rfl, hA, rfl, _, _, rfl, _, _, rfl, rfl, ?_⟩
    refine ⟨_, rfl, _, _, _, _, _, rfl, .ty _, tyx_tup hS, kit_ty (r := true) (by decide +kernel), _, rfl, iteF ?_⟩
    refine ⟨_, rfl, d, _, rfl, .inr hS, _, _, rfl, rfl, _, rfl, ?_⟩
    rw [show decide ((60 : Int) < (vs.length : Int)) = false from decide_eq_false (by omega)]
    refine iteF ?_
    refine ⟨_, rfl, d, vs, rfl, hS, for_it (walk_IeT (xs := vs)) (fun i σ H2 => ∃ (y4 y5 : Option V), σ = [some (.ref a), some (.ref d), some (.ref n), some (.ref p), y4, y5] ∧ Same H1 H2)
      ⟨none, none, rfl, Same.refl _⟩ (fun i σ H2 _ ⟨y4, y5, _, s2⟩ => (Tk.of s2).sqT hS) (fun i x σ H2 H3 hi ⟨y4, y5, eσ, s2⟩ hy => ?_) (fun σ H2 ⟨y4, y5, eσ, s2⟩ => ?_)⟩
    · obtain ⟨Tt, x1, x2, rfl, nT, rfl, f1, f2⟩ := hy
      subst eσ
      obtain ⟨d', g1, p1⟩ := hV.get f2
      rw [List.getElem?_map] at g1
      obtain ⟨s, k1, rfl⟩ := Option.map_eq_some_iff.mp g1
      obtain ⟨b, rfl, cb⟩ := p1.step
      have ms := hg s (List.mem_of_getElem? k1)
      have s3 := same_new (o := .tup [x1, .ref b]) s2 nT
      refine ⟨Tt, _, rfl, SqT.of upd_same, rfl, _, _, rfl, _, _, rfl, rfl, ?_⟩
      refine ⟨_, rfl, _, rfl, n, b, F.names, s, rfl, (Tk.of s3).sqT hN, (Tk.of s3).sqT cb, ms.1, ms.2, _, rfl, iteF ?_⟩
      exact ⟨_, _, rfl, s3⟩
    · subst eσ
      exact ⟨_, rfl, q _ (s1.trans s2)⟩
/-! ### touching -/
theorem any_pairs (ps : List (Str × Str)) (a b : Str) : (ps.map dPair).any (fun z => PyData.eqv z (dPair (a, b))) = ps.contains (a, b) := by
  induction ps with
  | nil => rfl
  | cons p r ih =>
    rw [List.map_cons, List.any_cons, ih, List.contains_cons]
    congr 1
    obtain ⟨c, d⟩ := p
    show (PyData.eqv (.str c) (.str a) && (PyData.eqv (.str d) (.str b) && true)) = ((a, b) == (c, d))
    show ((c == a) && ((d == b) && true)) = ((a == c) && (b == d))
    rw [Bool.and_true]
    rw [show (c == a) = (a == c) from BEq.comm, show (d == b) = (b == d) from BEq.comm]
theorem strOk_of {n : Str} (h : GoodName n) : PyData.strOk n = true := by
  obtain ⟨h1, h6, hc⟩ := h
  unfold PyData.strOk
  rw [← Array.all_toList, List.all_eq_true]
  intro c m
  have := hc c m
  exact decide_eq_true (by omega)
theorem lay_pair {p : Str × Str} (h1 : GoodName p.1) (h2 : GoodName p.2) : (dPair p).canLay0 = true := by
  show PyData.canLay0 (.tuple [.str p.1, .str p.2]) = true
  simp [PyData.canLay0, PyData.canLayAll0, strOk_of h1, strOk_of h2]
theorem sh_pair {p : Str × Str} (h1 : GoodName p.1) (h2 : GoodName p.2) : SeqAt.shaped (dPair p) = true := by
  unfold SeqAt.shaped
  rw [lay_pair h1 h2]
  show (true && _) = true
  simp [dPair, PyData.depth, PyData.depthAll]
theorem layPairs : ∀ {ps : List (Str × Str)}, (∀ p ∈ ps, GoodName p.1 ∧ GoodName p.2) → PyData.canLayAll0 (ps.map dPair) = true
  | [], _ => rfl
  | p :: ps, h => by
    rw [List.map_cons, PyData.canLayAll0, layPairs fun x hx => h x (List.mem_cons_of_mem _ hx), lay_pair (h p List.mem_cons_self).1 (h p List.mem_cons_self).2]
    rfl
theorem deepPairs : ∀ ps : List (Str × Str), PyData.depthAll (ps.map dPair) ≤ 2
  | [] => by decide
  | p :: ps => by
    rw [List.map_cons, PyData.depthAll]
    have := deepPairs ps
    have e : (dPair p).depth ≤ 2 := by
      show PyData.depth (.tuple [.str p.1, .str p.2]) ≤ 2
      simp [PyData.depth, PyData.depthAll]
    omega
theorem sh_pairs {ps : List (Str × Str)} (h : ∀ p ∈ ps, GoodName p.1 ∧ GoodName p.2) : SeqAt.shaped (.tuple (ps.map dPair)) = true := by
  have h2 := deepPairs ps
  show (PyData.canLayAll0 (ps.map dPair) && decide (PyData.depthAll (ps.map dPair) + 1 ≤ 64)) = true
  rw [layPairs h, Bool.true_and]
  exact decide_eq_true (by omega)
theorem Fld.Ok.good {F : Fld} (ok : F.Ok) : ∀ p ∈ F.pairs, GoodName p.1 ∧ GoodName p.2 := fun p hp => ⟨ok.sgn _ (ok.inN p hp).1, ok.sgn _ (ok.inN p hp).2⟩
def spAreApart (K : PySem.W.Frag) : Sp := fun vs H Q _ => ∃ (p : Addr) (ps : List V) (F : Fld) (a b : Str), vs = [.ref p, .str a, .str b] ∧ SqT K H p ps ∧ DpAll K H ps (F.pairs.map dPair) ∧ F.Ok ∧ a ∈ F.names ∧ b ∈ F.names ∧ ∀ H', Same H H' → Q (.bl (apart F a b)) H'
theorem c_are_apart (T : Tx K mg) : Cl P w K mg base CX0 1 "are_apart" (spAreApart K) := by
  refine cl0 T.d_are_apart (ps := ["pairs", "one", "other"]) (fun _ _ _ _ _ _ us hl => match us, hl with | [_, _, _], _ => rfl) sc_are_apart (fun vs H Q E h => ?_) (fun f cdv A outer st H vs Q E hr h => ?_)
  · obtain ⟨p, ps, F, a, b, rfl, _⟩ := h
    rfl
  · obtain ⟨p, ps, F, a, b, rfl, hP, hD, ok, ma, mb, q⟩ := h
    have hu := u65 hr
    refine ⟨_, pss_one (ps_ret (pe_cmpR (op_inDTk (K := K) rfl hu) (pe_tup (pa_cons (pe_callB (call_min2S rfl) (by rfl) T.b_min (by decide +kernel) (pa_cons (pv 1) (pa_cons (pv 2) pa_nil)))
      (pa_cons (pe_callB (call_max2S rfl) (by rfl) T.b_max (by decide +kernel) (pa_cons (pv 1) (pa_cons (pv 2) pa_nil))) pa_nil))) (pv 0) (by rfl))), ?_⟩
    refine ⟨_, rfl, _, rfl, _, _, rfl, _, rfl, _, rfl, _, _, rfl, (show 2 ≤ sizeLine by decide), fun t ht => ⟨_, rfl, dPair ((if sLt b a then b else a), (if sLt a b then b else a)), F.pairs.map dPair, .tup (SqT.of upd_same) (.cons (.str _) (.cons (.str _) .nil)), .tup ((Tk.of (same_upd ht)).sqT hP) (DpAll.tk (Tk.of (same_upd ht)) _ (flatAll_of fun d hd => ?_) hD), sh_pair ?_ ?_, sh_pairs ok.good, ?_⟩⟩
    · obtain ⟨y, _, rfl⟩ := List.mem_map.mp hd
      rfl
    · show GoodName (if sLt b a then b else a)
      split <;> first | exact ok.sgn _ ma | exact ok.sgn _ mb
    · show GoodName (if sLt a b then b else a)
      split <;> first | exact ok.sgn _ ma | exact ok.sgn _ mb
    · rw [any_pairs, apart_min ok]
      exact q _ (same_upd ht)
def spNamesTouching (K : PySem.W.Frag) : Sp := fun vs H Q _ => ∃ (a : Addr) (F : Fld) (n : Str), vs = [.ref a, .str n] ∧ Dp K H (.ref a) (dField F) ∧ F.Ok ∧ n ∈ F.names ∧ ∀ H' q, Same H H' → SqT K H' q ((touchL F n).map V.str) → Q (.ref q) H'
theorem c_names_touching (T : Tx K mg) : Cl P w K mg base CX0 2 "names_touching" (spNamesTouching K) := by
  refine cl0 T.d_names_touching (ps := ["field", "name"]) (fun _ _ _ _ _ _ us hl => match us, hl with | [_, _], _ => rfl) sc_names_touching (fun vs H Q E h => ?_) (fun f cdv A outer st H vs Q E hr h => ?_)
  · obtain ⟨a, F, n, rfl, _⟩ := h
    rfl
  · obtain ⟨a, F, m, rfl, hF, ok, mn, q⟩ := h
    have nd := sc_names_touching.nd
    obtain ⟨_, n, p, ps, e, hA, hN, hP, hD⟩ := hF.field
    cases e
    refine ⟨_, pss_cons (ps_asg (pv 0) (pg_tup rfl (pgs_cons (pg_name (i := 2) nd rfl (by first | exact .inl rfl | exact .inr rfl)) (pgs_cons (pg_name (i := 3) nd rfl (by first | exact .inl rfl | exact .inr rfl)) pgs_nil))))
      (pss_one (ps_ret (pe_tupleOf (by rfl) T.b_tuple (pe_lc (own := [("other", 4)]) (g := gName 4) (tt := _) (by rfl) nd (pi_tup (pv 2))
        (blkOk_by (own := [("other", 4)]) (N := ["field", "name", "names", "pairs", "other"]) (sc := defScope s_names_touching) (by decide +kernel)) (fun _ _ _ _ _ => pg_name (i := 4) nd rfl (Or.inl rfl))
        (fun _ _ _ _ _ => pts_one (pt_not (pt_val (pe_k (c_are_apart T) hr (by decide) (by rfl) (pa_cons (pv 3) (pa_cons (pv 1) (pa_cons (pv 4) pa_nil))))))) (fun _ _ _ _ _ => pv 4))))), ?_⟩
    refine ⟨_, rfl, a, _, rfl, hA, rfl, _, _, rfl, _, _, rfl, rfl, ?_⟩
    refine ⟨_, rfl, n, rfl, ⟨_, hN⟩, fun D hD' => ?_⟩
    refine lc_it (walk_tup (xs := F.names.map V.str)) (fun i H' => H' D = some (.lst (((F.names.take i).filter fun o => !apart F m o).map V.str)) ∧ Same H H') ⟨upd_same, same_upd hD'⟩ (fun _ _ _ ⟨_, s'⟩ => (Tk.of s').sqT hN) (fun i x H2 H3 hi ⟨eD, s'⟩ hy => ?_) (fun H2 ⟨eD, s'⟩ => ?_)
    · obtain ⟨rfl, hx⟩ := hy
      obtain ⟨o, ho, rfl⟩ := str_at hx
      have mo := List.mem_of_getElem? ho
      refine ⟨rfl, ?_⟩
      refine ⟨_, rfl, _, rfl, _, rfl, p, ps, F, m, o, rfl, (Tk.of s').sqT hP, DpAll.tk (Tk.of s') _ (flatAll_of fun d hd => ?_) hD, ok, mn, mo, fun H4 s4 => ⟨_, rfl, ?_⟩⟩
      · obtain ⟨y, _, rfl⟩ := List.mem_map.mp hd
        rfl
      · have et : F.names.take (i + 1) = F.names.take i ++ [o] := by
          rw [List.take_add_one, ho]
          rfl
        rw [et, List.filter_append, List.map_append]
        cases ha : apart F m o
        · refine iteT ⟨_, rfl, _, s4 _ _ eD, ?_, ?_, same_put (s'.trans s4) hD'⟩
          · rw [List.length_map]
            refine small1000 (Nat.le_trans (List.length_filter_le _ _) ?_)
            have := ok.n6
            rw [List.length_take]
            omega
          · rw [upd_same]
            simp [ha]
        · refine iteF ⟨?_, s'.trans s4⟩
          rw [s4 _ _ eD]
          simp [ha]
    · rw [List.length_map, List.take_length] at eD
      exact .inl ⟨D, _, rfl, SqL.of eD, fun r hr' => q _ r (same_new s' hr') (SqT.of upd_same)⟩
def TouchAt (K : PySem.W.Frag) (H : Hp) (t : Addr) (F : Fld) : Prop := ∃ kvs : List (Key × V), H t = some (.dK kvs) ∧ ∀ n ∈ F.names, ∃ a, valV kvs (.inr n) = some (.ref a) ∧ SqT K H a ((touchL F n).map V.str)
theorem TouchAt.same {K : PySem.W.Frag} {H H' : Hp} {t : Addr} {F : Fld} (h : TouchAt K H t F) (s : Same H H') : TouchAt K H' t F := by
  obtain ⟨kvs, e, g⟩ := h
  refine ⟨kvs, s _ _ e, fun n hn => ?_⟩
  obtain ⟨a, e1, e2⟩ := g n hn
  exact ⟨a, e1, (Tk.of s).sqT e2⟩
def spTouchTable (K : PySem.W.Frag) : Sp := fun vs H Q _ => ∃ (a : Addr) (F : Fld), vs = [.ref a] ∧ Dp K H (.ref a) (dField F) ∧ F.Ok ∧ ∀ H' t, Same H H' → H t = none → TouchAt K H' t F → Q (.ref t) H'
theorem c_touch_table (T : Tx K mg) : Cl P w K mg base CX0 3 "touch_table" (spTouchTable K) := by
  refine cl0 T.d_touch_table (ps := ["field"]) (fun _ _ _ _ _ _ us hl => match us, hl with | [_], _ => rfl) sc_touch_table (fun vs H Q E h => ?_) (fun f cdv A outer st H vs Q E hr h => ?_)
  · obtain ⟨a, F, rfl, _⟩ := h
    rfl
  · obtain ⟨a, F, rfl, hF, ok, q⟩ := h
    have nd := sc_touch_table.nd
    obtain ⟨_, n, p, ps, e, hA, hN, hP, hD⟩ := hF.field
    cases e
    refine ⟨_, pss_cons (ps_asg (pv 0) (pg_tup rfl (pgs_cons (pg_name (i := 1) nd rfl (by first | exact .inl rfl | exact .inr rfl)) (pgs_cons (pg_name (i := 2) nd rfl (by first | exact .inl rfl | exact .inr rfl)) pgs_nil))))
      (pss_one (ps_ret (pe_dc (own := [("name", 3)]) (g := gName 3) (tt := tYes) (by rfl) nd (pi_tup (pv 1))
        (blkOk_by (own := [("name", 3)]) (N := ["field", "names", "_", "name"]) (sc := defScope s_touch_table) (by decide +kernel)) (fun _ _ _ _ _ => pg_name (i := 3) nd rfl (Or.inl rfl))
        (fun _ _ _ _ _ => pts_nil) (fun _ _ _ _ _ => pv 3) (fun _ _ _ _ _ => pe_k (c_names_touching T) hr (by decide) (by rfl) (pa_cons (pv 0) (pa_cons (pv 3) pa_nil)))))), ?_⟩
    refine ⟨_, rfl, a, _, rfl, hA, rfl, _, _, rfl, _, _, rfl, rfl, ?_⟩
    refine ⟨_, rfl, n, rfl, ⟨_, hN⟩, fun D hD' => ?_⟩
    refine dc_tup (xs := F.names.map V.str) (fun i H' => ∃ kvs : List (Key × V), H' D = some (.dK kvs) ∧ kvs.length ≤ i ∧ (∀ n ∈ F.names.take i, ∃ a, valV kvs (.inr n) = some (.ref a) ∧ SqT K H' a ((touchL F n).map V.str)) ∧ Same H H')
      ⟨[], upd_same, Nat.le_refl _, (fun n hn => nomatch hn), same_upd hD'⟩ (fun _ _ _ ⟨_, _, _, _, s'⟩ => (Tk.of s').sqT hN) (fun i x H2 hx ⟨kvs, eD, kl, kk, s'⟩ => ?_) (fun H2 ⟨kvs, eD, kl, kk, s'⟩ => ?_)
    · obtain ⟨o, ho, rfl⟩ := str_at hx
      have mo := List.mem_of_getElem? ho
      have hi := (List.getElem?_eq_some_iff.mp ho).1
      refine ⟨rfl, yes_ ?_⟩
      refine ⟨_, rfl, _, rfl, _, rfl, a, F, o, rfl, Dp.tk (Tk.of s') _ (flat_field F) hF, ok, mo, fun H4 r s4 hr' => ⟨kvs, .inr o, rfl, s4 _ _ eD, ?_, putK kvs (.inr o) (.ref r), upd_same, ?_, fun x hx' => ?_, same_put (s'.trans s4) hD'⟩⟩
      · have := ok.n6
        exact small1000 (by omega)
      · have := length_putK kvs (.inr o) (.ref r)
        omega
      · have k4 : Tk H4 (upd H4 D (.dK (putK kvs (.inr o) (.ref r)))) := Tk.refl.mut (s4 _ _ eD) (fun _ q => nomatch q) (fun _ _ q => nomatch q)
        rw [valV_put]
        by_cases e : x = o
        · subst e
          exact ⟨r, if_pos rfl, k4.sqT hr'⟩
        · rw [List.take_add_one, ho] at hx'
          have m : x ∈ F.names.take i := by
            rcases List.mem_append.mp hx' with h | h
            · exact h
            · exact absurd (List.mem_singleton.mp h) e
          obtain ⟨b, e1, e2⟩ := kk x m
          refine ⟨b, ?_, k4.sqT ((Tk.of s4).sqT e2)⟩
          rw [if_neg (fun q => e (Sum.inr.inj q))]
          exact e1
    · rw [List.length_map, List.take_length] at kk
      exact q _ D s' hD' ⟨kvs, eD, kk⟩
end
end XB
set_option Elab.async false
set_option linter.all false
set_option maxRecDepth 100000
set_option maxHeartbeats 4000000
/-! rules of rows, lists or tuples -/
namespace XB
open PySem PySem.Spec PyProof.Rows L2
def SqX (K : PySem.W.Frag) (H : Hp) (p : Addr) (xs : List V) : Prop := SqL K H p xs ∨ SqT K H p xs
theorem SqX.same {K : PySem.W.Frag} {H H' : Hp} {p : Addr} {xs : List V} (s : Same H H') (h : SqX K H p xs) : SqX K H' p xs := h.elim (fun h => .inl (s.seq h)) fun h => .inr ((Tk.of s).sqT h)
def rIxX (K : PySem.W.Frag) : R2 := fun x y H Q => ∃ p xs i v, x = .ref p ∧ y = .int i ∧ SqX K H p xs ∧ atI xs i = some v ∧ Q v H
section
variable {X : Cx}
theorem ixk_row {K : PySem.W.Frag} (hk : X.K = K) : IxR X (rIxX K) := by
  subst hk
  intro value slice pins s σ H x y v u Q I rx ry h hs
  obtain ⟨p, xs, i, z, e1, e2, hq, he, q⟩ := h
  rcases hq with hq | hq
  · exact ix_list value slice pins s σ H x y v u Q I rx ry ⟨p, xs, i, z, e1, e2, hq, he, q⟩ hs
  · exact ix_tup value slice pins s σ H x y v u Q I rx ry ⟨p, xs, i, z, e1, e2, hq, he, q⟩ hs
/-- a part of a row, whatever its kind: a row of the same kind, old or new -/
def rSlX (K : PySem.W.Frag) : V → Option Int → Option Int → Hp → VK → Prop := fun x lo hi H Q => ∃ p xs, x = .ref p ∧ SqX K H p xs ∧ ∀ H' q, Same H H' → SqX K H' q (cutV xs lo hi) → Q (.ref q) H'
theorem cut_whole {xs : List V} {lo hi : Option Int} (h : HT.sIx xs.length 0 lo = 0 ∧ HT.sIx xs.length xs.length hi = xs.length) : cutV xs lo hi = xs := by
  unfold cutV
  rw [h.1, h.2]
  simp
theorem slk_row {K : PySem.W.Frag} (hk : X.K = K) : SlR X (rSlX K) := by
  subst hk
  intro pins s σ H x v vl vu lo hi sl Q I rx hs pl pu h
  obtain ⟨p, xs, e, hq, q⟩ := h
  rcases hq with hq | hq
  · exact sl_list pins s σ H x v vl vu lo hi sl Q I rx hs pl pu ⟨p, xs, e, hq, fun r hr => q _ r (same_upd hr) (.inl (SqL.of upd_same))⟩
  · exact sl_tupA pins s σ H x v vl vu lo hi sl Q I rx hs pl pu ⟨p, xs, e, hq, fun hw => q _ p (Same.refl _) (by rw [cut_whole hw]; exact .inr hq), fun _ r hr => q _ r (same_upd hr) (.inr (SqT.of upd_same))⟩
/-- a row walked through, whatever its kind -/
def iRow (K : PySem.W.Frag) (tl : TE) : TI := fun σ H R => tl σ H fun x H1 => ∃ a xs, x = .ref a ∧ SqX K H1 a xs ∧ ∀ (J : It) (G : Hp → Prop), (∀ H', Same H1 H' → G H') → Walk J xs.length G (YAt xs) → R J H1
theorem pi_row {l tg : Expr} {tl : TE} (hl : PE X l tl) : PI X tg l (iRow X.K tl) := by
  refine ⟨fun pins s σ H R I h => ?_⟩
  refine thn (hl.run pins s σ H _ I h) fun v s1 ⟨x, H1, I1, r1, q1⟩ => ?_
  obtain ⟨a, xs, e, hq, q⟩ := q1
  subst e
  cases r1
  rcases hq with hq | hq
  · obtain ⟨its, rv, p, hz⟩ := I1.list hq
    refine wpAny_pyIter_list p.isList ?_
    refine ⟨s1.heap.objs.size, [s1.heap.objs.size], _, _, H1, rfl, I1.kept (t' := s1.toks) fun b o e => Heap.get?_push_of_some _ e, turn_list a _, ⟨_, Heap.get?_push_size _ rfl, rfl, rfl⟩, fun b hb => ?_, q _ _ (fun H' s' => s'.seq hq) walk_list⟩
    have e : b = s1.heap.objs.size := by simpa using hb
    subst e
    exact I1.fpOk (Nat.le_refl _) (I1.hok.fresh (Nat.le_refl _))
  · obtain ⟨its, rv, p, hz⟩ := I1.tuple hq
    refine wpAny_pyIter_tuple (show s1.heap.IsTuple a its.toArray from p) ?_
    refine ⟨s1.heap.objs.size, [s1.heap.objs.size], _, _, H1, rfl, I1.kept (t' := s1.toks) fun b o e => Heap.get?_push_of_some _ e, turn_tuple a _, ⟨_, Heap.get?_push_size _ rfl, rfl, rfl⟩, fun b hb => ?_, q _ _ (fun H' s' => (Tk.of s').sqT hq) walk_tup⟩
    have e : b = s1.heap.objs.size := by simpa using hb
    subst e
    exact I1.fpOk (Nat.le_refl _) (I1.hok.fresh (Nat.le_refl _))
end
theorem cut_init (xs : List V) (k : Nat) : cutV xs none (some (k : Int)) = xs.take k := by
  unfold cutV
  rw [HT.sIx_none, HT.sIx_nat]
  rw [List.drop_zero, Nat.sub_zero]
  by_cases h : k ≤ xs.length
  · rw [Nat.min_eq_left h]
  · rw [Nat.min_eq_right (by omega), List.take_of_length_le (Nat.le_refl _), List.take_of_length_le (by omega)]
theorem cut_from (xs : List V) (k : Nat) : cutV xs (some (k : Int)) none = xs.drop k := by
  unfold cutV
  rw [HT.sIx_none, HT.sIx_nat]
  by_cases h : k ≤ xs.length
  · rw [Nat.min_eq_left h, List.take_of_length_le (by rw [List.length_drop]; omega)]
  · rw [Nat.min_eq_right (by omega), List.drop_of_length_le (Nat.le_refl _), List.drop_of_length_le (by omega)]
    simp
end XB
set_option Elab.async false
set_option linter.all false
set_option maxRecDepth 100000
set_option maxHeartbeats 4000000
/-! closers for readings of lists and tuples -/
namespace XB
open PySem PySem.Spec PyProof.Rows L2
theorem one_sz : 1 ≤ sizeLine := by decide
theorem two_sz : 2 ≤ sizeLine := by decide
theorem three_sz : 3 ≤ sizeLine := by decide
theorem slL {K : PySem.W.Frag} {H : Hp} {D : Addr} {ys : List V} {lo hi : Option Int} {Q : VK} (h : H D = some (.lst ys)) (q : ∀ H' p, Same H H' → H p = none → H' p = some (.lst (cutV ys lo hi)) → Q (.ref p) H') : rSlL K (.ref D) lo hi H Q :=
  ⟨D, ys, rfl, SqL.of h, fun p hp => q _ p (same_upd hp) hp upd_same⟩
theorem catL {H : Hp} {a b : Addr} {xs ys : List V} {Q : VK} (h1 : H a = some (.lst xs)) (h2 : H b = some (.lst ys)) (hl : xs.length + ys.length ≤ sizeLine) (q : ∀ H' p, Same H H' → H p = none → H' p = some (.lst (xs ++ ys)) → Q (.ref p) H') : rCat (.ref a) (.ref b) H Q :=
  ⟨a, b, xs, ys, rfl, rfl, h1, h2, hl, fun p hp => q _ p (same_upd hp) hp upd_same⟩
/-- a new object's heap as any heap that keeps what stood -/
@[elab_as_elim] theorem upd_gen {H : Hp} {p : Addr} {o : HO} {motive : Hp → Prop} (hp : H p = none) (q : ∀ H', Same H H' → H' p = some o → motive H') : motive (upd H p o) := q _ (same_upd hp) upd_same
theorem at_nil {α : Type} {x : α} {xs : List α} : atI (x :: xs) 0 = some x := atI_nat (j := 0) rfl
theorem ix0 {K : PySem.W.Frag} {σ : L2.St} {H : Hp} {b : Addr} {x : V} {xs : List V} {Q : VK} (h : SqT K H b (x :: xs)) (q : Q x H) : tC (.int 0) σ H (fun y H2 => rIxT K (.ref b) y H2 Q) := ⟨b, _, 0, x, rfl, rfl, h, at_nil, q⟩
theorem at_one {α : Type} {x y : α} {xs : List α} : atI (x :: y :: xs) 1 = some y := atI_nat (j := 1) rfl
theorem ix1 {K : PySem.W.Frag} {σ : L2.St} {H : Hp} {b : Addr} {x y : V} {xs : List V} {Q : VK} (h : SqT K H b (x :: y :: xs)) (q : Q y H) : tC (.int 1) σ H (fun z H2 => rIxT K (.ref b) z H2 Q) := ⟨b, _, 1, y, rfl, rfl, h, at_one, q⟩
theorem op_catAk {X : Cx} {K : PySem.W.Frag} (hk : X.K = K) : OpR X (binaryOp .Add) (rCatA K) := by
  subst hk
  exact op_catA
theorem catA {K : PySem.W.Frag} {H : Hp} {a b : Addr} {xs ys : List V} {Q : VK} (ha : SqT K H a xs) (hb : SqT K H b ys) (hl : xs.length + ys.length ≤ sizeLine) (q : ∀ H' p, Same H H' → SqT K H' p (xs ++ ys) → Q (.ref p) H') : rCatA K (.ref a) (.ref b) H Q :=
  ⟨a, b, xs, ys, rfl, rfl, ha, hb, hl, fun e => q H b (Same.refl _) (by rw [e]; exact hb), fun _ e => q H a (Same.refl _) (by rw [e, List.append_nil]; exact ha), fun _ _ p hp => q _ p (same_upd hp) (SqT.of upd_same)⟩
/-- an if whose else is shown once -/
theorem ifS_by {c : TT} {t u : TS} {D : Ends} {σ : L2.St} {H : Hp} (he : ∀ H', Same H H' → u D σ H') (hc : (∀ H', Same H H' → u D σ H') → c σ H (fun b H1 => if b = true then t D σ H1 else u D σ H1)) : tIfS c t u D σ H := hc he
theorem ix0L {K : PySem.W.Frag} {σ : L2.St} {H : Hp} {b : Addr} {x : V} {xs : List V} {Q : VK} (h : H b = some (.lst (x :: xs))) (q : Q x H) : tC (.int 0) σ H (fun y H2 => rIxL K (.ref b) y H2 Q) := ⟨b, _, 0, x, rfl, rfl, SqL.of h, at_nil, q⟩
theorem four_sz : 4 ≤ sizeLine := by decide
theorem by_q {t : TE} {σ : L2.St} {H : Hp} {Q : VK} (C : V → Hp → Prop) (h : ∀ Qx : VK, (∀ v H', C v H' → Qx v H') → t σ H Qx) (hq : ∀ v H', C v H' → Q v H') : t σ H Q := h Q hq
theorem Paired.get {α β : Type} {R : α → β → Prop} : ∀ {l : List α} {l' : List β} {i : Nat} {x : α}, Paired R l l' → l[i]? = some x → ∃ y, l'[i]? = some y ∧ R x y
  | _, _, _, _, .nil, e => by simp at e
  | _, _, 0, _, .cons h _, e => by
    cases e
    exact ⟨_, rfl, h⟩
  | _, _, i + 1, _, .cons _ t, e => Paired.get (i := i) t (by simpa using e)
end XB
set_option Elab.async false
set_option linter.all false
set_option maxRecDepth 100000
set_option maxHeartbeats 4000000
/-! of which kind a value is, by its data -/
namespace XB
open PySem PySem.Spec PyProof.Rows L2
def tyD : PyData → String
  | .none => "NoneType"
  | .bool _ => "bool"
  | .int _ => "int"
  | .str _ => "str"
  | .list _ => "list"
  | .tuple _ => "tuple"
  | .dict _ => "dict"
theorem tyx_lst {K : PySem.W.Frag} {H : Hp} {a : Addr} {xs : List V} (h : SqL K H a xs) : TyX K H (.ref a) (.type "list") := by
  rcases h with (h | ⟨o, h⟩) | ⟨o, its, n, hk, hc, _⟩
  · exact .base (.lst h)
  · exact .base (.frz h)
  · exact .kList hk hc
theorem tyx_data {K : PySem.W.Frag} {H : Hp} {v : V} {d : PyData} (h : Dp K H v d) : TyX K H v (.type (tyD d)) := by
  cases h with
  | non => exact .base .non
  | bl b => exact .base (.bl b)
  | int i => exact .base (.int i)
  | str s => exact .base (.str s)
  | lst h1 _ => exact tyx_lst h1
  | tup h1 _ => exact tyx_tup h1
/-- isinstance by data -/
def isD (T : String) : PyData → Bool
  | .bool _ => T == "bool" || T == "int"
  | d => T == tyD d
theorem kit_data {K : PySem.W.Frag} {H : Hp} {v : V} {d : PyData} {T : String} (hT : T = "tuple" ∨ T = "list" ∨ T = "str" ∨ T = "int" ∨ T = "bool") (h : Dp K H v d) : PySem.W.kitOne K (.type (tyD d)) (.type T) = some (isD T d) := by
  refine kit_ty ?_
  rcases hT with rfl | rfl | rfl | rfl | rfl <;> cases h <;> first | decide +kernel | rfl
end XB
set_option Elab.async false
set_option linter.all false
set_option maxRecDepth 100000
set_option maxHeartbeats 4000000
namespace XB
open PySem PySem.Spec PyProof.Rows L2
/-! what the program takes for a whole number, a pair, a step: of any data -/
def wholeD : PyData → Bool
  | .int _ => true
  | _ => false
def pairD : PyData → Bool
  | .tuple [_, _] => true
  | _ => false
def timesD : PyData → Bool
  | .int t => decide (t ≠ 0) && decide ((if t < 0 then -t else t) ≤ 10 ^ 30)
  | _ => false
def greatD (ns : List Str) : PyData → Bool
  | .tuple [.str n, .int t] => ns.contains n && decide (t ≠ 0)
  | _ => false
def stepD (ns : List Str) : PyData → Bool
  | .tuple [.str n, .int t] => ns.contains n && timesD (.int t)
  | _ => false
theorem any_strs (ns : List Str) (d : PyData) : ((ns.map PyData.str).any fun z => PyData.eqv z d) = match d with
    | .str n => ns.contains n
    | _ => false := by
  induction ns with
  | nil => cases d <;> rfl
  | cons a ns ih =>
    rw [List.map_cons, List.any_cons, ih]
    cases d with
    | str n =>
      show ((a == n) || ns.contains n) = (a :: ns).contains n
      rw [List.contains_cons]
      congr 1
      rw [Bool.eq_iff_iff, beq_iff_eq, beq_iff_eq]
      exact ⟨fun h => h.symm, fun h => h.symm⟩
    | _ => rfl
theorem shaped_two {x y : PyData} (h : SeqAt.shaped (.tuple [x, y]) = true) : SeqAt.shaped x = true ∧ SeqAt.shaped y = true := by
  have h : (PyData.canLay0 (.tuple [x, y]) && decide (PyData.depth (.tuple [x, y]) ≤ 64)) = true := h
  rw [Bool.and_eq_true, decide_eq_true_eq] at h
  obtain ⟨h1, h2⟩ := h
  have h1 : (PyData.canLay0 x && (PyData.canLay0 y && true)) = true := h1
  rw [Bool.and_true, Bool.and_eq_true] at h1
  rw [PyData.depth, PyData.depthAll, PyData.depthAll, PyData.depthAll] at h2
  refine ⟨?_, ?_⟩
  · show (PyData.canLay0 x && decide (PyData.depth x ≤ 64)) = true
    rw [h1.1, Bool.true_and]
    exact decide_eq_true (by omega)
  · show (PyData.canLay0 y && decide (PyData.depth y ≤ 64)) = true
    rw [h1.2, Bool.true_and]
    exact decide_eq_true (by omega)
section
variable {P : Program} {w : World} {K : PySem.W.Frag} {mg : Str → Option Value} {base : Heap}
def spWholeD (K : PySem.W.Frag) : Sp := fun vs H Q _ => ∃ (v : V) (d : PyData), vs = [v] ∧ Dp K H v d ∧ Q (.bl (wholeD d)) H
theorem c_is_wholeD (T : Tx K mg) : Cl P w K mg base CX0 1 "is_whole" (spWholeD K) := by
  refine cl0 T.d_is_whole (ps := ["value"]) (fun _ _ _ _ _ _ us hl => match us, hl with | [_], _ => rfl) sc_is_whole (fun vs H Q E h => ?_) (fun f cdv A outer st H vs Q E hr h => ?_)
  · obtain ⟨v, d, rfl, _⟩ := h
    rfl
  · obtain ⟨v, d, rfl, hd, q⟩ := h
    have nd := sc_is_whole.nd
    refine ⟨_, (pss_one (ps_ret (pe_and (pe_isT "int" (by rfl) T.b_isinstance (by rfl) T.b_int (by decide +kernel) (pv 0)) (pe_one (pe_not (pe_isT "bool" (by rfl) T.b_isinstance (by rfl) T.b_bool (by decide +kernel) (pv 0))))))), ?_⟩
    refine ⟨_, rfl, v, .ty "int", _, _, _, rfl, .ty _, tyx_data hd, kit_data (.inr (.inr (.inr (.inl rfl)))) hd, _, rfl, ?_⟩
    by_cases h1 : isD "int" d = true
    · rw [if_pos h1]
      refine ⟨_, rfl, v, .ty "bool", _, _, _, rfl, .ty _, tyx_data hd, kit_data (.inr (.inr (.inr (.inr rfl)))) hd, _, rfl, ?_⟩
      have e : (!isD "bool" d) = wholeD d := by
        cases d <;> first | rfl | (exfalso; simp [isD, tyD] at h1)
      rw [e]
      exact q
    · rw [if_neg h1]
      have e : wholeD d = false := by
        cases d <;> first | rfl | exact absurd rfl h1
      rw [e] at q
      exact q
def spPairD (K : PySem.W.Frag) : Sp := fun vs H Q _ => ∃ (v : V) (d : PyData), vs = [v] ∧ Dp K H v d ∧ Q (.bl (pairD d)) H
theorem c_is_pairD (T : Tx K mg) : Cl P w K mg base CX0 1 "is_pair" (spPairD K) := by
  refine cl0 T.d_is_pair (ps := ["value"]) (fun _ _ _ _ _ _ us hl => match us, hl with | [_], _ => rfl) sc_is_pair (fun vs H Q E h => ?_) (fun f cdv A outer st H vs Q E hr h => ?_)
  · obtain ⟨v, d, rfl, _⟩ := h
    rfl
  · obtain ⟨v, d, rfl, hd, q⟩ := h
    have nd := sc_is_pair.nd
    refine ⟨_, (pss_one (ps_ret (pe_and (pe_isT "tuple" (by rfl) T.b_isinstance (by rfl) T.b_tuple (by decide +kernel) (pv 0)) (pe_one (pe_cmpR op_eq (pe_lenS (by rfl) T.b_len (pv 0)) pe_int (nomark _)))))), ?_⟩
    refine ⟨_, rfl, v, .ty "tuple", _, _, _, rfl, .ty _, tyx_data hd, kit_data (.inl rfl) hd, _, rfl, ?_⟩
    by_cases h1 : isD "tuple" d = true
    · rw [if_pos h1]
      cases d with
      | tuple ds =>
        cases hd with
        | tup hS hV =>
          have hl := hV.len
          refine ⟨_, rfl, _, _, rfl, .inr hS, rfl, ?_⟩
          have e : ∀ n : Nat, decide (V.int (n : Int) = V.int 2) = decide (n = 2) := fun n => decide_eq_decide.mpr ⟨fun h => by injection h with h; omega, fun h => by rw [h]; rfl⟩
          rw [e, hl]
          have e2 : decide (ds.length = 2) = pairD (.tuple ds) := by
            match ds with
            | [] => rfl
            | [_] => rfl
            | [_, _] => rfl
            | _ :: _ :: _ :: r => exact decide_eq_false (by simp)
          rw [e2]
          exact q
      | _ => exact absurd h1 (by simp [isD, tyD])
    · rw [if_neg h1]
      have e : pairD d = false := by
        cases d <;> first | rfl | exact absurd rfl h1
      rw [e] at q
      exact q
def spTimesD (K : PySem.W.Frag) : Sp := fun vs H Q _ => ∃ (v : V) (d : PyData), vs = [v] ∧ Dp K H v d ∧ Q (.bl (timesD d)) H
theorem c_is_timesD (T : Tx K mg) : Cl P w K mg base CX0 2 "is_times" (spTimesD K) := by
  refine cl0 T.d_is_times (ps := ["value"]) (fun _ _ _ _ _ _ us hl => match us, hl with | [_], _ => rfl) sc_is_times (fun vs H Q E h => ?_) (fun f cdv A outer st H vs Q E hr h => ?_)
  · obtain ⟨v, d, rfl, _⟩ := h
    rfl
  · obtain ⟨v, d, rfl, hd, q⟩ := h
    have nd := sc_is_times.nd
    obtain ⟨tk, h_MOST_TIMES⟩ := T.g_MOST_TIMES
    refine ⟨_, (pss_one (ps_ret (pe_and (pe_k (c_is_wholeD T) hr (by decide) (by rfl) (pa_cons (pv 0) pa_nil)) (pe_and (pe_cmpR op_ne (pv 0) pe_int (nomark _)) (pe_one (pe_cmpR op_le (pe_callB call_abs (by rfl) T.b_abs (by decide +kernel) (pa_cons (pv 0) pa_nil)) (pe_glob (v := .int (10 ^ 30)) (by rfl) h_MOST_TIMES ⟨_, rfl⟩) (nomark _))))))), ?_⟩
    refine ⟨_, rfl, v, d, rfl, hd, _, rfl, ?_⟩
    cases d with
    | int t =>
      cases hd
      refine iteT ⟨_, rfl, rfl, _, rfl, ?_⟩
      rw [dec_int]
      by_cases h0 : t = 0
      · subst h0
        exact q
      · have e0 : (!(t == 0)) = true := by simp [h0]
        rw [e0]
        refine iteT ⟨_, rfl, _, rfl, _, _, rfl, rfl, ?_⟩
        have e : timesD (.int t) = decide ((if t < 0 then -t else t) ≤ 10 ^ 30) := by
          show (decide (t ≠ 0) && _) = _
          rw [decide_eq_true h0, Bool.true_and]
        rw [e] at q
        exact q
    | _ => exact iteF q
def spGreatD (K : PySem.W.Frag) : Sp := fun vs H Q _ => ∃ (n : Addr) (v : V) (ns : List Str) (d : PyData), vs = [.ref n, v] ∧ SqT K H n (ns.map V.str) ∧ SeqAt.shaped (.tuple (ns.map PyData.str)) = true ∧ Dp K H v d ∧ SeqAt.shaped d = true ∧ Q (.bl (greatD ns d)) H
theorem c_is_great_stepD (T : Tx K mg) : Cl P w K mg base CX0 2 "is_great_step" (spGreatD K) := by
  refine cl0 T.d_is_great_step (ps := ["names", "value"]) (fun _ _ _ _ _ _ us hl => match us, hl with | [_, _], _ => rfl) sc_is_great_step (fun vs H Q E h => ?_) (fun f cdv A outer st H vs Q E hr h => ?_)
  · obtain ⟨n, v, ns, d, rfl, _⟩ := h
    rfl
  · obtain ⟨n, v, ns, d, rfl, hN, sN, hd, sd, q⟩ := h
    have nd := sc_is_great_step.nd
    have hu := u65 hr
    refine ⟨_, (pss_cons (ps_if (pt_not (pt_val (pe_k (c_is_pairD T) hr (by decide) (by rfl) (pa_cons (pv 1) pa_nil)))) (pss_one (ps_ret pe_bl)) pss_nil)
    (pss_cons (ps_asg (pv 1) (pg_tup rfl (pgs_cons (pg_name (i := 2) nd rfl (.inl rfl)) (pgs_cons (pg_name (i := 3) nd rfl (.inl rfl)) pgs_nil))))
    (pss_one (ps_ret (pe_and (pe_cmpR (op_inDTk (K := K) rfl hu) (pv 2) (pv 0) (by rfl)) (pe_and (pe_k (c_is_wholeD T) hr (by decide) (by rfl) (pa_cons (pv 3) pa_nil)) (pe_one (pe_cmpR op_ne (pv 3) pe_int (nomark _))))))))), ?_⟩
    refine ⟨_, rfl, v, d, rfl, hd, _, rfl, ?_⟩
    by_cases hp : pairD d = true
    · rw [hp]
      obtain ⟨x, y, rfl⟩ : ∃ x y, d = .tuple [x, y] := by
        match d, hp with
        | .tuple [x, y], _ => exact ⟨x, y, rfl⟩
      obtain ⟨sx, sy⟩ := shaped_two sd
      cases hd with
      | tup hS hV =>
      cases hV with
      | cons hx hV =>
      cases hV with
      | cons hy hV =>
      cases hV
      refine iteF ⟨_, rfl, _, _, rfl, hS, rfl, _, _, rfl, _, _, rfl, rfl, ?_⟩
      refine ⟨_, rfl, _, rfl, x, _, hx, .tup hN (DpAll.strs ns), sx, sN, _, rfl, ?_⟩
      rw [any_strs]
      cases x with
      | str n =>
        by_cases hn : ns.contains n = true
        · show if ns.contains n = true then _ else _
          rw [if_pos hn]
          refine ⟨_, rfl, _, y, rfl, hy, _, rfl, ?_⟩
          cases y with
          | int t =>
            cases hy
            refine iteT ⟨_, rfl, rfl, ?_⟩
            rw [dec_int]
            have e : greatD ns (.tuple [.str n, .int t]) = !(t == 0) := by
              show (ns.contains n && decide (t ≠ 0)) = _
              rw [hn, Bool.true_and]
              by_cases h0 : t = 0 <;> simp [h0]
            rw [e] at q
            exact q
          | _ => exact iteF q
        · show if ns.contains n = true then _ else _
          rw [if_neg hn]
          have e : greatD ns (.tuple [.str n, y]) = false := by
            cases y with
            | int t =>
              show (ns.contains n && decide (t ≠ 0)) = _
              rw [Bool.eq_false_iff.mpr hn]
              rfl
            | _ => rfl
          rw [e] at q
          exact q
      | _ => exact iteF q
    · rw [Bool.eq_false_iff.mpr hp]
      have e : greatD ns d = false := by
        match d, hp with
        | .none, _ => rfl
        | .bool _, _ => rfl
        | .int _, _ => rfl
        | .str _, _ => rfl
        | .list _, _ => rfl
        | .dict _, _ => rfl
        | .tuple [], _ => rfl
        | .tuple [x], _ => cases x <;> rfl
        | .tuple [_, _], h => exact absurd rfl h
        | .tuple (x :: y :: _ :: _), _ => cases x <;> first | rfl | (cases y <;> rfl)
      rw [e] at q
      exact iteT q
end
end XB
set_option Elab.async false
set_option linter.all false
set_option maxRecDepth 100000
set_option maxHeartbeats 4000000
namespace XB
open PySem PySem.Spec PyProof.Rows L2
theorem take_snoc {α : Type} {l : List α} {k : Nat} {s : α} (h : l[k]? = some s) : l.take (k + 1) = l.take k ++ [s] := by
  rw [List.take_add_one, h]
  rfl
theorem drop_at {α : Type} {l : List α} {k : Nat} {s : α} (h : l[k]? = some s) : l.drop k = s :: l.drop (k + 1) := by
  obtain ⟨h1, rfl⟩ := List.getElem?_eq_some_iff.mp h
  exact List.drop_eq_getElem_cons h1
section
variable {P : Program} {w : World} {K : PySem.W.Frag} {mg : Str → Option Value} {base : Heap}
def spLastTouched (K : PySem.W.Frag) : Sp := fun vs H Q _ => ∃ (a l : Addr) (ns : List Str) (xs : List V) (row : List (Str × Int)), vs = [.ref a, .ref l] ∧ SqT K H a (ns.map V.str) ∧ SqX K H l xs ∧ DpAll K H xs (row.map dStep) ∧ Q (.int (XM.lastIx (fun b => ns.contains b) row.reverse)) H
theorem c_last_touched (T : Tx K mg) : Cl P w K mg base CX0 1 "last_touched" (spLastTouched K) := by
  refine cl0 T.d_last_touched (ps := ["names", "pieces"]) (fun _ _ _ _ _ _ us hl => match us, hl with | [_, _], _ => rfl) sc_last_touched (fun vs H Q E h => ?_) (fun f cdv A outer st H vs Q E hr h => ?_)
  · obtain ⟨a, l, ns, xs, row, rfl, _⟩ := h
    rfl
  · obtain ⟨a, l, ns, xs, row, rfl, hA, hS, hD, q⟩ := h
    have nd := sc_last_touched.nd
    have hl := hD.len
    rw [List.length_map] at hl
    refine ⟨_, pss_cons (ps_set (i := 2) nd rfl (.inl rfl) (pe_op op_sub (pe_lenS (by rfl) T.b_len (pv 1)) pe_int))
      (pss_cons (ps_while PassesOwn.never (PW.pt (pw_and (pt_cmpR op_ge (pv 2) pe_int (nomark _)) (pw_and1 (pt_cmpR op_notIn_seq (pe_ix ix_tup (pe_ix (ixk_row (K := K) rfl) (pv 1) (pv 2) (fun _ _ => rfl)) pe_int (fun _ _ => rfl)) (pv 0) (by rfl)))))
        (pss_one (ps_aug (i := 2) nd rfl (.inl rfl) pe_int ip_sub)))
      (pss_one (ps_ret (pv 2)))), ?_⟩
    refine ⟨_, rfl, l, xs, rfl, hS, _, _, rfl, rfl, ?_⟩
    refine ⟨fun m σ H' => H' = H ∧ ∃ k : Nat, m = k ∧ k ≤ row.length ∧ σ = [some (.ref a), some (.ref l), some (.int ((k : Int) - 1))] ∧ XM.lastIx (fun b => ns.contains b) row.reverse = XM.lastIx (fun b => ns.contains b) (row.take k).reverse,
      ⟨row.length, rfl, row.length, rfl, Nat.le_refl _, by rw [hl]; rfl, by rw [List.take_length]⟩, ?_⟩
    rintro m σ H' ⟨rfl, k, rfl, hk, rfl, e⟩
    refine ⟨_, rfl, _, _, rfl, rfl, _, rfl, ?_⟩
    rcases m with _ | k
    · refine iteF (iteF ⟨_, rfl, ?_⟩)
      rw [e] at q
      exact q
    · rw [show decide ((0 : Int) ≤ ((k + 1 : Nat) : Int) - 1) = true from decide_eq_true (by omega)]
      have hs : row[k]? = some row[k] := List.getElem?_eq_getElem hk
      generalize row[k] = s at hs
      obtain ⟨b, hb, cb⟩ := hD.step hs
      refine iteT ⟨_, rfl, _, rfl, _, _, _, _, rfl, rfl, hS, at_of (j := k) (by omega) hb, _, _, _, _, rfl, rfl, cb, rfl, _, rfl, a, _, rfl, .inr hA, rfl, flat_strs ns, _, rfl, ?_⟩
      rw [if_pos rfl, inV_strs]
      rw [take_snoc hs, List.reverse_append] at e
      have e : _ = (if ns.contains s.1 then ((row.take k).reverse.length : Int) else XM.lastIx (fun b => ns.contains b) (row.take k).reverse) := e
      cases hc : ns.contains s.1
      · rw [hc] at e
        refine iteT ⟨fun σ' H'' => H'' = H' ∧ σ' = [some (.ref a), some (.ref l), some (.int ((k : Int) - 1))], fun σ' H'' h => ?_, ?_⟩
        · obtain ⟨rfl, rfl⟩ := h
          exact ⟨k, by omega, rfl, k, rfl, by omega, rfl, e⟩
        · refine ⟨_, rfl, _, _, rfl, rfl, rfl, ?_⟩
          show [some (V.ref a), some (.ref l), some (.int (((k + 1 : Nat) : Int) - 1 - 1))] = _
          rw [show ((k + 1 : Nat) : Int) - 1 - 1 = (k : Int) - 1 by omega]
      · rw [hc, if_pos rfl, List.length_reverse, List.length_take, Nat.min_eq_left (by omega)] at e
        rw [e] at q
        refine iteF ⟨_, rfl, ?_⟩
        show Q (.int (((k + 1 : Nat) : Int) - 1)) H'
        rw [show ((k + 1 : Nat) : Int) - 1 = (k : Int) by omega]
        exact q
def spPlaceBehind (K : PySem.W.Frag) (F : Fld) : Sp := fun vs H Q _ => ∃ (l : Addr) (z : Int) (i : Nat) (nm : Str) (xs : List V) (row : List (Str × Int)), vs = [.ref l, .int z, .str nm] ∧ z + 1 = (i : Int) ∧ i ≤ row.length ∧ SqX K H l xs ∧ DpAll K H xs (row.map dStep) ∧ Q (.int ((i + XM.lead (OF F) nm (row.drop i) : Nat) : Int)) H
theorem c_place_behind (T : Tx K mg) (F : Fld) : Cl P w K mg base CX0 1 "place_behind" (spPlaceBehind K F) := by
  refine cl0 T.d_place_behind (ps := ["pieces", "at", "name"]) (fun _ _ _ _ _ _ us hl => match us, hl with | [_, _, _], _ => rfl) sc_place_behind (fun vs H Q E h => ?_) (fun f cdv A outer st H vs Q E hr h => ?_)
  · obtain ⟨l, z, i, nm, xs, row, rfl, _⟩ := h
    rfl
  · obtain ⟨l, z, i, nm, xs, row, rfl, ez, hi, hS, hD, q⟩ := h
    have nd := sc_place_behind.nd
    have hl := hD.len
    rw [List.length_map] at hl
    refine ⟨_, pss_cons (ps_set (i := 3) nd rfl (.inl rfl) (pe_op op_add (pv 1) pe_int))
      (pss_cons (ps_while PassesOwn.never (PW.pt (pw_and (pt_cmpR op_lt (pv 3) (pe_lenS (by rfl) T.b_len (pv 0)) (nomark _)) (pw_and1 (pt_cmpR op_lt_str (pe_ix ix_tup (pe_ix (ixk_row (K := K) rfl) (pv 0) (pv 3) (fun _ _ => rfl)) pe_int (fun _ _ => rfl)) (pv 2) (nomark _)))))
        (pss_one (ps_aug (i := 3) nd rfl (.inl rfl) pe_int ip_add)))
      (pss_one (ps_ret (pv 3)))), ?_⟩
    have ez : (V.int (z + 1)) = V.int (i : Int) := by rw [ez]
    refine ⟨_, rfl, _, _, rfl, rfl, ?_⟩
    refine ⟨fun m σ H' => H' = H ∧ ∃ k : Nat, m = row.length - k ∧ k ≤ row.length ∧ σ = [some (.ref l), some (.int z), some (.str nm), some (.int (k : Int))] ∧ i + XM.lead (OF F) nm (row.drop i) = k + XM.lead (OF F) nm (row.drop k),
      ⟨_, rfl, i, rfl, hi, by rw [← ez]; rfl, rfl⟩, ?_⟩
    rintro m σ H' ⟨rfl, k, rfl, hk, rfl, e⟩
    refine ⟨_, rfl, _, rfl, l, xs, rfl, hS, _, _, rfl, rfl, _, rfl, ?_⟩
    rw [hl]
    by_cases hlt : k < row.length
    · rw [show decide ((k : Int) < (row.length : Int)) = true from decide_eq_true (by omega)]
      have hs : row[k]? = some row[k] := List.getElem?_eq_getElem hlt
      generalize row[k] = s at hs
      obtain ⟨b, hb, cb⟩ := hD.step hs
      refine iteT ⟨_, rfl, _, rfl, _, _, _, _, rfl, rfl, hS, at_of (j := k) rfl hb, _, _, _, _, rfl, rfl, cb, rfl, _, rfl, _, _, rfl, rfl, _, rfl, ?_⟩
      rw [drop_at hs] at e
      have e : i + XM.lead (OF F) nm (row.drop i) = k + (if sLt s.1 nm then XM.lead (OF F) nm (row.drop (k + 1)) + 1 else 0) := e
      cases hc : sLt s.1 nm
      · rw [hc] at e
        rw [show decide (s.1.cps.toList < nm.cps.toList) = false from hc]
        refine iteF ⟨_, rfl, ?_⟩
        rw [e] at q
        exact q
      · rw [hc, if_pos rfl] at e
        rw [show decide (s.1.cps.toList < nm.cps.toList) = true from hc]
        refine iteT ⟨fun σ' H'' => H'' = H' ∧ σ' = [some (.ref l), some (.int z), some (.str nm), some (.int ((k + 1 : Nat) : Int))], fun σ' H'' h => ?_, ?_⟩
        · obtain ⟨rfl, rfl⟩ := h
          exact ⟨row.length - (k + 1), by omega, rfl, k + 1, rfl, hlt, rfl, by omega⟩
        · exact ⟨_, rfl, _, _, rfl, rfl, rfl, rfl⟩
    · rw [show decide ((k : Int) < (row.length : Int)) = false from decide_eq_false (by omega)]
      refine iteF (iteF ⟨_, rfl, ?_⟩)
      rw [e, show row.drop k = [] from List.drop_eq_nil_iff.mpr (by omega)] at q
      exact q
end
end XB
set_option Elab.async false
set_option linter.all false
set_option maxRecDepth 100000
set_option maxHeartbeats 4000000
/-! comprehensions with two fors; data that stand where all stands -/
namespace XB
open PySem PySem.Spec PyProof.Rows L2
theorem pi_tupk {X : Cx} {tg e : Expr} {te : TE} {K : PySem.W.Frag} (hk : X.K = K) (he : PE X e te) : PI X tg e (iTup K te) := by
  subst hk
  exact pi_tup he
theorem pi_listk {X : Cx} {tg e : Expr} {te : TE} {K : PySem.W.Frag} (hk : X.K = K) (he : PE X e te) : PI X tg e (iList K te) := by
  subst hk
  exact pi_list he
theorem cr_allk {X : Cx} {K : PySem.W.Frag} (hk : X.K = K) (hc : X.calm = true) : CallR X (.builtin "all") (rAll K) := by
  subst hk
  exact cr_all hc
theorem pi_enumk {X : Cx} {K : PySem.W.Frag} (hk : X.K = K) {e : Expr} {ta : TA} {p pos tpos : Pos} {elts : List Expr} {kk : Nat} (hg : Gl X "enumerate") (hm : X.mg "enumerate" = none) (ha : PA X [e] ta) (hs : starEach [e] X.env = [(false, eval e X.env)] := by rfl) :
    PI X (.Tuple elts kk tpos) (.Call (.Name "enumerate" p) [e] [] pos) (iEnum K ta) := by
  subst hk
  exact pi_enum hg hm ha hs
theorem pt_truthk {X : Cx} {K : PySem.W.Frag} (hk : X.K = K) {a : Expr} {ta : TE} (ha : PE X a ta) (he : ∀ whole, isTrue a X.env whole = (do let v ← whole; standAt a.pos; holding [v] (truthy v)) := by intro _; rfl) : PT X a (fun σ H Q => ta σ H fun x H' => ∃ k, TruV K x H' k ∧ Q k H') := by
  subst hk
  exact pt_truth ha he
/-- the inner for -/
def Lc2In (J1 : It) (g1 : TG) (tt1 : TT) (te : TE) (vs1 : List Nat) (σ2 : L2.St) (D : Addr) (Nx : Hp → Prop) (H4 : Hp) : Prop :=
  ∃ W1 : Nat → Nat → Hp → Prop, (∃ m, W1 0 m H4) ∧ ∀ j k H, W1 j k H →
      (J1.stop j H ∧ Nx H) ∨ (J1.go j H ∧ ∃ Nx1 : Hp → Prop, (∀ H', Nx1 H' → ∃ k', k' < k ∧ W1 (j + 1) k' H') ∧ ∀ x H', J1.yld j H x H' → g1 x (wipe σ2 vs1) H' fun σ3 H5 => wipe σ3 vs1 = wipe σ2 vs1 ∧ tt1 σ3 H5 fun b H6 =>
        if b = true then te σ3 H6 fun y H7 => ∃ acc, H7 D = some (.lst acc) ∧ acc.length < sizeLine ∧ Nx1 (upd H7 D (.lst (acc ++ [y]))) else Nx1 H6)
theorem lc2_in {J1 : It} {n1 : Nat} {G1 : Hp → Prop} {Y1 : Nat → Hp → V → Hp → Prop} (w : Walk J1 n1 G1 Y1) {g1 : TG} {tt1 : TT} {te : TE} {vs1 : List Nat} {σ2 : L2.St} {D : Addr} {Nx : Hp → Prop} {H4 : Hp} (Pv : Nat → Hp → Prop) (h0 : Pv 0 H4) (hG : ∀ i H, i ≤ n1 → Pv i H → G1 H)
    (hs : ∀ i x H H', i < n1 → Pv i H → Y1 i H x H' → g1 x (wipe σ2 vs1) H' fun σ3 H5 => wipe σ3 vs1 = wipe σ2 vs1 ∧ tt1 σ3 H5 fun b H6 =>
      if b = true then te σ3 H6 fun y H7 => ∃ acc, H7 D = some (.lst acc) ∧ acc.length < sizeLine ∧ Pv (i + 1) (upd H7 D (.lst (acc ++ [y]))) else Pv (i + 1) H6) (hd : ∀ H, Pv n1 H → Nx H) : Lc2In J1 g1 tt1 te vs1 σ2 D Nx H4 := by
  refine ⟨fun i m H => m = n1 - i ∧ i ≤ n1 ∧ Pv i H, ⟨n1, by simp, Nat.zero_le _, h0⟩, ?_⟩
  rintro i m H ⟨rfl, hi, p⟩
  have q := hG i H hi p
  by_cases hlt : i < n1
  · refine .inr ⟨w.goes i H hlt q, Pv (i + 1), fun H' p' => ⟨n1 - (i + 1), by omega, rfl, hlt, p'⟩, fun x H' y => hs i x H H' hlt p (w.yields i H x H' hlt q y)⟩
  · have e : i = n1 := by omega
    subst e
    exact .inl ⟨w.stops H q, hd H p⟩
theorem lc2_out {J : It} {n : Nat} {G : Hp → Prop} {Y : Nat → Hp → V → Hp → Prop} (w : Walk J n G Y) {wi1 : TI} {g g1 : TG} {tt tt1 : TT} {te : TE} {vs vs1 : List Nat} {σ : L2.St} {H1 : Hp} {D : Addr} {Qd : Hp → Prop} (Pv : Nat → Hp → Prop) (h0 : Pv 0 (upd H1 D (.lst []))) (hG : ∀ i H, i ≤ n → Pv i H → G H)
    (hs : ∀ i x H H', i < n → Pv i H → Y i H x H' → g x (wipe σ vs) H' fun σ2 H2 => wipe σ2 vs = wipe σ vs ∧ tt σ2 H2 fun b H3 =>
      if b = true then wi1 σ2 H3 fun J1 H4 => Lc2In J1 g1 tt1 te vs1 σ2 D (Pv (i + 1)) H4 else Pv (i + 1) H3) (hd : ∀ H, Pv n H → Qd H) :
    ∃ W : Nat → Nat → Hp → Prop, (∃ m, W 0 m (upd H1 D (.lst []))) ∧ ∀ i m H, W i m H →
      (J.stop i H ∧ Qd H) ∨ (J.go i H ∧ ∃ Nx : Hp → Prop, (∀ H', Nx H' → ∃ m', m' < m ∧ W (i + 1) m' H') ∧ ∀ x H', J.yld i H x H' → g x (wipe σ vs) H' fun σ2 H2 => wipe σ2 vs = wipe σ vs ∧ tt σ2 H2 fun b H3 =>
        if b = true then wi1 σ2 H3 fun J1 H4 => Lc2In J1 g1 tt1 te vs1 σ2 D Nx H4 else Nx H3) := by
  refine ⟨fun i m H => m = n - i ∧ i ≤ n ∧ Pv i H, ⟨n, by simp, Nat.zero_le _, h0⟩, ?_⟩
  rintro i m H ⟨rfl, hi, p⟩
  have q := hG i H hi p
  by_cases hlt : i < n
  · refine .inr ⟨w.goes i H hlt q, Pv (i + 1), fun H' p' => ⟨n - (i + 1), by omega, rfl, hlt, p'⟩, fun x H' y => hs i x H H' hlt p (w.yields i H x H' hlt q y)⟩
  · have e : i = n := by omega
    subst e
    exact .inl ⟨w.stops H q, hd H p⟩
theorem sqL_same {K : PySem.W.Frag} {H H' : Hp} {a : Addr} {xs : List V} (s : Same H H') (h : SqL K H a xs) : SqL K H' a xs := s.seq h
mutual
theorem Dp.sm {K : PySem.W.Frag} {H H' : Hp} (s : Same H H') : ∀ (d : PyData) {v : V}, Dp K H v d → Dp K H' v d
  | .none, _, h => by cases h; exact .non
  | .bool b, _, h => by cases h; exact .bl b
  | .int i, _, h => by cases h; exact .int i
  | .str x, _, h => by cases h; exact .str x
  | .list ds, _, h => by
    cases h with
    | lst h1 h2 => exact .lst (s.seq h1) (DpAll.sm s ds h2)
  | .tuple ds, _, h => by
    cases h with
    | tup h1 h2 => exact .tup ((Tk.of s).sqT h1) (DpAll.sm s ds h2)
  | .dict _, _, h => by cases h
theorem DpAll.sm {K : PySem.W.Frag} {H H' : Hp} (s : Same H H') : ∀ (ds : List PyData) {vs : List V}, DpAll K H vs ds → DpAll K H' vs ds
  | [], _, h => by cases h; exact .nil
  | d :: ds, _, h => by
    cases h with
    | cons h1 h2 => exact .cons (Dp.sm s d h1) (DpAll.sm s ds h2)
end
/-- a list of data -/
def RowG (K : PySem.W.Frag) (H : Hp) (D : Addr) (ds : List PyData) : Prop := ∃ xs, H D = some (.lst xs) ∧ DpAll K H xs ds
theorem RowG.same {K : PySem.W.Frag} {H H' : Hp} {D : Addr} {ds : List PyData} (h : RowG K H D ds) (s : Same H H') : RowG K H' D ds := by
  obtain ⟨xs, e, v⟩ := h
  exact ⟨xs, s _ _ e, DpAll.sm s ds v⟩
theorem rowCatG {K : PySem.W.Frag} {H : Hp} {a b : Addr} {l m : List PyData} {Q : VK} (h1 : RowG K H a l) (h2 : RowG K H b m) (hl : l.length + m.length ≤ 9000) (q : ∀ H' p, Same H H' → H p = none → RowG K H' p (l ++ m) → Q (.ref p) H') : rCat (.ref a) (.ref b) H Q := by
  obtain ⟨xs, e1, v1⟩ := h1
  obtain ⟨ys, e2, v2⟩ := h2
  have l1 := v1.len
  have l2 := v2.len
  refine catL e1 e2 (Nat.le_trans (show xs.length + ys.length ≤ 9000 by omega) (by decide)) fun H' p s hp e => q H' p s hp ⟨_, e, ?_⟩
  exact (DpAll.sm s l v1).app (DpAll.sm s m v2)
end XB
set_option Elab.async false
set_option linter.all false
/-! len and isinstance inside a comprehension's block -/
namespace XB
open PySem PySem.Spec PyProof.Rows L2
theorem pe_lenSk {X : Cx} {K : PySem.W.Frag} {e : Expr} {te : TE} {p pos : Pos} (hk : X.K = K) (hg : Gl X "len") (hm : X.mg "len" = none) (he : PE X e te) (h1 : starEach [e] X.env = (false, eval e X.env) :: starEach [] X.env := by rfl) :
    PE X (.Call (.Name "len" p) [e] [] pos) (tCB (fun xs H Q => ∃ p ys, xs = [V.ref p] ∧ (SqL K H p ys ∨ SqT K H p ys) ∧ Q (.int ys.length) H) (tCons te tNil)) := by
  subst hk
  exact pe_lenS hg hm he h1
theorem pe_isTk {X : Cx} {K : PySem.W.Frag} {x : Str} {e : Expr} {te : TE} {p q pos : Pos} (hk : X.K = K) (T : String) (hgI : Gl X "isinstance") (hmI : X.mg "isinstance" = none) (hgT : Gl X x) (hmT : X.mg x = none) (hv : bootBuiltins x = some (.type T)) (he : PE X e te)
    (hn : x ≠ "__name__" := by decide) (hdb : (x == ("__debug__" : Str)) = false := by decide)
    (h1 : starEach [e, .Name x q] X.env = (false, eval e X.env) :: starEach [.Name x q] X.env := by rfl) (h2 : starEach [.Name x q] X.env = (false, eval (.Name x q) X.env) :: starEach [] X.env := by rfl) :
    PE X (.Call (.Name "isinstance" p) [e, .Name x q] [] pos) (tCB (rIsi K) (tCons te (tCons (tC (.ty T)) tNil))) := by
  subst hk
  exact pe_isT T hgI hmI hgT hmT hv he hn hdb h1 h2
end XB
set_option Elab.async false
set_option linter.all false
set_option maxRecDepth 100000
set_option maxHeartbeats 4000000
namespace XB
open PySem PySem.Spec PyProof.Rows L2
/-! what the program takes for a name, for names: of any data -/
def okLetter (c : Nat) : Bool := decide (97 ≤ c) && decide (c ≤ 122)
def nameD : PyData → Bool
  | .str s => decide (1 ≤ s.length) && decide (s.length ≤ 6) && s.cps.toList.all okLetter
  | _ => false
/-- whether the texts rise -/
def ascS (l : List Str) : Bool := ((l.zip (l.drop 1)).map fun p => sLt p.1 p.2).all id
def strOf : PyData → Str
  | .str s => s
  | _ => ""
def namesD : PyData → Bool
  | .tuple ds => decide (1 ≤ ds.length) && decide (ds.length ≤ 6) && (ds.all nameD && ascS (ds.map strOf))
  | _ => false
theorem names_strs : ∀ {ds : List PyData}, ds.all nameD = true → ds = (ds.map strOf).map PyData.str
  | [], _ => rfl
  | d :: ds, h => by
    rw [List.all_cons, Bool.and_eq_true] at h
    rw [List.map_cons, List.map_cons, ← names_strs h.2]
    congr 1
    cases d <;> first | rfl | cases h.1
/-- no text is too long -/
def TextsOk (d : PyData) : Prop := ∀ s, d = .str s → s.length ≤ 100000
section
variable {P : Program} {w : World} {K : PySem.W.Frag} {mg : Str → Option Value} {base : Heap}
def spNameD (K : PySem.W.Frag) : Sp := fun vs H Q _ => ∃ (v : V) (d : PyData), vs = [v] ∧ Dp K H v d ∧ TextsOk d ∧ ∀ H', Same H H' → Q (.bl (nameD d)) H'
theorem c_is_nameD (T : Tx K mg) : Cl P w K mg base CX0 1 "is_name" (spNameD K) := by
  refine cl0 T.d_is_name (ps := ["value"]) (fun _ _ _ _ _ _ us hl => match us, hl with | [_], _ => rfl) sc_is_name (fun vs H Q E h => ?_) (fun f cdv A outer st H vs Q E hr h => ?_)
  · obtain ⟨v, d, rfl, _⟩ := h
    rfl
  · obtain ⟨v, d, rfl, hd, tx, q⟩ := h
    have nd := sc_is_name.nd
    obtain ⟨tk, h_MOST_LETTERS⟩ := T.g_MOST_LETTERS
    refine ⟨_, pss_cons (ps_if (PW.pt (pw_or (pt_not (pt_val (pe_isT "str" (by rfl) T.b_isinstance (by rfl) T.b_str (by decide +kernel) (pv 0)))) (pw_or1 (pt_not (pt_chain op_le op_le pe_int (pe_lenT (by rfl) T.b_len (pv 0)) (pe_glob (v := .int 6) (by rfl) h_MOST_LETTERS ⟨_, rfl⟩)))))) (pss_one (ps_ret pe_bl)) pss_nil)
      (pss_one (ps_ret (pe_callB (cr_all rfl) (by rfl) T.b_all (by decide +kernel) (pa_cons (pe_lc (own := [("letter", 1)]) (g := gName 1) (tt := tYes) (by rfl) nd (pi_str (pv 0))
        (blkOk_by (own := [("letter", 1)]) (N := ["value", "letter"]) (sc := defScope s_is_name) (by decide +kernel)) (fun _ _ _ _ _ => pg_name (i := 1) nd rfl (Or.inl rfl)) (fun _ _ _ _ _ => pts_nil) (fun _ _ _ _ _ => pe_chain op_le_str op_le_str pe_str (pv 1) pe_str)) pa_nil)))), ?_⟩
    refine ⟨_, rfl, v, .ty "str", _, _, _, rfl, .ty _, tyx_data hd, kit_data (by simp) hd, _, rfl, ?_⟩
    cases d with
    | str s =>
      cases hd
      have s1000 := tx s rfl
      have hsz : s.length ≤ sizeLine := Nat.le_trans s1000 (by decide)
      refine iteF ?_
      refine ⟨_, rfl, s, rfl, hsz, _, _, rfl, rfl, _, rfl, ?_⟩
      have e1 : decide ((1 : Int) ≤ (s.length : Int)) = decide (1 ≤ s.length) := decide_eq_decide.mpr (by omega)
      have e2 : decide ((s.length : Int) ≤ 6) = decide (s.length ≤ 6) := decide_eq_decide.mpr (by omega)
      rw [e1]
      by_cases h1 : 1 ≤ s.length
      · rw [decide_eq_true h1]
        refine iteT ⟨_, _, rfl, rfl, _, rfl, ?_⟩
        rw [e2]
        by_cases h6 : s.length ≤ 6
        · rw [decide_eq_true h6]
          refine iteF ?_
          refine ⟨_, rfl, s, rfl, fun D hD => ?_⟩
          refine lc_it walk_str (fun i H' => H' D = some (.lst (((s.cps.toList.take i).map okLetter).map V.bl)) ∧ Same H H') ⟨upd_same, same_upd hD⟩ (fun _ _ _ _ => True.intro) (fun i x H2 H3 hi ⟨eD, s'⟩ hy => ?_) (fun H2 ⟨eD, s'⟩ => ?_)
          · obtain ⟨rfl, c, hc, rfl⟩ := hy
            rw [← Array.getElem?_toList] at hc
            refine ⟨rfl, yes_ ?_⟩
            refine ⟨_, rfl, _, _, rfl, rfl, _, rfl, ?_⟩
            have e1 : (!decide ((⟨#[c]⟩ : Str).cps.toList < ("a" : Str).cps.toList)) = decide (97 ≤ c) := by
              show (!decide ([c] < [97])) = _
              rw [← decide_not]
              refine decide_eq_decide.mpr ?_
              simp [List.cons_lt_cons_iff]
            have e2 : (!decide (("z" : Str).cps.toList < (⟨#[c]⟩ : Str).cps.toList)) = decide (c ≤ 122) := by
              show (!decide ([122] < [c])) = _
              rw [← decide_not]
              refine decide_eq_decide.mpr ?_
              simp [List.cons_lt_cons_iff]
            rw [e1]
            have fin : ∀ b, b = okLetter c → ∃ acc, H3 D = some (.lst acc) ∧ acc.length < sizeLine ∧ upd H3 D (.lst (acc ++ [V.bl b])) D = some (.lst (((s.cps.toList.take (i + 1)).map okLetter).map V.bl)) ∧ Same H (upd H3 D (.lst (acc ++ [V.bl b]))) := fun b hb => by
              refine ⟨_, eD, ?_, ?_, same_put s' hD⟩
              · rw [List.length_map, List.length_map, List.length_take]
                exact small1000 (Nat.le_trans (Nat.min_le_left _ _) (by
                  have : s.cps.size = s.length := rfl
                  omega))
              · rw [upd_same, take_snoc hc, List.map_append, List.map_append, hb]
                rfl
            by_cases ha : 97 ≤ c
            · rw [decide_eq_true ha]
              refine iteT ⟨_, _, rfl, rfl, ?_⟩
              rw [e2]
              exact fin _ (by unfold okLetter; rw [decide_eq_true ha, Bool.true_and])
            · rw [decide_eq_false ha]
              exact iteF (fin _ (by unfold okLetter; rw [decide_eq_false ha, Bool.false_and]))
          · refine ⟨D, (s.cps.toList.map okLetter), rfl, SqL.of ?_, ?_⟩
            · rw [eD, List.take_of_length_le (by simp)]
            · have e : (s.cps.toList.map okLetter).all id = nameD (.str s) := by
                show _ = (decide (1 ≤ s.length) && decide (s.length ≤ 6) && s.cps.toList.all okLetter)
                rw [decide_eq_true h1, decide_eq_true h6, List.all_map]
                rfl
              rw [e]
              exact q _ s'
        · rw [decide_eq_false h6]
          have e : nameD (.str s) = false := by
            show (decide (1 ≤ s.length) && decide (s.length ≤ 6) && _) = false
            rw [decide_eq_false h6, Bool.and_false, Bool.false_and]
          rw [e] at q
          exact iteT (q _ (Same.refl _))
      · rw [decide_eq_false h1]
        have e : nameD (.str s) = false := by
          show (decide (1 ≤ s.length) && decide (s.length ≤ 6) && _) = false
          rw [decide_eq_false h1, Bool.false_and, Bool.false_and]
        rw [e] at q
        exact iteF ⟨_, rfl, iteT (q _ (Same.refl _))⟩
    | _ => exact iteT (q _ (Same.refl _))
def spAscD (K : PySem.W.Frag) : Sp := fun vs H Q _ => ∃ (a : Addr) (l : List Str), vs = [.ref a] ∧ SqT K H a (l.map V.str) ∧ l.length ≤ 1000 ∧ ∀ H', Same H H' → Q (.bl (ascS l)) H'
theorem c_is_ascendingD (T : Tx K mg) : Cl P w K mg base CX0 1 "is_ascending" (spAscD K) := by
  refine cl0 T.d_is_ascending (ps := ["items"]) (fun _ _ _ _ _ _ us hl => match us, hl with | [_], _ => rfl) sc_is_ascending (fun vs H Q E h => ?_) (fun f cdv A outer st H vs Q E hr h => ?_)
  · obtain ⟨a, l, rfl, _⟩ := h
    rfl
  · obtain ⟨a, l, rfl, hS, hlen, q⟩ := h
    have nd := sc_is_ascending.nd
    have hu := hr.units
    refine ⟨_, pss_one (ps_ret (pe_callB (cr_all rfl) (by rfl) T.b_all (by decide +kernel) (pa_cons (pe_lc (own := [("one", 1), ("other", 2)]) (g := gTup K 2 (gCons (gName 1) (gCons (gName 2) gNil))) (tt := tYes) (by rfl) nd
        (RZ.pi_zipA (by rfl) T.b_zip (pa_cons (pv 0) (pa_cons (pe_slice sl_tupA (pv 0) (po_some pe_int) po_none) pa_nil)))
        (blkOk_by (own := [("one", 1), ("other", 2)]) (N := ["items", "one", "other"]) (sc := defScope s_is_ascending) (by decide +kernel))
        (fun _ _ _ _ _ => pg_tup rfl (pgs_cons (pg_name (i := 1) nd rfl (Or.inl rfl)) (pgs_cons (pg_name (i := 2) nd rfl (Or.inl rfl)) pgs_nil))) (fun _ _ _ _ _ => pts_nil) (fun _ _ _ _ _ => pe_cmpR op_lt_str (pv 1) (pv 2) (nomark _))) pa_nil))), ?_⟩
    refine ⟨_, rfl, _, rfl, 1, rfl, ?_⟩
    refine noPart ?_
    refine sl_tail hS (fun e => ?_) (fun hne b hb => ?_)
    · have e0 : l = [] := List.map_eq_nil_iff.mp e
      subst e0
      refine ⟨a, a, _, _, rfl, .inr ⟨hS, hS, fun D hD => ?_⟩⟩
      refine lc_it (walk_zipT (xs := []) (ys := []) rfl) (fun i H' => H' D = some (.lst []) ∧ Same H H') ⟨upd_same, same_upd hD⟩ (fun i H' _ ⟨_, s'⟩ => ⟨(Tk.of s').sqT hS, (Tk.of s').sqT hS⟩)
        (fun i x H2 H3 hi _ _ => absurd hi (Nat.not_lt_zero _)) (fun H2 ⟨eD, s'⟩ => ?_)
      exact ⟨D, [], rfl, SqL.of eD, q _ s'⟩
    · have hB : SqT K (upd H b (.tup ((l.map V.str).drop 1))) b ((l.drop 1).map V.str) := by
        rw [List.map_drop]
        exact SqT.of upd_same
      have hA := (Tk.of (same_upd (o := .tup ((l.map V.str).drop 1)) hb)).sqT hS
      have sm := same_upd (o := .tup ((l.map V.str).drop 1)) hb
      generalize upd H b (.tup ((l.map V.str).drop 1)) = H1 at hA hB sm ⊢
      refine ⟨a, b, _, _, rfl, .inr ⟨hA, hB, fun D hD => ?_⟩⟩
      refine lc_it (walk_zipT (xs := l.map V.str) (ys := (l.drop 1).map V.str) rfl) (fun i H' => H' D = some (.lst ((((l.zip (l.drop 1)).take i).map fun p => sLt p.1 p.2).map V.bl)) ∧ Same H1 H') ⟨upd_same, same_upd hD⟩ (fun i H' _ ⟨_, s'⟩ => ⟨(Tk.of s').sqT hA, (Tk.of s').sqT hB⟩)
        (fun i x H2 H3 hi ⟨eD, s'⟩ hy => ?_) (fun H2 ⟨eD, s'⟩ => ?_)
      · obtain ⟨Tt, x1, x2, rfl, nT, rfl, f1, f2⟩ := hy
        obtain ⟨y1, g1, rfl⟩ := str_at f1
        obtain ⟨y2, g2, rfl⟩ := str_at f2
        have nDT : D ≠ Tt := ne_of_none eD nT
        have gz : (l.zip (l.drop 1))[i]? = some (y1, y2) := by
          rw [List.getElem?_zip_eq_some]
          exact ⟨g1, g2⟩
        refine ⟨Tt, _, rfl, SqT.of upd_same, rfl, _, _, rfl, _, _, rfl, rfl, rfl, yes_ ?_⟩
        refine ⟨_, rfl, _, rfl, _, _, rfl, rfl, _, by rw [upd_ne nDT]; exact eD, ?_, ?_, ?_⟩
        · rw [List.length_map, List.length_map, List.length_take, List.length_zip]
          exact small1000 (by omega)
        · rw [upd_same, take_snoc gz, List.map_append, List.map_append]
          rfl
        · exact same_put (same_new s' nT) hD
      · refine ⟨D, (l.zip (l.drop 1)).map (fun p : Str × Str => sLt p.1 p.2), rfl, SqL.of ?_, q _ (sm.trans s')⟩
        rw [eD, List.take_of_length_le (by rw [List.length_zip, List.length_map, List.length_map]; omega)]
def spNamesD (K : PySem.W.Frag) : Sp := fun vs H Q _ => ∃ (v : V) (d : PyData), vs = [v] ∧ Dp K H v d ∧ (∀ ds, d = .tuple ds → ∀ x ∈ ds, TextsOk x) ∧ (∀ ds, d = .tuple ds → ds.length ≤ 100000) ∧ ∀ H', Same H H' → Q (.bl (namesD d)) H'
theorem c_are_namesD (T : Tx K mg) : Cl P w K mg base CX0 2 "are_names" (spNamesD K) := by
  refine cl0 T.d_are_names (ps := ["value"]) (fun _ _ _ _ _ _ us hl => match us, hl with | [_], _ => rfl) sc_are_names (fun vs H Q E h => ?_) (fun f cdv A outer st H vs Q E hr h => ?_)
  · obtain ⟨v, d, rfl, _⟩ := h
    rfl
  · obtain ⟨v, d, rfl, hd, tx, h5, q⟩ := h
    have nd := sc_are_names.nd
    obtain ⟨tk, hMN⟩ := T.g_MOST_NAMES
    refine ⟨_, pss_cons (ps_if (PW.pt (pw_or (pt_not (pt_val (pe_isT "tuple" (by rfl) T.b_isinstance (by rfl) T.b_tuple (by decide +kernel) (pv 0)))) (pw_or1 (pt_not (pt_chain op_le op_le pe_int (pe_lenS (by rfl) T.b_len (pv 0)) (pe_glob (v := .int 6) (by rfl) hMN ⟨_, rfl⟩)))))) (pss_one (ps_ret pe_bl)) pss_nil)
      (pss_one (ps_ret (pe_and (pe_callB (cr_all rfl) (by rfl) T.b_all (by decide +kernel) (pa_cons (pe_lc (own := [("item", 1)]) (g := gName 1) (tt := tYes) (by rfl) nd (pi_tup (pv 0))
        (blkOk_by (own := [("item", 1)]) (N := ["value", "item"]) (sc := defScope s_are_names) (by decide +kernel)) (fun _ _ _ _ _ => pg_name (i := 1) nd rfl (Or.inl rfl)) (fun _ _ _ _ _ => pts_nil) (fun _ _ _ _ _ => pe_k (c_is_nameD T) hr (by decide) (by rfl) (pa_cons (pv 1) pa_nil))) pa_nil))
        (pe_one (pe_k (c_is_ascendingD T) hr (by decide) (by rfl) (pa_cons (pv 0) pa_nil)))))), ?_⟩
    refine ⟨_, rfl, v, .ty "tuple", _, _, _, rfl, .ty _, tyx_data hd, kit_data (.inl rfl) hd, _, rfl, ?_⟩
    cases d with
    | tuple ds =>
      cases hd with
      | tup hS hV =>
      have hl := hV.len
      refine iteF ?_
      refine ⟨_, rfl, _, _, rfl, .inr hS, _, _, rfl, rfl, _, rfl, ?_⟩
      rw [hl]
      have e1 : decide ((1 : Int) ≤ (ds.length : Int)) = decide (1 ≤ ds.length) := decide_eq_decide.mpr (by omega)
      have e2 : decide ((ds.length : Int) ≤ 6) = decide (ds.length ≤ 6) := decide_eq_decide.mpr (by omega)
      rw [e1]
      have nm : namesD (.tuple ds) = (decide (1 ≤ ds.length) && decide (ds.length ≤ 6) && (ds.all nameD && ascS (ds.map strOf))) := rfl
      by_cases h1 : 1 ≤ ds.length
      · rw [decide_eq_true h1] at nm ⊢
        refine iteT ⟨_, _, rfl, rfl, _, rfl, ?_⟩
        rw [e2]
        by_cases h6 : ds.length ≤ 6
        · rw [decide_eq_true h6] at nm ⊢
          rw [Bool.true_and, Bool.true_and] at nm
          refine iteF ?_
          refine ⟨_, rfl, _, rfl, ⟨_, hS⟩, fun D hD => ?_⟩
          refine lc_it (walk_tup (xs := _)) (fun i H' => H' D = some (.lst (((ds.take i).map nameD).map V.bl)) ∧ Same H H') ⟨upd_same, same_upd hD⟩ (fun _ _ _ ⟨_, s'⟩ => (Tk.of s').sqT hS) (fun i x H2 H3 hi ⟨eD, s'⟩ hy => ?_) (fun H2 ⟨eD, s'⟩ => ?_)
          · obtain ⟨rfl, hx⟩ := hy
            obtain ⟨d, hd, hx2⟩ := hV.get hx
            refine ⟨rfl, yes_ ?_⟩
            refine ⟨_, rfl, _, d, rfl, Dp.sm s' _ hx2, tx ds rfl d (List.mem_of_getElem? hd), fun H4 s4 => ⟨_, s4 _ _ eD, ?_, ?_, same_put (s'.trans s4) hD⟩⟩
            · rw [List.length_map, List.length_map, List.length_take]
              exact small1000 (by omega)
            · rw [upd_same, take_snoc hd, List.map_append, List.map_append]
              rfl
          · refine ⟨D, ds.map nameD, rfl, SqL.of (by rw [eD, List.take_of_length_le (by omega)]), _, rfl, ?_⟩
            have ea : (ds.map nameD).all id = ds.all nameD := by
              rw [List.all_map]
              rfl
            rw [ea]
            by_cases hall : ds.all nameD = true
            · rw [hall]
              rw [hall, Bool.true_and] at nm
              refine iteT ⟨_, rfl, _, ds.map strOf, rfl, ?_, by rw [List.length_map]; omega, fun H3 s3 => ?_⟩
              · have eds := names_strs hall
                have : ∀ {xs : List V} {l : List Str}, DpAll K H xs (l.map PyData.str) → xs = l.map V.str := fun {xs l} h => by
                  induction l generalizing xs with
                  | nil =>
                    cases h
                    rfl
                  | cons a l ih =>
                    cases h with
                    | cons h1 h2 =>
                      cases h1
                      rw [List.map_cons, ih h2]
                rw [eds] at hV
                have ex := this hV
                rw [← ex]
                exact (Tk.of s').sqT hS
              · rw [← nm]
                exact q _ (s'.trans s3)
            · rw [Bool.eq_false_iff.mpr hall] at nm ⊢
              rw [Bool.false_and] at nm
              rw [nm] at q
              exact iteF (q _ s')
        · rw [decide_eq_false h6] at nm ⊢
          rw [Bool.and_false, Bool.false_and] at nm
          rw [nm] at q
          exact iteT (q _ (Same.refl _))
      · rw [decide_eq_false h1] at nm ⊢
        rw [Bool.false_and, Bool.false_and] at nm
        rw [nm] at q
        exact iteF ⟨_, rfl, iteT (q _ (Same.refl _))⟩
    | _ => exact iteT (q _ (Same.refl _))
end
end XB
set_option Elab.async false
set_option linter.all false
set_option maxRecDepth 100000
set_option maxHeartbeats 4000000
namespace XB
open PySem PySem.Spec PyProof.Rows L2
/-! need_field of any data, with its refusals -/
/-- the one pair of texts less than the other -/
def ltQ (p q : Str × Str) : Bool := if p.1 == q.1 then (if p.2 == q.2 then false else sLt p.2 q.2) else sLt p.1 q.1
def ascP (l : List (Str × Str)) : Bool := ((l.zip (l.drop 1)).map fun p => ltQ p.1 p.2).all id
def pairOfD (ns : List Str) : PyData → Bool
  | .tuple [.str a, .str b] => ns.contains a && (ns.contains b && sLt a b)
  | _ => false
def prOf : PyData → Str × Str
  | .tuple [.str a, .str b] => (a, b)
  | _ => ("", "")
def pairsD (ns : List Str) : PyData → Bool
  | .tuple ds => ds.all (pairOfD ns) && ascP (ds.map prOf)
  | _ => false
def strsOf : PyData → List Str
  | .tuple ds => ds.map strOf
  | _ => []
/-- the part in which a thing is no field -/
def fieldRef : PyData → Option Str
  | .tuple [a, b] => if namesD a then (if pairsD (strsOf a) b then none else some "pairs") else some "names"
  | _ => some "form"
theorem pairs_prs {ns : List Str} : ∀ {ds : List PyData}, ds.all (pairOfD ns) = true → ds = (ds.map prOf).map dPair
  | [], _ => rfl
  | d :: ds, h => by
    rw [List.all_cons, Bool.and_eq_true] at h
    rw [List.map_cons, List.map_cons, ← pairs_prs h.2]
    congr 1
    match d, h.1 with
    | .tuple [.str a, .str b], _ => rfl
/-- no row is too long -/
def RowsOk (d : PyData) : Prop := ∀ ds, d = .tuple ds → ds.length ≤ 10000
/-- a refusal by the class x, with its field -/
def RefE (K : PySem.W.Frag) (mg : Str → Option Value) (H : Hp) (E : XK) (x f : Str) (y : V) : Prop := ∀ C H' dx, mg x = some (.ref C) → ExcC K C → Same H H' → H' dx = some (.xd [(f, y)]) → E (.ref C) (some dx) H'
theorem RefE.from {K : PySem.W.Frag} {mg : Str → Option Value} {H H1 : Hp} {E : XK} {x f : Str} {y : V} (q : RefE K mg H E x f y) (s : Same H H1) : RefE K mg H1 E x f y := fun C H' dx hC hT s' ed => q C H' dx hC hT (s.trans s') ed
theorem shaped_memN {ds : List PyData} (h : SeqAt.shaped (.tuple ds) = true) : ∀ d ∈ ds, SeqAt.shaped d = true := by
  have h : (PyData.canLay0 (.tuple ds) && decide (PyData.depth (.tuple ds) ≤ 64)) = true := h
  rw [Bool.and_eq_true, decide_eq_true_eq] at h
  obtain ⟨h1, h2⟩ := h
  have h1 : PyData.canLayAll0 ds = true := h1
  rw [PyData.depth] at h2
  have go : ∀ ds : List PyData, PyData.canLayAll0 ds = true → PyData.depthAll ds ≤ 64 → ∀ d ∈ ds, SeqAt.shaped d = true := fun ds => by
    induction ds with
    | nil => exact fun _ _ d hd => nomatch hd
    | cons a ds ih =>
      intro h1 h2 d hd
      have h1 : (PyData.canLay0 a && PyData.canLayAll0 ds) = true := h1
      rw [Bool.and_eq_true] at h1
      rw [PyData.depthAll] at h2
      rcases List.mem_cons.mp hd with e | hd
      · rw [e]
        show (PyData.canLay0 a && decide (PyData.depth a ≤ 64)) = true
        rw [h1.1, Bool.true_and]
        exact decide_eq_true (by omega)
      · exact ih h1.2 (by omega) d hd
  exact go ds h1 (by omega)
theorem small1e4 {n : Nat} (h : n ≤ 10000) : n < sizeLine := Nat.lt_of_le_of_lt h (by decide)
section
variable {P : Program} {w : World} {K : PySem.W.Frag} {mg : Str → Option Value} {base : Heap}
theorem c_BadField (T : Tx K mg) : MkE P w K mg base 1 "BadField" "part" := by
  refine mke0 T.e_BadField (ps := ["self", "part"]) rfl (fun _ _ _ _ _ _ us hl => match us, hl with | [_, _], _ => rfl) (fun _ _ _ _ _ _ _ _ => rfl) sc_BadField___init__ (fun C fI cdv A outer st H vs Q E hC hm hr h => ?_)
  obtain ⟨a, y, rfl, e, q⟩ := h
  exact ⟨_, pss_one (ps_osG (pv 0) (pv 1)), _, rfl, _, rfl, a, C, rfl, hC, T.n_BadField_part C hm, e, q⟩
def spPairOfD (K : PySem.W.Frag) : Sp := fun vs H Q _ => ∃ (n : Addr) (v : V) (ns : List Str) (d : PyData), vs = [.ref n, v] ∧ SqT K H n (ns.map V.str) ∧ SeqAt.shaped (.tuple (ns.map PyData.str)) = true ∧ Dp K H v d ∧ SeqAt.shaped d = true ∧ Q (.bl (pairOfD ns d)) H
theorem c_is_pair_ofD (T : Tx K mg) : Cl P w K mg base CX0 2 "is_pair_of" (spPairOfD K) := by
  refine cl0 T.d_is_pair_of (ps := ["names", "value"]) (fun _ _ _ _ _ _ us hl => match us, hl with | [_, _], _ => rfl) sc_is_pair_of (fun vs H Q E h => ?_) (fun f cdv A outer st H vs Q E hr h => ?_)
  · obtain ⟨n, v, ns, d, rfl, _⟩ := h
    rfl
  · obtain ⟨n, v, ns, d, rfl, hN, sN, hd, sd, q⟩ := h
    have nd := sc_is_pair_of.nd
    have hu := u65 hr
    refine ⟨_, (pss_cons (ps_if (pt_not (pt_val (pe_k (c_is_pairD T) hr (by decide) (by rfl) (pa_cons (pv 1) pa_nil)))) (pss_one (ps_ret pe_bl)) pss_nil)
    (pss_cons (ps_asg (pv 1) (pg_tup rfl (pgs_cons (pg_name (i := 2) nd rfl (.inl rfl)) (pgs_cons (pg_name (i := 3) nd rfl (.inl rfl)) pgs_nil))))
    (pss_one (ps_ret (pe_and (pe_cmpR (op_inDTk (K := K) rfl hu) (pv 2) (pv 0) (by rfl)) (pe_and (pe_cmpR (op_inDTk (K := K) rfl hu) (pv 3) (pv 0) (by rfl)) (pe_one (pe_cmpR op_lt_str (pv 2) (pv 3) (nomark _))))))))), ?_⟩
    refine ⟨_, rfl, v, d, rfl, hd, _, rfl, ?_⟩
    by_cases hp : pairD d = true
    · rw [hp]
      obtain ⟨x, y, rfl⟩ : ∃ x y, d = .tuple [x, y] := by
        match d, hp with
        | .tuple [x, y], _ => exact ⟨x, y, rfl⟩
      obtain ⟨sx, sy⟩ := shaped_two sd
      cases hd with
      | tup hS hV =>
      cases hV with
      | cons hx hV =>
      cases hV with
      | cons hy hV =>
      cases hV
      refine iteF ⟨_, rfl, _, _, rfl, hS, rfl, _, _, rfl, _, _, rfl, rfl, ?_⟩
      refine ⟨_, rfl, _, rfl, x, _, hx, .tup hN (DpAll.strs ns), sx, sN, _, rfl, ?_⟩
      rw [any_strs]
      cases x with
      | str a =>
        by_cases ha : ns.contains a = true
        · show if ns.contains a = true then _ else _
          rw [if_pos ha]
          refine ⟨_, rfl, _, rfl, y, _, hy, .tup hN (DpAll.strs ns), sy, sN, _, rfl, ?_⟩
          rw [any_strs]
          cases y with
          | str b =>
            by_cases hb : ns.contains b = true
            · show if ns.contains b = true then _ else _
              rw [if_pos hb]
              cases hx
              cases hy
              refine ⟨_, rfl, _, rfl, a, b, rfl, rfl, ?_⟩
              have e : pairOfD ns (.tuple [.str a, .str b]) = sLt a b := by
                show (ns.contains a && (ns.contains b && sLt a b)) = _
                rw [ha, hb, Bool.true_and, Bool.true_and]
              rw [e] at q
              exact q
            · show if ns.contains b = true then _ else _
              rw [if_neg hb]
              have e : pairOfD ns (.tuple [.str a, .str b]) = false := by
                show (ns.contains a && (ns.contains b && sLt a b)) = _
                rw [Bool.eq_false_iff.mpr hb, Bool.false_and, Bool.and_false]
              rw [e] at q
              exact q
          | _ => exact q
        · show if ns.contains a = true then _ else _
          rw [if_neg ha]
          have e : pairOfD ns (.tuple [.str a, y]) = false := by
            cases y with
            | str b =>
              show (ns.contains a && (ns.contains b && sLt a b)) = _
              rw [Bool.eq_false_iff.mpr ha, Bool.false_and]
            | _ => rfl
          rw [e] at q
          exact q
      | _ => exact q
    · rw [Bool.eq_false_iff.mpr hp]
      have e : pairOfD ns d = false := by
        match d, hp with
        | .none, _ => rfl
        | .bool _, _ => rfl
        | .int _, _ => rfl
        | .str _, _ => rfl
        | .list _, _ => rfl
        | .dict _, _ => rfl
        | .tuple [], _ => rfl
        | .tuple [x], _ => cases x <;> rfl
        | .tuple [_, _], h => exact absurd rfl h
        | .tuple (x :: y :: _ :: _), _ => cases x <;> first | rfl | (cases y <;> rfl)
      rw [e] at q
      exact iteT q
def spAscPD (K : PySem.W.Frag) : Sp := fun vs H Q _ => ∃ (a : Addr) (xs : List V) (l : List (Str × Str)), vs = [.ref a] ∧ SqT K H a xs ∧ DpAll K H xs (l.map dPair) ∧ l.length ≤ 10000 ∧ ∀ H', Same H H' → Q (.bl (ascP l)) H'
theorem c_is_ascendingP (T : Tx K mg) : Cl P w K mg base CX0 1 "is_ascending" (spAscPD K) := by
  refine cl0 T.d_is_ascending (ps := ["items"]) (fun _ _ _ _ _ _ us hl => match us, hl with | [_], _ => rfl) sc_is_ascending (fun vs H Q E h => ?_) (fun f cdv A outer st H vs Q E hr h => ?_)
  · obtain ⟨a, xs, l, rfl, _⟩ := h
    rfl
  · obtain ⟨a, vs', l, rfl, hS, hD, hlen, q⟩ := h
    have nd := sc_is_ascending.nd
    have hu := hr.units
    refine ⟨_, pss_one (ps_ret (pe_callB (cr_all rfl) (by rfl) T.b_all (by decide +kernel) (pa_cons (pe_lc (own := [("one", 1), ("other", 2)]) (g := gTup K 2 (gCons (gName 1) (gCons (gName 2) gNil))) (tt := tYes) (by rfl) nd
      (RZ.pi_zipA (by rfl) T.b_zip (pa_cons (pv 0) (pa_cons (pe_slice sl_tupA (pv 0) (po_some pe_int) po_none) pa_nil)))
      (blkOk_by (own := [("one", 1), ("other", 2)]) (N := ["items", "one", "other"]) (sc := defScope s_is_ascending) (by decide +kernel))
      (fun _ _ _ _ _ => pg_tup rfl (pgs_cons (pg_name (i := 1) nd rfl (Or.inl rfl)) (pgs_cons (pg_name (i := 2) nd rfl (Or.inl rfl)) pgs_nil))) (fun _ _ _ _ _ => pts_nil) (fun _ _ _ _ _ => pe_cmpR (op_ltSSk (K := K) rfl hu) (pv 1) (pv 2) (nomark _))) pa_nil))), ?_⟩
    refine ⟨_, rfl, _, rfl, 1, rfl, ?_⟩
    have hl := hD.len
    rw [List.length_map] at hl
    refine noPart ?_
    refine sl_tail hS (fun e => ?_) (fun hne b hb => ?_)
    rotate_left
    · have hB : SqT K (upd H b (.tup (vs'.drop 1))) b (vs'.drop 1) := SqT.of upd_same
      have hA := (Tk.of (same_upd (o := .tup (vs'.drop 1)) hb)).sqT hS
      have sm := same_upd (o := .tup (vs'.drop 1)) hb
      generalize upd H b (.tup (vs'.drop 1)) = H1 at hA hB sm ⊢
      refine ⟨a, b, _, _, rfl, .inr ⟨hA, hB, fun D hD' => ?_⟩⟩
      have lz : (l.zip (l.drop 1)).length = min vs'.length (vs'.drop 1).length := by rw [List.length_zip, List.length_drop, List.length_drop, hl]
      refine lc_it (walk_zipT (xs := vs') (ys := vs'.drop 1) rfl) (fun i H' => H' D = some (.lst ((((l.zip (l.drop 1)).take i).map fun p => ltQ p.1 p.2).map V.bl)) ∧ Same H1 H') ⟨upd_same, same_upd hD'⟩ (fun i H' _ ⟨_, s'⟩ => ⟨(Tk.of s').sqT hA, (Tk.of s').sqT hB⟩)
        (fun i x H2 H3 hi ⟨eD, s'⟩ hy => ?_) (fun H2 ⟨eD, s'⟩ => ?_)
      · obtain ⟨Tt, x1, x2, rfl, nT, rfl, f1, f2⟩ := hy
        have f1 : vs'[i]? = some x1 := f1
        have f2 : (vs'.drop 1)[i]? = some x2 := f2
        have hi : i < min vs'.length (vs'.drop 1).length := hi
        rw [List.getElem?_drop] at f2
        obtain ⟨d1, g1, p1⟩ := hD.get f1
        obtain ⟨d2, g2, p2⟩ := hD.get f2
        rw [List.getElem?_map] at g1 g2
        obtain ⟨y1, k1, rfl⟩ := Option.map_eq_some_iff.mp g1
        obtain ⟨y2, k2, rfl⟩ := Option.map_eq_some_iff.mp g2
        obtain ⟨b1, rfl, c1⟩ := p1.pair
        obtain ⟨b2, rfl, c2⟩ := p2.pair
        have kT : Tk H (upd H2 Tt (.tup [.ref b1, .ref b2])) := (Tk.of (sm.trans s')).new nT
        have nDT : D ≠ Tt := ne_of_none eD nT
        have gz : (l.zip (l.drop 1))[i]? = some (y1, y2) := by
          rw [List.getElem?_zip_eq_some]
          exact ⟨k1, by rw [List.getElem?_drop]; exact k2⟩
        refine ⟨Tt, _, rfl, SqT.of upd_same, rfl, _, _, rfl, _, _, rfl, rfl, rfl, yes_ ?_⟩
        refine ⟨_, rfl, _, rfl, _, _, _, _, _, _, rfl, rfl, kT.sqT c1, kT.sqT c2, _, by rw [upd_ne nDT]; exact eD, ?_, ?_, ?_⟩
        · rw [List.length_map, List.length_map, List.length_take]
          rw [List.length_drop] at hi
          exact small1e4 (by omega)
        · rw [upd_same, take_snoc gz, List.map_append, List.map_append]
          rfl
        · exact same_put (same_new s' nT) hD'
      · refine ⟨D, (l.zip (l.drop 1)).map (fun p : (Str × Str) × (Str × Str) => ltQ p.1 p.2), rfl, SqL.of ?_, q _ (sm.trans s')⟩
        rw [eD, List.take_of_length_le (by rw [lz]; exact Nat.le_refl _)]
    · subst e
      have e0 : l = [] := List.length_eq_zero_iff.mp hl.symm
      subst e0
      refine ⟨a, a, _, _, rfl, .inr ⟨hS, hS, fun D hD' => ?_⟩⟩
      refine lc_it (walk_zipT (xs := []) (ys := []) rfl) (fun i H' => H' D = some (.lst []) ∧ Same H H') ⟨upd_same, same_upd hD'⟩ (fun i H' _ ⟨_, s'⟩ => ⟨(Tk.of s').sqT hS, (Tk.of s').sqT hS⟩)
        (fun i x H2 H3 hi _ _ => absurd hi (Nat.not_lt_zero _)) (fun H2 ⟨eD, s'⟩ => ?_)
      exact ⟨D, [], rfl, SqL.of eD, q _ s'⟩
def spPairsD (K : PySem.W.Frag) : Sp := fun vs H Q _ => ∃ (n : Addr) (v : V) (ns : List Str) (d : PyData), vs = [.ref n, v] ∧ SqT K H n (ns.map V.str) ∧ SeqAt.shaped (.tuple (ns.map PyData.str)) = true ∧ Dp K H v d ∧ SeqAt.shaped d = true ∧ RowsOk d ∧ ∀ H', Same H H' → Q (.bl (pairsD ns d)) H'
theorem c_are_pairsD (T : Tx K mg) : Cl P w K mg base CX0 3 "are_pairs" (spPairsD K) := by
  refine cl0 T.d_are_pairs (ps := ["names", "value"]) (fun _ _ _ _ _ _ us hl => match us, hl with | [_, _], _ => rfl) sc_are_pairs (fun vs H Q E h => ?_) (fun f cdv A outer st H vs Q E hr h => ?_)
  · obtain ⟨n, v, ns, d, rfl, _⟩ := h
    rfl
  · obtain ⟨n, v, ns, d, rfl, hN, sN, hd, sd, l5, q⟩ := h
    have nd := sc_are_pairs.nd
    refine ⟨_, pss_cons (ps_if (pt_not (pt_val (pe_isT "tuple" (by rfl) T.b_isinstance (by rfl) T.b_tuple (by decide +kernel) (pv 1)))) (pss_one (ps_ret pe_bl)) pss_nil)
      (pss_one (ps_ret (pe_and (pe_callB (cr_all rfl) (by rfl) T.b_all (by decide +kernel) (pa_cons (pe_lc (own := [("item", 2)]) (g := gName 2) (tt := tYes) (by rfl) nd (pi_tup (pv 1))
        (blkOk_by (own := [("item", 2)]) (N := ["names", "value", "item"]) (sc := defScope s_are_pairs) (by decide +kernel)) (fun _ _ _ _ _ => pg_name (i := 2) nd rfl (Or.inl rfl)) (fun _ _ _ _ _ => pts_nil) (fun _ _ _ _ _ => pe_k (c_is_pair_ofD T) hr (by decide) (by rfl) (pa_cons (pv 0) (pa_cons (pv 2) pa_nil)))) pa_nil))
        (pe_one (pe_k (c_is_ascendingP T) hr (by decide) (by rfl) (pa_cons (pv 1) pa_nil)))))), ?_⟩
    refine ⟨_, rfl, v, .ty "tuple", _, _, _, rfl, .ty _, tyx_data hd, kit_data (.inl rfl) hd, _, rfl, ?_⟩
    cases d with
    | tuple ds =>
      cases hd with
      | tup hS hV =>
      have hl := hV.len
      have l5 := l5 ds rfl
      refine iteF ⟨_, rfl, _, rfl, ⟨_, hS⟩, fun D hD => ?_⟩
      refine lc_it (walk_tup (xs := _)) (fun i H' => H' D = some (.lst (((ds.take i).map (pairOfD ns)).map V.bl)) ∧ Same H H') ⟨upd_same, same_upd hD⟩ (fun _ _ _ ⟨_, s'⟩ => (Tk.of s').sqT hS) (fun i x H2 H3 hi ⟨eD, s'⟩ hy => ?_) (fun H2 ⟨eD, s'⟩ => ?_)
      · obtain ⟨rfl, hx⟩ := hy
        obtain ⟨d, hd, hx2⟩ := hV.get hx
        refine ⟨rfl, yes_ ⟨_, rfl, _, rfl, n, _, ns, d, rfl, (Tk.of s').sqT hN, sN, Dp.sm s' _ hx2, shaped_memN sd d (List.mem_of_getElem? hd), _, eD, ?_, ?_, same_put s' hD⟩⟩
        · rw [List.length_map, List.length_map, List.length_take]
          exact small1e4 (by omega)
        · rw [upd_same, take_snoc hd, List.map_append, List.map_append]
          rfl
      · refine ⟨D, ds.map (pairOfD ns), rfl, SqL.of (by rw [eD, List.take_of_length_le (by omega)]), _, rfl, ?_⟩
        have ea : (ds.map (pairOfD ns)).all id = ds.all (pairOfD ns) := by
          rw [List.all_map]
          rfl
        have nm : pairsD ns (.tuple ds) = (ds.all (pairOfD ns) && ascP (ds.map prOf)) := rfl
        rw [ea]
        by_cases hall : ds.all (pairOfD ns) = true
        · rw [hall, Bool.true_and] at nm
          rw [hall]
          refine iteT ⟨_, rfl, _, _, ds.map prOf, rfl, (Tk.of s').sqT hS, ?_, by rw [List.length_map]; omega, fun H3 s3 => ?_⟩
          · rw [← pairs_prs hall]
            exact DpAll.sm s' _ hV
          · rw [← nm]
            exact q _ (s'.trans s3)
        · rw [Bool.eq_false_iff.mpr hall, Bool.false_and] at nm
          rw [Bool.eq_false_iff.mpr hall]
          rw [nm] at q
          exact iteF (q _ s')
    | _ => exact iteT (q _ (Same.refl _))
/-- what can be asked whether it is a field -/
structure FOk (d : PyData) : Prop where
  sh : SeqAt.shaped d = true
  a : ∀ x y, d = .tuple [x, y] → (∀ ds, x = .tuple ds → ∀ z ∈ ds, TextsOk z) ∧ (∀ ds, x = .tuple ds → ds.length ≤ 100000) ∧ RowsOk y
/-- what need_field does -/
def OutF (K : PySem.W.Frag) (mg : Str → Option Value) (H : Hp) (Q : VK) (E : XK) (v : V) (d : PyData) : Prop :=
  (∃ x, fieldRef d = some x ∧ RefE K mg H E "BadField" "part" (.str x)) ∨ (fieldRef d = none ∧ ∀ H', Same H H' → Q v H')
def spNeedFieldD (K : PySem.W.Frag) (mg : Str → Option Value) : Sp := fun vs H Q E => ∃ (v : V) (d : PyData), vs = [v] ∧ Dp K H v d ∧ FOk d ∧ OutF K mg H Q E v d
theorem c_need_fieldD (T : Tx K mg) : Cl P w K mg base (L2.CX P w) 4 "need_field" (spNeedFieldD K mg) := by
  refine clX T.d_need_field (ps := ["field"]) (fun _ _ _ _ _ _ us hl => match us, hl with | [_], _ => rfl) sc_need_field (fun vs H Q E h => ?_) (fun f cdv A outer st H vs Q E hr h => ?_)
  · obtain ⟨v, d, rfl, _⟩ := h
    rfl
  · obtain ⟨v, d, rfl, hd, fk, q⟩ := h
    have nd := sc_need_field.nd
    have tk : Takes (cxOf (L2.CX P w) P w K mg base ["field", "names", "pairs"] "need_field" (defScope s_need_field) f cdv A outer st H E) fun cls d _ H => E cls d H := takes_of rfl rfl rfl rfl
    refine ⟨_, (pss_cons (ps_if (pt_not (pt_val (pe_k (c_is_pairD T) hr (by decide) (by rfl) (pa_cons (pv 0) pa_nil)))) (pss_one (ps_rs (K := K) (mg := mg) rfl rfl rfl tk (c_BadField T) hr (by decide) (by rfl) pe_str)) pss_nil)
    (pss_cons (ps_asg (pv 0) (pg_tup rfl (pgs_cons (pg_name (i := 1) nd rfl (.inl rfl)) (pgs_cons (pg_name (i := 2) nd rfl (.inl rfl)) pgs_nil))))
    (pss_cons (ps_if (pt_not (pt_val (pe_k (c_are_namesD T) hr (by decide) (by rfl) (pa_cons (pv 1) pa_nil)))) (pss_one (ps_rs (K := K) (mg := mg) rfl rfl rfl tk (c_BadField T) hr (by decide) (by rfl) pe_str)) pss_nil)
    (pss_cons (ps_if (pt_not (pt_val (pe_k (c_are_pairsD T) hr (by decide) (by rfl) (pa_cons (pv 1) (pa_cons (pv 2) pa_nil))))) (pss_one (ps_rs (K := K) (mg := mg) rfl rfl rfl tk (c_BadField T) hr (by decide) (by rfl) pe_str)) pss_nil)
    (pss_one (ps_ret (pv 0))))))), ?_⟩
    refine ⟨_, rfl, v, d, rfl, hd, _, rfl, ?_⟩
    by_cases hp : pairD d = true
    · rw [hp]
      obtain ⟨x, y, rfl⟩ : ∃ x y, d = .tuple [x, y] := by
        match d, hp with
        | .tuple [x, y], _ => exact ⟨x, y, rfl⟩
      obtain ⟨sx, sy⟩ := shaped_two fk.sh
      obtain ⟨a1, a2, a3⟩ := fk.a x y rfl
      cases hd with
      | tup hS hV =>
      cases hV with
      | cons hx hV =>
      cases hV with
      | cons hy hV =>
      cases hV
      refine iteF ⟨_, rfl, _, _, rfl, hS, rfl, _, _, rfl, _, _, rfl, rfl, ?_⟩
      refine ⟨_, rfl, _, x, rfl, hx, a1, a2, fun H1 s1 => ⟨_, rfl, ?_⟩⟩
      have fr : fieldRef (.tuple [x, y]) = (if namesD x then (if pairsD (strsOf x) y then none else some ("pairs" : Str)) else some ("names" : Str)) := rfl
      by_cases hn : namesD x = true
      · rw [hn]
        rw [if_pos hn] at fr
        refine iteF ?_
        obtain ⟨ds, rfl⟩ : ∃ ds, x = .tuple ds := by
          cases x with
          | tuple ds => exact ⟨ds, rfl⟩
          | _ => cases hn
        have hall : ds.all nameD = true := by
          have hn : (decide (1 ≤ ds.length) && decide (ds.length ≤ 6) && (ds.all nameD && ascS (ds.map strOf))) = true := hn
          rw [Bool.and_eq_true, Bool.and_eq_true (ds.all nameD)] at hn
          exact hn.2.1
        have eds := names_strs hall
        cases hx with
        | @tup na nxs _ hS2 hV2 =>
        have hs : strsOf (.tuple ds) = ds.map strOf := rfl
        rw [hs] at fr
        have exs : nxs = (ds.map strOf).map V.str := DpAll.of_strs (by rw [← eds]; exact hV2)
        have hN : SqT K H1 na ((ds.map strOf).map V.str) := by
          rw [← exs]
          exact (Tk.of s1).sqT hS2
        refine ⟨_, rfl, _, rfl, _, _, ds.map strOf, y, rfl, hN, by rw [← eds]; exact sx, Dp.sm s1 _ hy, sy, a3, fun H2 s2 => ⟨_, rfl, ?_⟩⟩
        by_cases hpr : pairsD (ds.map strOf) y = true
        · rw [hpr]
          rw [if_pos hpr] at fr
          refine iteF ⟨_, rfl, ?_⟩
          rcases q with ⟨w, e, _⟩ | ⟨_, q⟩
          · rw [fr] at e
            cases e
          · exact q _ (s1.trans s2)
        · rw [Bool.eq_false_iff.mpr hpr]
          rw [if_neg hpr] at fr
          rcases q with ⟨w, e, q⟩ | ⟨e, _⟩
          · rw [fr] at e
            cases e
            exact iteT (mk_at fun C H5 dx hC hT s5 ed => q C H5 dx hC hT (s1.trans (s2.trans s5)) ed)
          · rw [fr] at e
            cases e
      · rw [Bool.eq_false_iff.mpr hn]
        rw [if_neg hn] at fr
        rcases q with ⟨w, e, q⟩ | ⟨e, _⟩
        · rw [fr] at e
          cases e
          exact iteT (mk_at fun C H5 dx hC hT s5 ed => q C H5 dx hC hT (s1.trans s5) ed)
        · rw [fr] at e
          cases e
    · rw [Bool.eq_false_iff.mpr hp]
      have fr : fieldRef d = some "form" := by
        match d, hp with
        | .none, _ => rfl
        | .bool _, _ => rfl
        | .int _, _ => rfl
        | .str _, _ => rfl
        | .list _, _ => rfl
        | .dict _, _ => rfl
        | .tuple [], _ => rfl
        | .tuple [x], _ => rfl
        | .tuple [_, _], h => exact absurd rfl h
        | .tuple (x :: y :: _ :: _), _ => rfl
      rcases q with ⟨w, e, q⟩ | ⟨e, _⟩
      · rw [fr] at e
        cases e
        exact iteT (mk_at fun C H5 dx hC hT s5 ed => q C H5 dx hC hT s5 ed)
      · rw [fr] at e
        cases e
end
end XB
set_option Elab.async false
set_option linter.all false
set_option maxRecDepth 100000
set_option maxHeartbeats 4000000
namespace XB
open PySem PySem.Spec PyProof.Rows L2
/-! need_script of any data, with its refusals -/
/-- the number of the first item that does not hold -/
def fstBad (p : PyData → Bool) : List PyData → Nat → Option Nat
  | [], _ => none
  | d :: ds, i => if p d = true then fstBad p ds (i + 1) else some i
theorem fst_at {p : PyData → Bool} : ∀ {ds : List PyData} {i k : Nat} {x : PyData}, ds[i]? = some x → p x = false → (∀ y ∈ ds.take i, p y = true) → fstBad p ds k = some (k + i)
  | d :: ds, 0, k, x, h, hp, _ => by
    rw [List.getElem?_cons_zero] at h
    cases h
    rw [fstBad, if_neg (by rw [hp]; exact Bool.false_ne_true)]
    rfl
  | d :: ds, i + 1, k, x, h, hp, ht => by
    rw [List.getElem?_cons_succ] at h
    rw [List.take_succ_cons] at ht
    rw [fstBad, if_pos (ht d List.mem_cons_self), fst_at h hp (fun y hy => ht y (List.mem_cons_of_mem _ hy))]
    congr 1
    omega
theorem fst_none {p : PyData → Bool} : ∀ {ds : List PyData} {k : Nat}, (∀ y ∈ ds, p y = true) → fstBad p ds k = none
  | [], _, _ => rfl
  | d :: ds, k, h => by
    rw [fstBad, if_pos (h d List.mem_cons_self)]
    exact fst_none fun y hy => h y (List.mem_cons_of_mem _ hy)
/-- what is wrong with a script: nothing, all of it, or the number of a step -/
def scriptD (ns : List Str) : PyData → Option (Option Nat)
  | .tuple ds => if ds.length ≤ 60 then (fstBad (stepD ns) ds 0).map some else some none
  | _ => some none
def placeV : Option Nat → V
  | none => .non
  | some i => .int (i : Int)
def fldNames : PyData → List Str
  | .tuple [a, _] => strsOf a
  | _ => []
theorem field_inv {d : PyData} (h : fieldRef d = none) (s : SeqAt.shaped d = true) : ∃ y, d = .tuple [.tuple ((fldNames d).map PyData.str), y] ∧ SeqAt.shaped (.tuple ((fldNames d).map PyData.str)) = true := by
  have hp : pairD d = true := by
    cases hp : pairD d with
    | true => rfl
    | false =>
      exfalso
      have fr : fieldRef d = some "form" := by
        match d, hp with
        | .none, _ => rfl
        | .bool _, _ => rfl
        | .int _, _ => rfl
        | .str _, _ => rfl
        | .list _, _ => rfl
        | .dict _, _ => rfl
        | .tuple [], _ => rfl
        | .tuple [x], _ => rfl
        | .tuple [_, _], h => cases h
        | .tuple (x :: y :: _ :: _), _ => rfl
      rw [fr] at h
      cases h
  obtain ⟨x, y, rfl⟩ : ∃ x y, d = .tuple [x, y] := by
    match d, hp with
    | .tuple [x, y], _ => exact ⟨x, y, rfl⟩
  have fr : fieldRef (.tuple [x, y]) = (if namesD x then (if pairsD (strsOf x) y then none else some ("pairs" : Str)) else some ("names" : Str)) := rfl
  rw [fr] at h
  by_cases hn : namesD x = true
  · obtain ⟨ds, rfl⟩ : ∃ ds, x = .tuple ds := by
      cases x with
      | tuple ds => exact ⟨ds, rfl⟩
      | _ => cases hn
    have hall : ds.all nameD = true := by
      have hn : (decide (1 ≤ ds.length) && decide (ds.length ≤ 6) && (ds.all nameD && ascS (ds.map strOf))) = true := hn
      rw [Bool.and_eq_true, Bool.and_eq_true (ds.all nameD)] at hn
      exact hn.2.1
    have e : fldNames (.tuple [.tuple ds, y]) = ds.map strOf := rfl
    rw [e, ← names_strs hall]
    exact ⟨y, rfl, (shaped_two s).1⟩
  · rw [if_neg hn] at h
    cases h
section
variable {P : Program} {w : World} {K : PySem.W.Frag} {mg : Str → Option Value} {base : Heap}
def spStepD (K : PySem.W.Frag) : Sp := fun vs H Q _ => ∃ (n : Addr) (v : V) (ns : List Str) (d : PyData), vs = [.ref n, v] ∧ SqT K H n (ns.map V.str) ∧ SeqAt.shaped (.tuple (ns.map PyData.str)) = true ∧ Dp K H v d ∧ SeqAt.shaped d = true ∧ Q (.bl (stepD ns d)) H
theorem c_is_stepD (T : Tx K mg) : Cl P w K mg base CX0 3 "is_step" (spStepD K) := by
  refine cl0 T.d_is_step (ps := ["names", "value"]) (fun _ _ _ _ _ _ us hl => match us, hl with | [_, _], _ => rfl) sc_is_step (fun vs H Q E h => ?_) (fun f cdv A outer st H vs Q E hr h => ?_)
  · obtain ⟨n, v, ns, d, rfl, _⟩ := h
    rfl
  · obtain ⟨n, v, ns, d, rfl, hN, sN, hd, sd, q⟩ := h
    have nd := sc_is_step.nd
    refine ⟨_, (pss_one (ps_ret (pe_and (pe_k (c_is_great_stepD T) hr (by decide) (by rfl) (pa_cons (pv 0) (pa_cons (pv 1) pa_nil))) (pe_one (pe_k (c_is_timesD T) hr (by decide) (by rfl) (pa_cons (pe_ix (ixk_tup (K := K) rfl) (pv 1) pe_int (fun _ _ => rfl)) pa_nil)))))), ?_⟩
    refine ⟨_, rfl, _, rfl, n, v, ns, d, rfl, hN, sN, hd, sd, _, rfl, ?_⟩
    by_cases hg : greatD ns d = true
    · rw [if_pos hg]
      obtain ⟨x, t, rfl⟩ : ∃ x t, d = .tuple [.str x, .int t] := by
        match d, hg with
        | .tuple [.str x, .int t], _ => exact ⟨x, t, rfl⟩
      cases hd with
      | tup hS hV =>
      cases hV with
      | cons hx hV =>
      cases hV with
      | cons hy hV =>
      cases hV
      refine ⟨_, rfl, ix1 hS ⟨_, .int t, rfl, hy, ?_⟩⟩
      have hg : (ns.contains x && decide (t ≠ 0)) = true := hg
      rw [Bool.and_eq_true] at hg
      have e : stepD ns (.tuple [.str x, .int t]) = timesD (.int t) := by
        show (ns.contains x && timesD (.int t)) = _
        rw [hg.1, Bool.true_and]
      rw [e] at q
      exact q
    · rw [if_neg hg]
      have e : stepD ns d = false := by
        match d, hg with
        | .tuple [.str x, .int t], h =>
          have h : ¬ (ns.contains x && decide (t ≠ 0)) = true := h
          show (ns.contains x && (decide (t ≠ 0) && _)) = false
          rw [← Bool.and_assoc, Bool.eq_false_iff.mpr h]
          rfl
        | .none, _ => rfl
        | .bool _, _ => rfl
        | .int _, _ => rfl
        | .str _, _ => rfl
        | .list _, _ => rfl
        | .dict _, _ => rfl
        | .tuple [], _ => rfl
        | .tuple [x], _ => cases x <;> rfl
        | .tuple (x :: y :: _ :: _), _ => cases x <;> first | rfl | (cases y <;> rfl)
        | .tuple [.none, _], _ => rfl
        | .tuple [.bool _, _], _ => rfl
        | .tuple [.int _, _], _ => rfl
        | .tuple [.list _, _], _ => rfl
        | .tuple [.dict _, _], _ => rfl
        | .tuple [.tuple _, _], _ => rfl
        | .tuple [.str _, .none], _ => rfl
        | .tuple [.str _, .bool _], _ => rfl
        | .tuple [.str _, .str _], _ => rfl
        | .tuple [.str _, .list _], _ => rfl
        | .tuple [.str _, .dict _], _ => rfl
        | .tuple [.str _, .tuple _], _ => rfl
      rw [e] at q
      exact q
theorem c_BadScript (T : Tx K mg) : MkE P w K mg base 1 "BadScript" "place" := by
  refine mke0 T.e_BadScript (ps := ["self", "place"]) rfl (fun _ _ _ _ _ _ us hl => match us, hl with | [_, _], _ => rfl) (fun _ _ _ _ _ _ _ _ => rfl) sc_BadScript___init__ (fun C fI cdv A outer st H vs Q E hC hm hr h => ?_)
  obtain ⟨a, y, rfl, e, q⟩ := h
  exact ⟨_, pss_one (ps_osG (pv 0) (pv 1)), _, rfl, _, rfl, a, C, rfl, hC, T.n_BadScript_place C hm, e, q⟩
/-- what need_script does, of a field -/
def OutS (K : PySem.W.Frag) (mg : Str → Option Value) (H : Hp) (Q : VK) (E : XK) (v : V) : Option (Option Nat) → Prop
  | none => ∀ H', Same H H' → Q v H'
  | some o => RefE K mg H E "BadScript" "place" (placeV o)
theorem OutS.from {H H1 : Hp} {Q : VK} {E : XK} {v : V} {o : Option (Option Nat)} (q : OutS K mg H Q E v o) (s : Same H H1) : OutS K mg H1 Q E v o := by
  cases o with
  | none => exact fun H' s' => q H' (s.trans s')
  | some o => exact RefE.from (show RefE K mg H E "BadScript" "place" (placeV o) from q) s
/-- a thing that is held for a script, and what is wrong with it: any data, or an empty dict -/
def OkS (K : PySem.W.Frag) (H : Hp) (v : V) (ns : List Str) (o : Option (Option Nat)) : Prop := (∃ d, Dp K H v d ∧ SeqAt.shaped d = true ∧ RowsOk d ∧ scriptD ns d = o) ∨ ∃ a, v = .ref a ∧ H a = some (.dK []) ∧ o = some none
theorem OkS.same {H H' : Hp} {v : V} {ns : List Str} {o : Option (Option Nat)} (h : OkS K H v ns o) (s : Same H H') : OkS K H' v ns o := by
  rcases h with ⟨d, a, b⟩ | ⟨a, e, h, g⟩
  · exact .inl ⟨d, Dp.sm s _ a, b⟩
  · exact .inr ⟨a, e, s _ _ h, g⟩
def spNeedScriptD (K : PySem.W.Frag) (mg : Str → Option Value) : Sp := fun vs H Q E => ∃ (f v : V) (df : PyData), vs = [f, v] ∧ Dp K H f df ∧ FOk df ∧
  ((∃ x, fieldRef df = some x ∧ RefE K mg H E "BadField" "part" (.str x)) ∨ (fieldRef df = none ∧ ∃ o, OkS K H v (fldNames df) o ∧ OutS K mg H Q E v o))
theorem c_need_scriptD (T : Tx K mg) : Cl P w K mg base (L2.CX P w) 5 "need_script" (spNeedScriptD K mg) := by
  refine clX T.d_need_script (ps := ["field", "deeds"]) (fun _ _ _ _ _ _ us hl => match us, hl with | [_, _], _ => rfl) sc_need_script (fun vs H Q E h => ?_) (fun f cdv A outer st H vs Q E hr h => ?_)
  · obtain ⟨f, v, df, rfl, _⟩ := h
    rfl
  · obtain ⟨f0, v, df, rfl, hdf, fk, q⟩ := h
    have nd := sc_need_script.nd
    obtain ⟨tk0, hMS⟩ := T.g_MOST_STEPS
    have tk : Takes (cxOf (L2.CX P w) P w K mg base ["field", "deeds", "names", "_", "place", "item"] "need_script" (defScope s_need_script) f cdv A outer st H E) fun cls d _ H => E cls d H := takes_of rfl rfl rfl rfl
    refine ⟨_, (pss_cons (ps_asg (pe_kX (c_need_fieldD T) hr (by decide) tk (by rfl) (pa_cons (pv 0) pa_nil)) (pg_tup rfl (pgs_cons (pg_name (i := 2) nd rfl (.inl rfl)) (pgs_cons (pg_name (i := 3) nd rfl (.inl rfl)) pgs_nil))))
    (pss_cons (ps_if (PW.pt (pw_or (pt_not (pt_val (pe_isT "tuple" (by rfl) T.b_isinstance (by rfl) T.b_tuple (by decide +kernel) (pv 1)))) (pw_or1 (pt_cmpR op_gt (pe_lenS (by rfl) T.b_len (pv 1)) (pe_glob (v := .int 60) (by rfl) hMS ⟨_, rfl⟩) (nomark _))))) (pss_one (ps_rs (K := K) (mg := mg) rfl rfl rfl tk (c_BadScript T) hr (by decide) (by rfl) pe_non)) pss_nil)
    (pss_cons (ps_for (passes_of rfl) rfl (pi_enumT (by rfl) T.b_enumerate (pa_cons (pv 1) pa_nil)) (pg_tup rfl (pgs_cons (pg_name (i := 4) nd rfl (.inl rfl)) (pgs_cons (pg_name (i := 5) nd rfl (.inl rfl)) pgs_nil)))
    (pss_one (ps_if (pt_not (pt_val (pe_k (c_is_stepD T) hr (by decide) (by rfl) (pa_cons (pv 2) (pa_cons (pv 5) pa_nil))))) (pss_one (ps_rs (K := K) (mg := mg) rfl rfl rfl tk (c_BadScript T) hr (by decide) (by rfl) (pv 4))) pss_nil)))
    (pss_one (ps_ret (pv 1)))))), ?_⟩
    --@
    refine ⟨_, rfl, f0, df, rfl, hdf, fk, ?_⟩
    rcases q with ⟨x, e, q⟩ | ⟨ef, o, hO, q⟩
    · exact .inl ⟨x, e, q⟩
    refine .inr ⟨ef, fun H1 s1 => ?_⟩
    replace hdf := Dp.sm s1 _ hdf
    obtain ⟨y, edf, sN⟩ := field_inv ef fk.sh
    replace hO := hO.same s1
    replace q := q.from s1
    generalize fldNames df = ns at edf hO sN
    subst edf
    cases hdf with
    | @tup fa fxs _ hS0 hV0 =>
    cases hV0 with
    | @cons nv _ _ _ hn hV0 =>
    cases hV0 with
    | @cons yv _ _ _ hy hV0 =>
    cases hV0
    cases hn with
    | @tup na nxs _ hN hV1 =>
    have exs : nxs = ns.map V.str := DpAll.of_strs hV1
    subst exs
    refine ⟨_, _, rfl, hS0, rfl, _, _, rfl, _, _, rfl, rfl, ?_⟩
    rcases hO with ⟨d, hd, sd, bk, rfl⟩ | ⟨a, rfl, hdk, rfl⟩
    rotate_left
    · have q : RefE K mg H1 E "BadScript" "place" .non := q
      exact ⟨_, rfl, .ref a, .ty "tuple", _, _, _, rfl, .ty _, .base (.dK hdk), kit_ty (r := false) (by decide +kernel), _, rfl, iteT (mk_at fun C H5 dx hC hT s5 ed => q C H5 dx hC hT s5 ed)⟩
    refine ⟨_, rfl, v, .ty "tuple", _, _, _, rfl, .ty _, tyx_data hd, kit_data (.inl rfl) hd, _, rfl, ?_⟩
    cases d with
    | tuple ds =>
      cases hd with
      | @tup a xs _ hS hV =>
      have hl := hV.len
      refine iteF ?_
      refine ⟨_, rfl, _, _, rfl, .inr hS, _, _, rfl, rfl, _, rfl, ?_⟩
      rw [hl]
      have e : scriptD ns (.tuple ds) = if ds.length ≤ 60 then (fstBad (stepD ns) ds 0).map some else some none := rfl
      rw [e] at q
      by_cases h12 : ds.length ≤ 60
      · rw [if_pos h12] at q
        rw [show decide ((60 : Int) < (ds.length : Int)) = false from decide_eq_false (by omega)]
        refine iteF ?_
        refine ⟨_, rfl, _, xs, rfl, hS, for_it (walk_IeT (xs := xs)) (fun i σ H2 => ∃ (y2 y3 : Option V), σ = [some (.ref fa), some (.ref a), some (.ref na), some yv, y2, y3] ∧ Same H1 H2 ∧ ∀ y ∈ ds.take i, stepD ns y = true)
          ⟨none, none, rfl, Same.refl _, fun y hy => nomatch hy⟩ (fun i σ H2 _ ⟨y2, y3, _, s2, _⟩ => (Tk.of s2).sqT hS) (fun i x σ H2 H3 hi ⟨y2, y3, eσ, s2, ht⟩ hy => ?_) (fun σ H2 ⟨y2, y3, eσ, s2, ht⟩ => ?_)⟩
        · obtain ⟨Tt, x1, x2, rfl, nT, rfl, f1, f2⟩ := hy
          subst eσ
          obtain ⟨d', g1, p1⟩ := hV.get f2
          have s3 := same_new (o := .tup [x1, x2]) s2 nT
          refine ⟨Tt, _, rfl, SqT.of upd_same, rfl, _, _, rfl, _, _, rfl, rfl, ?_⟩
          refine ⟨_, rfl, _, rfl, na, x2, ns, d', rfl, (Tk.of s3).sqT hN, sN, Dp.sm s3 _ p1, shaped_memN sd d' (List.mem_of_getElem? g1), _, rfl, ?_⟩
          by_cases hc : stepD ns d' = true
          · rw [hc]
            refine iteF ⟨_, _, rfl, s3, fun y hy => ?_⟩
            rw [take_snoc g1] at hy
            rcases List.mem_append.mp hy with h | h
            · exact ht y h
            · rw [List.mem_singleton.mp h]
              exact hc
          · have hc := Bool.eq_false_iff.mpr hc
            rw [hc]
            rw [fst_at g1 hc ht, Nat.zero_add] at q
            have q : RefE K mg H1 E "BadScript" "place" (.int (i : Int)) := q
            have f1 : x1 = .int (i : Int) := (Option.some.inj f1).symm
            subst f1
            exact iteT ⟨_, rfl, mk_at fun C H5 dx hC hT s5 ed => q C H5 dx hC hT (s3.trans s5) ed⟩
        · subst eσ
          rw [fst_none (fun y hy => ht y (by rw [List.take_of_length_le (by omega)]; exact hy))] at q
          exact ⟨_, rfl, q _ s2⟩
      · rw [show decide ((60 : Int) < (ds.length : Int)) = true from decide_eq_true (by omega)]
        rw [if_neg h12] at q
        have q : RefE K mg H1 E "BadScript" "place" .non := q
        exact iteT (mk_at fun C H5 dx hC hT s5 ed => q C H5 dx hC hT s5 ed)
    | _ =>
      have q : RefE K mg H1 E "BadScript" "place" .non := q
      exact iteT (mk_at fun C H5 dx hC hT s5 ed => q C H5 dx hC hT s5 ed)
end
end XB
set_option Elab.async false
set_option linter.all false
set_option maxRecDepth 100000
set_option maxHeartbeats 4000000
namespace XB
open PySem PySem.Spec PyProof.Rows L2
/-! Piles as values: their fields, need_like -/
section
variable {P : Program} {w : World} {K : PySem.W.Frag} {mg : Str → Option Value} {base : Heap}
/-- a Pile with its field and its steps -/
def PileAt (mg : Str → Option Value) (H : Hp) (a : Addr) (f s : V) : Prop := ∃ fs, Ins mg "Pile" H a fs ∧ fs.lookup ("_field" : Str) = some f ∧ fs.lookup ("_steps" : Str) = some s ∧ ∀ m : Str, (m == ("_field" : Str)) = false → (m == ("_steps" : Str)) = false → fs.lookup m = none
def spPField (mg : Str → Option Value) : Sp := fun vs H Q _ => ∃ a f s, vs = [.ref a] ∧ PileAt mg H a f s ∧ Q f H
theorem c_Pile_field (T : Tx K mg) : PCl P w K mg base (L2.CX P w) 1 "Pile" "field" (spPField mg) := by
  refine pclX T.p_Pile_field (ps := ["self"]) (fun _ _ _ _ _ _ us hl => match us, hl with | [_], _ => rfl) sc_Pile_field (fun vs H Q E h => ?_) (fun f cdv A outer st H vs Q E hr h => ?_)
  · obtain ⟨a, f, s, rfl, _⟩ := h
    rfl
  · obtain ⟨a, v, s, rfl, ⟨fs, ⟨C, dx, hm, ha⟩, h1, h2, _⟩, q⟩ := h
    exact ⟨_, pss_one (ps_ret (pe_fld (pv 0) rfl)), _, rfl, a, C, dx, fs, v, rfl, ha, oc_cls T.o_Pile hm, T.n_Pile__field C hm, h1, q⟩
def spPSteps (mg : Str → Option Value) : Sp := fun vs H Q _ => ∃ a f s, vs = [.ref a] ∧ PileAt mg H a f s ∧ Q s H
theorem c_Pile_steps (T : Tx K mg) : PCl P w K mg base (L2.CX P w) 1 "Pile" "steps" (spPSteps mg) := by
  refine pclX T.p_Pile_steps (ps := ["self"]) (fun _ _ _ _ _ _ us hl => match us, hl with | [_], _ => rfl) sc_Pile_steps (fun vs H Q E h => ?_) (fun f cdv A outer st H vs Q E hr h => ?_)
  · obtain ⟨a, f, s, rfl, _⟩ := h
    rfl
  · obtain ⟨a, v, s, rfl, ⟨fs, ⟨C, dx, hm, ha⟩, h1, h2, _⟩, q⟩ := h
    exact ⟨_, pss_one (ps_ret (pe_fld (pv 0) rfl)), _, rfl, a, C, dx, fs, s, rfl, ha, oc_cls T.o_Pile hm, T.n_Pile__steps C hm, h2, q⟩
theorem c_Unlike (T : Tx K mg) : MkE P w K mg base 1 "Unlike" "value" := by
  refine mke0 T.e_Unlike (ps := ["self", "value"]) rfl (fun _ _ _ _ _ _ us hl => match us, hl with | [_, _], _ => rfl) (fun _ _ _ _ _ _ _ _ => rfl) sc_Unlike___init__ (fun C fI cdv A outer st H vs Q E hC hm hr h => ?_)
  obtain ⟨a, y, rfl, e, q⟩ := h
  exact ⟨_, pss_one (ps_osG (pv 0) (pv 1)), _, rfl, _, rfl, a, C, rfl, hC, T.n_Unlike_value C hm, e, q⟩
theorem c_BadNumber (T : Tx K mg) : MkE P w K mg base 1 "BadNumber" "value" := by
  refine mke0 T.e_BadNumber (ps := ["self", "value"]) rfl (fun _ _ _ _ _ _ us hl => match us, hl with | [_, _], _ => rfl) (fun _ _ _ _ _ _ _ _ => rfl) sc_BadNumber___init__ (fun C fI cdv A outer st H vs Q E hC hm hr h => ?_)
  obtain ⟨a, y, rfl, e, q⟩ := h
  exact ⟨_, pss_one (ps_osG (pv 0) (pv 1)), _, rfl, _, rfl, a, C, rfl, hC, T.n_BadNumber_value C hm, e, q⟩
/-- two Piles: of one field or not -/
def spNeedLike (K : PySem.W.Frag) (mg : Str → Option Value) : Sp := fun vs H Q E => ∃ (a b : Addr) (f s g t : V) (df dg : PyData), vs = [.ref a, .ref b] ∧ PileAt mg H a f s ∧ PileAt mg H b g t ∧ Dp K H f df ∧ Dp K H g dg ∧ SeqAt.shaped df = true ∧ SeqAt.shaped dg = true ∧
  ((PyData.eqv dg df = true ∧ Q .non H) ∨ (PyData.eqv dg df = false ∧ RefE K mg H E "Unlike" "value" g))
theorem c_need_like (T : Tx K mg) : Cl P w K mg base (L2.CX P w) 3 "need_like" (spNeedLike K mg) := by
  refine clX T.d_need_like (ps := ["pile", "other"]) (fun _ _ _ _ _ _ us hl => match us, hl with | [_, _], _ => rfl) sc_need_like (fun vs H Q E h => ?_) (fun f cdv A outer st H vs Q E hr h => ?_)
  · obtain ⟨a, b, f, s, g, t, df, dg, rfl, _⟩ := h
    rfl
  · obtain ⟨a, b, v, s, g, t, df, dg, rfl, ha, hb, hf, hg, sf, sg, q⟩ := h
    have nd := sc_need_like.nd
    have tk : Takes (cxOf (L2.CX P w) P w K mg base ["pile", "other"] "need_like" (defScope s_need_like) f cdv A outer st H E) fun cls d _ H => E cls d H := takes_of rfl rfl rfl rfl
    refine ⟨_, (pss_one (ps_if (pt_cmpR (op_neD hr.units) (pe_ptO T.o_Pile (c_Pile_field T) (pv 1) hr (by decide) (E := E0) passL rfl) (pe_ptO T.o_Pile (c_Pile_field T) (pv 0) hr (by decide) (E := E0) passL rfl) (nomark _)) (pss_one (ps_rs (K := K) (mg := mg) rfl rfl rfl tk (c_Unlike T) hr (by decide) (by rfl) (pe_ptO T.o_Pile (c_Pile_field T) (pv 1) hr (by decide) (E := E0) passL rfl))) pss_nil)), ?_⟩
    --@
    obtain ⟨fs, hi, _⟩ := id ha
    obtain ⟨gs, hj, _⟩ := id hb
    refine ⟨_, rfl, b, gs, rfl, hj, b, g, t, rfl, hb, _, rfl, a, fs, rfl, hi, a, v, s, rfl, ha, dg, df, hg, hf, sg, sf, _, rfl, ?_⟩
    rcases q with ⟨e, q⟩ | ⟨e, q⟩
    · rw [e]
      exact iteF q
    · rw [e]
      exact iteT ⟨_, rfl, b, gs, rfl, hj, b, g, t, rfl, hb, mk_at fun C H5 dx hC hT s5 ed => q C H5 dx hC hT s5 ed⟩
/-- what a method does with a Pile of another field -/
def spUnlike2 (K : PySem.W.Frag) (mg : Str → Option Value) : Sp := fun vs H Q E => ∃ (a b : Addr) (f s g t : V) (df dg : PyData), vs = [.ref a, .ref b] ∧ PileAt mg H a f s ∧ PileAt mg H b g t ∧ Dp K H f df ∧ Dp K H g dg ∧ SeqAt.shaped df = true ∧ SeqAt.shaped dg = true ∧ PyData.eqv dg df = false ∧ RefE K mg H E "Unlike" "value" g
theorem c_Pile_distanceU (T : Tx K mg) : MCl P w K mg base (L2.CX P w) 4 "Pile" "distance" (spUnlike2 K mg) := by
  refine mclX T.m_Pile_distance (ps := ["self", "other"]) (fun _ _ _ _ _ _ us hl => match us, hl with | [_, _], _ => rfl) sc_Pile_distance (fun vs H Q E h => ?_) (fun f cdv A outer st H vs Q E hr h => ?_)
  · obtain ⟨a, b, f, s, g, t, df, dg, rfl, _⟩ := h
    rfl
  · obtain ⟨a, b, v, s, g, t, df, dg, rfl, ha, hb, hf, hg, sf, sg, e, q⟩ := h
    have tk : Takes (cxOf (L2.CX P w) P w K mg base ["self", "other"] "Pile.distance" (defScope s_Pile_distance) f cdv A outer st H E) fun cls d _ H => E cls d H := takes_of rfl rfl rfl rfl
    exact ⟨_, pss_cons (ps_expr (pe_kX (c_need_like T) hr (by decide) tk (by rfl) (pa_cons (pv 0) (pa_cons (pv 1) pa_nil)))) (pss_one ps_never), _, rfl, _, rfl, a, b, v, s, g, t, df, dg, rfl, ha, hb, hf, hg, sf, sg, .inr ⟨e, q⟩⟩
theorem c_Pile_is_lowerU (T : Tx K mg) : MCl P w K mg base (L2.CX P w) 4 "Pile" "is_lower" (spUnlike2 K mg) := by
  refine mclX T.m_Pile_is_lower (ps := ["self", "other"]) (fun _ _ _ _ _ _ us hl => match us, hl with | [_, _], _ => rfl) sc_Pile_is_lower (fun vs H Q E h => ?_) (fun f cdv A outer st H vs Q E hr h => ?_)
  · obtain ⟨a, b, f, s, g, t, df, dg, rfl, _⟩ := h
    rfl
  · obtain ⟨a, b, v, s, g, t, df, dg, rfl, ha, hb, hf, hg, sf, sg, e, q⟩ := h
    have tk : Takes (cxOf (L2.CX P w) P w K mg base ["self", "other"] "Pile.is_lower" (defScope s_Pile_is_lower) f cdv A outer st H E) fun cls d _ H => E cls d H := takes_of rfl rfl rfl rfl
    exact ⟨_, pss_cons (ps_expr (pe_kX (c_need_like T) hr (by decide) tk (by rfl) (pa_cons (pv 0) (pa_cons (pv 1) pa_nil)))) (pss_one ps_never), _, rfl, _, rfl, a, b, v, s, g, t, df, dg, rfl, ha, hb, hf, hg, sf, sg, .inr ⟨e, q⟩⟩
theorem c_Pile_over_bothU (T : Tx K mg) : MCl P w K mg base (L2.CX P w) 4 "Pile" "over_both" (spUnlike2 K mg) := by
  refine mclX T.m_Pile_over_both (ps := ["self", "other"]) (fun _ _ _ _ _ _ us hl => match us, hl with | [_, _], _ => rfl) sc_Pile_over_both (fun vs H Q E h => ?_) (fun f cdv A outer st H vs Q E hr h => ?_)
  · obtain ⟨a, b, f, s, g, t, df, dg, rfl, _⟩ := h
    rfl
  · obtain ⟨a, b, v, s, g, t, df, dg, rfl, ha, hb, hf, hg, sf, sg, e, q⟩ := h
    have tk : Takes (cxOf (L2.CX P w) P w K mg base ["self", "other", "pieces"] "Pile.over_both" (defScope s_Pile_over_both) f cdv A outer st H E) fun cls d _ H => E cls d H := takes_of rfl rfl rfl rfl
    exact ⟨_, pss_cons (ps_expr (pe_kX (c_need_like T) hr (by decide) tk (by rfl) (pa_cons (pv 0) (pa_cons (pv 1) pa_nil)))) (pss_cons ps_never (pss_one ps_never)), _, rfl, _, rfl, a, b, v, s, g, t, df, dg, rfl, ha, hb, hf, hg, sf, sg, .inr ⟨e, q⟩⟩
end
end XB
set_option Elab.async false
set_option linter.all false
set_option maxRecDepth 100000
set_option maxHeartbeats 4000000
namespace XB
open PySem PySem.Spec PyProof.Rows L2
/-! numbers that are none of a Pile -/
def numBad (n : Nat) : PyData → Bool
  | .int z => decide (z < 0) || decide ((n : Int) ≤ z)
  | _ => true
section
variable {P : Program} {w : World} {K : PySem.W.Frag} {mg : Str → Option Value} {base : Heap}
def spItemBad (K : PySem.W.Frag) (mg : Str → Option Value) : Sp := fun vs H Q E => ∃ (a p : Addr) (f v : V) (xs : List V) (d : PyData), vs = [.ref a, v] ∧ PileAt mg H a f (.ref p) ∧ SqT K H p xs ∧ Dp K H v d ∧ numBad xs.length d = true ∧ RefE K mg H E "BadNumber" "value" v
theorem c_Pile_itemBad (T : Tx K mg) : MCl P w K mg base (L2.CX P w) 3 "Pile" "__getitem__" (spItemBad K mg) := by
  refine mclX T.m_Pile___getitem__ (ps := ["self", "at"]) (fun _ _ _ _ _ _ us hl => match us, hl with | [_, _], _ => rfl) sc_Pile___getitem__ (fun vs H Q E h => ?_) (fun f cdv A outer st H vs Q E hr h => ?_)
  · obtain ⟨a, p, f, v, xs, d, rfl, _⟩ := h
    rfl
  · obtain ⟨a, p, fl, v, xs, d, rfl, ha, hS, hd, hb, q⟩ := h
    have nd := sc_Pile___getitem__.nd
    have tk : Takes (cxOf (L2.CX P w) P w K mg base ["self", "at"] "Pile.__getitem__" (defScope s_Pile___getitem__) f cdv A outer st H E) fun cls d _ H => E cls d H := takes_of rfl rfl rfl rfl
    refine ⟨_, (pss_cons (ps_if (PW.pt (pw_or (pt_not (pt_val (pe_k (c_is_wholeD T) hr (by decide) (by rfl) (pa_cons (pv 1) pa_nil)))) (pw_or1 (pt_not (pt_chain op_le op_lt pe_int (pv 1) (pe_lenS (by rfl) T.b_len (pe_fld (pv 0) rfl))))))) (pss_one (ps_rs (K := K) (mg := mg) rfl rfl rfl tk (c_BadNumber T) hr (by decide) (by rfl) (pv 1))) pss_nil)
    (pss_one ps_never)), ?_⟩
    --@
    obtain ⟨fs, ⟨C, dx, hm, hi⟩, _, h2, _⟩ := id ha
    have rz : tVar 1 [some (.ref a), some v] H (fun y H1 => rMk K mg "BadNumber" "value" [some (.ref a), some v] y H1 fun cls d H' => E cls d H') := ⟨_, rfl, mk_at fun C H5 dx hC hT s5 ed => q C H5 dx hC hT s5 ed⟩
    refine ⟨_, rfl, v, d, rfl, hd, _, rfl, ?_⟩
    cases d with
    | int z =>
      cases hd
      have hb : (decide (z < 0) || decide ((xs.length : Int) ≤ z)) = true := hb
      refine iteF ⟨_, rfl, _, _, rfl, rfl, _, rfl, ?_⟩
      by_cases h0 : 0 ≤ z
      · rw [decide_eq_true h0]
        have hz : (xs.length : Int) ≤ z := by
          rw [decide_eq_false (by omega), Bool.false_or, decide_eq_true_eq] at hb
          exact hb
        refine iteT ⟨_, rfl, a, C, dx, fs, .ref p, rfl, hi, oc_cls T.o_Pile hm, T.n_Pile__steps C hm, h2, p, xs, rfl, .inr hS, _, _, rfl, rfl, _, rfl, ?_⟩
        rw [show decide (z < (xs.length : Int)) = false from decide_eq_false (by omega)]
        exact iteT rz
      · rw [decide_eq_false h0]
        exact iteF ⟨_, rfl, iteT rz⟩
    | _ => exact iteT rz
end
end XB
set_option Elab.async false
set_option linter.all false
set_option maxRecDepth 100000
set_option maxHeartbeats 4000000
namespace XB
open PySem PySem.Spec PyProof.Rows L2
/-! middles of unlike Piles; numbers that are none -/
section
variable {P : Program} {w : World} {K : PySem.W.Frag} {mg : Str → Option Value} {base : Heap}
/-- a Pile with its field, as data -/
def PileF (K : PySem.W.Frag) (mg : Str → Option Value) (H : Hp) (a : Addr) (f : V) (df : PyData) : Prop := (∃ s, PileAt mg H a f s) ∧ Dp K H f df ∧ SeqAt.shaped df = true
def spMiddleU (K : PySem.W.Frag) (mg : Str → Option Value) : Sp := fun vs H Q E => ∃ (a b c : Addr) (f g h : V) (da db dc : PyData), vs = [.ref a, .ref b, .ref c] ∧ PileF K mg H a f da ∧ PileF K mg H b g db ∧ PileF K mg H c h dc ∧
  ((PyData.eqv db da = false ∧ RefE K mg H E "Unlike" "value" g) ∨ (PyData.eqv db da = true ∧ PyData.eqv dc da = false ∧ RefE K mg H E "Unlike" "value" h))
theorem c_Pile_middleU (T : Tx K mg) : MCl P w K mg base (L2.CX P w) 4 "Pile" "middle" (spMiddleU K mg) := by
  refine mclX T.m_Pile_middle (ps := ["self", "other", "third"]) (fun _ _ _ _ _ _ us hl => match us, hl with | [_, _, _], _ => rfl) sc_Pile_middle (fun vs H Q E h => ?_) (fun f cdv A outer st H vs Q E hr h => ?_)
  · obtain ⟨a, b, c, f, g, h, da, db, dc, rfl, _⟩ := h
    rfl
  · obtain ⟨a, b, c, fv, g, h, da, db, dc, rfl, ⟨⟨s1, ha⟩, ga, sa⟩, ⟨⟨s2, hb⟩, gb, sb⟩, ⟨⟨s3, hc⟩, gc, sc⟩, q⟩ := h
    have tk : Takes (cxOf (L2.CX P w) P w K mg base ["self", "other", "third"] "Pile.middle" (defScope s_Pile_middle) f cdv A outer st H E) fun cls d _ H => E cls d H := takes_of rfl rfl rfl rfl
    refine ⟨_, pss_cons (ps_expr (pe_kX (c_need_like T) hr (by decide) tk (by rfl) (pa_cons (pv 0) (pa_cons (pv 1) pa_nil)))) (pss_cons (ps_expr (pe_kX (c_need_like T) hr (by decide) tk (by rfl) (pa_cons (pv 0) (pa_cons (pv 2) pa_nil)))) (pss_one ps_never)), ?_⟩
    rcases q with ⟨e, q⟩ | ⟨e, e2, q⟩
    · exact ⟨_, rfl, _, rfl, a, b, _, s1, g, s2, da, db, rfl, ha, hb, ga, gb, sa, sb, .inr ⟨e, q⟩⟩
    · exact ⟨_, rfl, _, rfl, a, b, _, s1, g, s2, da, db, rfl, ha, hb, ga, gb, sa, sb, .inl ⟨e, _, rfl, _, rfl, a, c, _, s1, h, s3, da, dc, rfl, ha, hc, ga, gc, sa, sc, .inr ⟨e2, q⟩⟩⟩
/-- what is no whole number: any other data, an empty dict -/
def NoWhole (K : PySem.W.Frag) (H : Hp) (v : V) : Prop := (∃ d, Dp K H v d ∧ wholeD d = false) ∨ ∃ a, v = .ref a ∧ H a = some (.dK [])
def spNoWhole (K : PySem.W.Frag) : Sp := fun vs H Q _ => ∃ v, vs = [v] ∧ NoWhole K H v ∧ Q (.bl false) H
theorem c_is_wholeN (T : Tx K mg) : Cl P w K mg base CX0 1 "is_whole" (spNoWhole K) := by
  refine cl0 T.d_is_whole (ps := ["value"]) (fun _ _ _ _ _ _ us hl => match us, hl with | [_], _ => rfl) sc_is_whole (fun vs H Q E h => ?_) (fun f cdv A outer st H vs Q E hr h => ?_)
  · obtain ⟨v, rfl, _⟩ := h
    rfl
  · obtain ⟨v, rfl, hn, q⟩ := h
    have nd := sc_is_whole.nd
    refine ⟨_, (pss_one (ps_ret (pe_and (pe_isT "int" (by rfl) T.b_isinstance (by rfl) T.b_int (by decide +kernel) (pv 0)) (pe_one (pe_not (pe_isT "bool" (by rfl) T.b_isinstance (by rfl) T.b_bool (by decide +kernel) (pv 0))))))), ?_⟩
    rcases hn with ⟨d, hd, hw⟩ | ⟨a, rfl, hk⟩
    · refine ⟨_, rfl, v, .ty "int", _, _, _, rfl, .ty _, tyx_data hd, kit_data (.inr (.inr (.inr (.inl rfl)))) hd, _, rfl, ?_⟩
      by_cases h1 : isD "int" d = true
      · rw [if_pos h1]
        refine ⟨_, rfl, v, .ty "bool", _, _, _, rfl, .ty _, tyx_data hd, kit_data (.inr (.inr (.inr (.inr rfl)))) hd, _, rfl, ?_⟩
        have e : (!isD "bool" d) = false := by
          cases d <;> first | rfl | (cases hw; done) | (exfalso; simp [isD, tyD] at h1; done)
        rw [e]
        exact q
      · rw [if_neg h1]
        exact q
    · exact ⟨_, rfl, .ref a, .ty "int", _, _, _, rfl, .ty _, .base (.dK hk), kit_ty (r := false) (by decide +kernel), _, rfl, q⟩
def spNumBad (K : PySem.W.Frag) (mg : Str → Option Value) : Sp := fun vs H Q E => ∃ (v : V) (z : Int), vs = [v, .int z] ∧ (NoWhole K H v ∨ ∃ y : Int, v = .int y ∧ (y < z ∨ 10 ^ 30 < y)) ∧ RefE K mg H E "BadNumber" "value" v
end
end XB
set_option Elab.async false
set_option linter.all false
set_option maxRecDepth 100000
set_option maxHeartbeats 4000000
namespace XB
open PySem PySem.Spec PyProof.Rows L2
section
variable {P : Program} {w : World} {K : PySem.W.Frag} {mg : Str → Option Value} {base : Heap}
def spManyBad (K : PySem.W.Frag) (mg : Str → Option Value) : Sp := fun vs H Q E => ∃ (a : Addr) (v : V), vs = [.ref a, v] ∧ (NoWhole K H v ∨ ∃ y : Int, v = .int y ∧ (y < -(10 ^ 30) ∨ 10 ^ 30 < y)) ∧ RefE K mg H E "BadNumber" "value" v
end
end XB
set_option Elab.async false
set_option linter.all false
set_option maxRecDepth 100000
set_option maxHeartbeats 4000000
namespace XB
open PySem PySem.Spec PyProof.Rows L2
/-! scripts that are none: least_pile, distance, is_between, middle_of -/
section
variable {P : Program} {w : World} {K : PySem.W.Frag} {mg : Str → Option Value} {base : Heap}
/-- a field, or a script, that is refused -/
def BadFS (K : PySem.W.Frag) (mg : Str → Option Value) (H : Hp) (E : XK) (df : PyData) (v : V) : Prop :=
  (∃ x, fieldRef df = some x ∧ RefE K mg H E "BadField" "part" (.str x)) ∨ (fieldRef df = none ∧ ∃ o, OkS K H v (fldNames df) (some o) ∧ RefE K mg H E "BadScript" "place" (placeV o))
def spLeastBad (K : PySem.W.Frag) (mg : Str → Option Value) : Sp := fun vs H Q E => ∃ (f v : V) (df : PyData), vs = [f, v] ∧ Dp K H f df ∧ FOk df ∧ BadFS K mg H E df v
theorem c_least_pileBad (T : Tx K mg) : Cl P w K mg base (L2.CX P w) 6 "least_pile" (spLeastBad K mg) := by
  refine clX T.d_least_pile (ps := ["field", "deeds"]) (fun _ _ _ _ _ _ us hl => match us, hl with | [_, _], _ => rfl) sc_least_pile (fun vs H Q E h => ?_) (fun f cdv A outer st H vs Q E hr h => ?_)
  · obtain ⟨f, v, df, rfl, _⟩ := h
    rfl
  · obtain ⟨fv, v, df, rfl, hd, fk, q⟩ := h
    have tk : Takes (cxOf (L2.CX P w) P w K mg base ["field", "deeds"] "least_pile" (defScope s_least_pile) f cdv A outer st H E) fun cls d _ H => E cls d H := takes_of rfl rfl rfl rfl
    refine ⟨_, pss_cons (ps_expr (pe_kX (c_need_scriptD T) hr (by decide) tk (by rfl) (pa_cons (pv 0) (pa_cons (pv 1) pa_nil)))) (pss_one ps_never), ?_⟩
    refine ⟨_, rfl, _, rfl, fv, v, df, rfl, hd, fk, ?_⟩
    rcases q with ⟨x, e, q⟩ | ⟨e, o, hO, q⟩
    · exact .inl ⟨x, e, q⟩
    · exact .inr ⟨e, some o, hO, q⟩
end
end XB
set_option Elab.async false
set_option linter.all false
set_option maxRecDepth 100000
set_option maxHeartbeats 4000000
namespace XB
open PySem PySem.Spec PyProof.Rows L2
/-! operators of unlike Piles -/
section
variable {P : Program} {w : World} {K : PySem.W.Frag} {mg : Str → Option Value} {base : Heap}
theorem c_Pile___mul__U (T : Tx K mg) : MCl P w K mg base (L2.CX P w) 4 "Pile" "__mul__" (spUnlike2 K mg) := by
  refine mclX T.m_Pile___mul__ (ps := ["self", "other"]) (fun _ _ _ _ _ _ us hl => match us, hl with | [_, _], _ => rfl) sc_Pile___mul__ (fun vs H Q E h => ?_) (fun f cdv A outer st H vs Q E hr h => ?_)
  · obtain ⟨a, b, f, s, g, t, df, dg, rfl, _⟩ := h
    rfl
  · obtain ⟨a, b, v, s, g, t, df, dg, rfl, ha, hb, hf, hg, sf, sg, e, q⟩ := h
    have tk : Takes (cxOf (L2.CX P w) P w K mg base ["self", "other"] "Pile.__mul__" (defScope s_Pile___mul__) f cdv A outer st H E) fun cls d _ H => E cls d H := takes_of rfl rfl rfl rfl
    obtain ⟨C, hC⟩ : ∃ C, mg "Pile" = some (.ref C) := by
      obtain ⟨C, hC, _⟩ := T.o_Pile.ex
      exact ⟨C, hC⟩
    obtain ⟨gs, hj, _⟩ := id hb
    refine ⟨_, pss_cons (ps_if (pt_not (pt_val (pe_callB call_isi (by rfl) T.b_isinstance (by decide +kernel) (pa_cons (pv 1) (pa_cons (pe_glob (v := .ref C) (by rfl) hC rfl) pa_nil))))) pss_never pss_nil) (pss_cons (ps_expr (pe_kX (c_need_like T) hr (by decide) tk (by rfl) (pa_cons (pv 0) (pa_cons (pv 1) pa_nil)))) (pss_one ps_never)), ?_⟩
    exact ⟨_, rfl, .ref b, .ref C, _, _, _, rfl, .own C, tyx_ins T.o_Pile hC hj, T.i_Pile_Pile C C hC hC, _, rfl, iteF ⟨_, rfl, _, rfl, a, b, v, s, g, t, df, dg, rfl, ha, hb, hf, hg, sf, sg, .inr ⟨e, q⟩⟩⟩
theorem c_Pile___and__U (T : Tx K mg) : MCl P w K mg base (L2.CX P w) 4 "Pile" "__and__" (spUnlike2 K mg) := by
  refine mclX T.m_Pile___and__ (ps := ["self", "other"]) (fun _ _ _ _ _ _ us hl => match us, hl with | [_, _], _ => rfl) sc_Pile___and__ (fun vs H Q E h => ?_) (fun f cdv A outer st H vs Q E hr h => ?_)
  · obtain ⟨a, b, f, s, g, t, df, dg, rfl, _⟩ := h
    rfl
  · obtain ⟨a, b, v, s, g, t, df, dg, rfl, ha, hb, hf, hg, sf, sg, e, q⟩ := h
    have tk : Takes (cxOf (L2.CX P w) P w K mg base ["self", "other"] "Pile.__and__" (defScope s_Pile___and__) f cdv A outer st H E) fun cls d _ H => E cls d H := takes_of rfl rfl rfl rfl
    obtain ⟨C, hC⟩ : ∃ C, mg "Pile" = some (.ref C) := by
      obtain ⟨C, hC, _⟩ := T.o_Pile.ex
      exact ⟨C, hC⟩
    obtain ⟨gs, hj, _⟩ := id hb
    refine ⟨_, pss_cons (ps_if (pt_not (pt_val (pe_callB call_isi (by rfl) T.b_isinstance (by decide +kernel) (pa_cons (pv 1) (pa_cons (pe_glob (v := .ref C) (by rfl) hC rfl) pa_nil))))) pss_never pss_nil) (pss_cons (ps_expr (pe_kX (c_need_like T) hr (by decide) tk (by rfl) (pa_cons (pv 0) (pa_cons (pv 1) pa_nil)))) (pss_one ps_never)), ?_⟩
    exact ⟨_, rfl, .ref b, .ref C, _, _, _, rfl, .own C, tyx_ins T.o_Pile hC hj, T.i_Pile_Pile C C hC hC, _, rfl, iteF ⟨_, rfl, _, rfl, a, b, v, s, g, t, df, dg, rfl, ha, hb, hf, hg, sf, sg, .inr ⟨e, q⟩⟩⟩
end
end XB
set_option Elab.async false
set_option linter.all false
set_option maxRecDepth 100000
set_option maxHeartbeats 4000000
namespace XB
open PySem PySem.Spec PyProof.Rows L2
/-! Piles that are refused -/
section
variable {P : Program} {w : World} {K : PySem.W.Frag} {mg : Str → Option Value} {base : Heap}
/-- data, or an empty dict -/
def DataOr (K : PySem.W.Frag) (H : Hp) (v : V) : Prop := (∃ d, Dp K H v d) ∨ ∃ a, v = .ref a ∧ H a = some (.dK [])
theorem dataOr_ty {H : Hp} {v : V} (h : DataOr K H v) : ∃ T : String, TyX K H v (.type T) ∧ T ∈ (["NoneType", "int", "bool", "str", "tuple", "list", "dict"] : List String) := by
  rcases h with ⟨d, hd⟩ | ⟨a, rfl, hk⟩
  · refine ⟨_, tyx_data hd, ?_⟩
    cases d <;> simp [tyD]
  · exact ⟨_, .base (.dK hk), by simp⟩
def spPileBad (K : PySem.W.Frag) (mg : Str → Option Value) : Sp := fun vs H Q E => ∃ (a : Addr) (f v : V) (df : PyData), vs = [.ref a, f, v] ∧ Dp K H f df ∧ FOk df ∧ DataOr K H v ∧ BadFS K mg H E df v
theorem c_Pile_initBad (T : Tx K mg) : MCl P w K mg base (L2.CX P w) 7 "Pile" "__init__" (spPileBad K mg) := by
  refine mclX T.m_Pile___init__ (ps := ["self", "field", "deeds"]) (fun _ _ _ _ _ _ us hl => match us, hl with | [_, _, _], _ => rfl) sc_Pile___init__ (fun vs H Q E h => ?_) (fun f cdv A outer st H vs Q E hr h => ?_)
  · obtain ⟨a, f, v, df, rfl, _⟩ := h
    rfl
  · obtain ⟨a, fv, v, df, rfl, hd, fk, hv, q⟩ := h
    have tk : Takes (cxOf (L2.CX P w) P w K mg base ["self", "field", "deeds"] "Pile.__init__" (defScope s_Pile___init__) f cdv A outer st H E) fun cls d _ H => E cls d H := takes_of rfl rfl rfl rfl
    obtain ⟨D, hD⟩ : ∃ D, mg "Pieces" = some (.ref D) := by
      obtain ⟨D, hD, _⟩ := T.o_Pieces.ex
      exact ⟨D, hD⟩
    obtain ⟨T', hT, hm⟩ := dataOr_ty hv
    refine ⟨_, pss_cons (ps_fld (pv 0) (pe_ifExp (pt_val (pe_callB call_isi (by rfl) T.b_isinstance (by decide +kernel) (pa_cons (pv 2) (pa_cons (pe_glob (v := .ref D) (by rfl) hD rfl) pa_nil)))) (pe_fld (pv 2) rfl) (pe_kX (c_least_pileBad T) hr (by decide) tk (by rfl) (pa_cons (pv 1) (pa_cons (pv 2) pa_nil)))) rfl) (pss_one ps_never), ?_⟩
    refine ⟨_, rfl, v, .ref D, _, _, _, rfl, .own D, hT, T.k_Pieces D hD T' hm, _, rfl, iteF ⟨_, rfl, _, rfl, fv, v, df, rfl, hd, fk, q⟩⟩
end
end XB
set_option Elab.async false
set_option linter.all false
set_option maxRecDepth 100000
set_option maxHeartbeats 4000000
namespace XB
open PySem PySem.Spec PyProof.Rows L2
theorem DpAll.set1 {K : PySem.W.Frag} {H : Hp} {v : V} {d : PyData} (hv : Dp K H v d) : ∀ {vs : List V} {ds : List PyData} (i : Nat), DpAll K H vs ds → DpAll K H (vs.set i v) (ds.set i d)
  | _, _, _, .nil => .nil
  | _, _, 0, .cons _ t => .cons hv t
  | _, _, i + 1, .cons h t => .cons h (DpAll.set1 hv i t)
theorem DpAll.er {K : PySem.W.Frag} {H : Hp} : ∀ {vs : List V} {ds : List PyData} (i : Nat), DpAll K H vs ds → DpAll K H (vs.eraseIdx i) (ds.eraseIdx i)
  | _, _, _, .nil => .nil
  | _, _, 0, .cons _ t => t
  | _, _, i + 1, .cons h t => .cons h (DpAll.er i t)
theorem map_er {α β : Type} (f : α → β) : ∀ (l : List α) (i : Nat), (l.eraseIdx i).map f = (l.map f).eraseIdx i
  | [], _ => rfl
  | _ :: _, 0 => rfl
  | x :: l, i + 1 => by
    show f x :: (l.eraseIdx i).map f = f x :: (l.map f).eraseIdx i
    rw [map_er f l i]
/-- a list of steps put in at a place -/
theorem DpAll.inI {K : PySem.W.Frag} {H : Hp} {vs : List V} {row : List (Str × Int)} {v : V} {s : Str × Int} (hv : Dp K H v (dStep s)) (i : Nat) (h : DpAll K H vs (row.map dStep)) :
    DpAll K H (vs.take i ++ [v] ++ vs.drop i) ((row.take i ++ s :: row.drop i).map dStep) := by
  rw [List.append_assoc, List.map_append, List.map_cons, List.map_take, List.map_drop]
  exact (h.take i).app (.cons hv (h.drop i))
section
variable {P : Program} {w : World} {K : PySem.W.Frag} {mg : Str → Option Value} {base : Heap}
/-- the row as the program changes it stands in a list of its own -/
def Row1 (K : PySem.W.Frag) (H : Hp) (D : Addr) (row : List (Str × Int)) : Prop := ∃ xs, H D = some (.lst xs) ∧ DpAll K H xs (row.map dStep)
theorem Row1.put {K : PySem.W.Frag} {H : Hp} {D : Addr} {xs ys : List V} {row : List (Str × Int)} (e : H D = some (.lst xs)) (h : DpAll K H ys (row.map dStep)) : Row1 K (upd H D (.lst ys)) D row :=
  ⟨ys, upd_same, DpAll.tk (Tk.refl.lst e) _ (flat_all_steps row) h⟩
theorem TouchAt.lst {K : PySem.W.Frag} {H : Hp} {t D : Addr} {F : Fld} {xs ys : List V} (h : TouchAt K H t F) (e : H D = some (.lst xs)) : TouchAt K (upd H D (.lst ys)) t F := by
  obtain ⟨kvs, e1, g⟩ := h
  have k : Tk H (upd H D (.lst ys)) := Tk.refl.lst e
  refine ⟨kvs, by rw [upd_ne (ne_of e1 e (fun q => nomatch q))]; exact e1, fun n hn => ?_⟩
  obtain ⟨a, e1, e2⟩ := g n hn
  exact ⟨a, e1, k.sqT e2⟩
theorem lastIx_congr {p q : Str → Bool} : ∀ {r : List (Str × Int)}, (∀ y ∈ r, p y.1 = q y.1) → XM.lastIx p r = XM.lastIx q r
  | [], _ => rfl
  | y :: r, h => by
    have ih := lastIx_congr (p := p) (q := q) (r := r) fun z hz => h z (List.mem_cons_of_mem _ hz)
    have hy := h y List.mem_cons_self
    unfold XM.lastIx
    rw [hy, ih]
def Names (F : Fld) (l : List (Str × Int)) : Prop := ∀ s ∈ l, s.1 ∈ F.names
theorem names_ins {F : Fld} {x : Str × Int} (hx : x.1 ∈ F.names) : ∀ {r : List (Str × Int)}, Names F r → Names F (XM.ins (OF F) x r)
  | [], _ => fun s hs => by
    have hs : s ∈ [x] := hs
    rw [List.mem_singleton.mp hs]
    exact hx
  | y :: r, h => by
    have ih := names_ins hx (r := r) fun z hz => h z (List.mem_cons_of_mem _ hz)
    have hy := h y List.mem_cons_self
    have h0 : Names F r := fun z hz => h z (List.mem_cons_of_mem _ hz)
    have c : ∀ {a : Str × Int} {l : List (Str × Int)}, a.1 ∈ F.names → Names F l → Names F (a :: l) := fun {a l} ha hl s hs => by
      rcases List.mem_cons.mp hs with rfl | hs
      · exact ha
      · exact hl s hs
    unfold XM.ins
    by_cases e1 : y.1 = x.1
    · rw [if_pos e1]
      by_cases e2 : y.2 + x.2 = 0
      · rw [if_pos e2]
        exact h0
      · rw [if_neg e2]
        exact c hx h0
    · rw [if_neg e1]
      by_cases e2 : (OF F).tc y.1 x.1 = true
      · rw [if_pos e2]
        exact c hx h
      · rw [if_neg e2]
        by_cases e3 : ((OF F).lt y.1 x.1 && XM.top (OF F) x.1 r) = true
        · rw [if_pos e3]
          exact c hx h
        · rw [if_neg e3]
          exact c hy ih
theorem names_act {F : Fld} : ∀ {l r : List (Str × Int)}, Names F l → Names F r → Names F (XM.act (OF F) l r)
  | [], _, _, h => h
  | x :: l, r, hl, h => by
    rw [XM.act_cons]
    exact names_act (fun z hz => hl z (List.mem_cons_of_mem _ hz)) (names_ins (hl x List.mem_cons_self) h)
def spPiled (K : PySem.W.Frag) (F : Fld) : Sp := fun vs H Q _ => ∃ (t d : Addr) (xs : List V) (steps : List (Str × Int)), vs = [.ref t, .ref d] ∧ TouchAt K H t F ∧ F.Ok ∧ SqT K H d xs ∧ DpAll K H xs (steps.map dStep) ∧ steps.length ≤ 500 ∧ Names F steps ∧
  ∀ H' r, Same H H' → Dp K H' (.ref r) (dSteps (XM.act (OF F) steps []).reverse) → Q (.ref r) H'
theorem c_piled (T : Tx K mg) (F : Fld) : Cl P w K mg base CX0 2 "piled" (spPiled K F) := by
  refine cl0 T.d_piled (ps := ["touch", "steps"]) (fun _ _ _ _ _ _ us hl => match us, hl with | [_, _], _ => rfl) sc_piled (fun vs H Q E h => ?_) (fun f cdv A outer st H vs Q E hr h => ?_)
  · obtain ⟨t, d, xs, steps, rfl, _⟩ := h
    rfl
  · obtain ⟨t, d, xs, steps, rfl, hT, ok, hS, hD, hlen, hN, q⟩ := h
    have nd := sc_piled.nd
    have hu : (A.deeper (envOfC "piled" (defScope s_piled) st.heap.objs.size f cdv)).units + 1 < cLine := by
      have := hr.un
      omega
    have hl := hD.len
    rw [List.length_map] at hl
    refine ⟨_, pss_cons (ps_set (i := 2) nd rfl (.inl rfl) (pe_lst pa_nil))
      (pss_cons (ps_for PassesOwn.never rfl (pi_tup (pv 1)) (pg_tup rfl (pgs_cons (pg_name (i := 3) nd rfl (.inl rfl)) (pgs_cons (pg_name (i := 4) nd rfl (.inl rfl)) pgs_nil)))
        (pss_cons (ps_set (i := 5) nd rfl (.inl rfl) (pe_k (c_last_touched T) hr (by decide) (by rfl) (pa_cons (pe_dget hu (pv 0) (pv 3) (fun _ _ => rfl)) (pa_cons (pv 2) pa_nil))))
        (pss_one (ps_if (PW.pt (pw_or (pt_cmpR op_lt (pv 5) pe_int (nomark _)) (pw_or1 (pt_cmpR op_ne (pe_ix ix_tup (pe_ix ix_list (pv 2) (pv 5) (fun _ _ => rfl)) pe_int (fun _ _ => rfl)) (pv 3) (nomark _)))))
          (pss_one (ps_expr (pe_bm PySem.F.plainAttrs_list PySem.F.slot_list_insert PySem.F.type_list_insert mt_insert (pv 2) (pa_cons (pe_k (c_place_behind T F) hr (by decide) (by rfl) (pa_cons (pv 2) (pa_cons (pv 5) (pa_cons (pv 3) pa_nil)))) (pa_cons (pe_tup (pa_cons (pv 3) (pa_cons (pv 4) pa_nil))) pa_nil)))))
          (pss_one (ps_if (pt_cmpR op_ne (pe_op op_add (pe_ix ix_tup (pe_ix ix_list (pv 2) (pv 5) (fun _ _ => rfl)) pe_int (fun _ _ => rfl)) (pv 4)) pe_int (nomark _))
            (pss_one (ps_asg (pe_tup (pa_cons (pv 3) (pa_cons (pe_op op_add (pe_ix ix_tup (pe_ix ix_list (pv 2) (pv 5) (fun _ _ => rfl)) pe_int (fun _ _ => rfl)) (pv 4)) pa_nil))) (pg_sub (pv 2) (pv 5) set_list)))
            (pss_one (ps_delL (pv 2) (pv 5)))))))))
      (pss_one (ps_ret (pe_tupleOf (by rfl) T.b_tuple (pv 2))))), ?_⟩
    refine ⟨by decide, fun D hD0 => ?_⟩
    refine ⟨_, rfl, d, rfl, ⟨_, (Tk.of (same_upd hD0)).sqT hS⟩, for_it (walk_tup (xs := xs)) (fun i σ H2 => ∃ (row : List (Str × Int)) (y3 y4 y5 : Option V), σ = [some (.ref t), some (.ref d), some (.ref D), y3, y4, y5] ∧ Same H H2 ∧ Row1 K H2 D row ∧ row.reverse = XM.act (OF F) (steps.take i) [])
      ⟨[], none, none, none, rfl, same_upd hD0, ⟨[], upd_same, .nil⟩, rfl⟩ (fun i σ H2 _ ⟨_, _, _, _, _, s', _⟩ => (Tk.of s').sqT hS) (fun i x σ H2 H3 hi ⟨row, y3, y4, y5, eσ, s2, ⟨ys, eD, hY⟩, er⟩ hy => ?_) (fun σ H2 ⟨row, y3, y4, y5, eσ, s2, ⟨ys, eD, hY⟩, er⟩ => ?_)⟩
    · obtain ⟨rfl, hx⟩ := hy
      subst eσ
      obtain ⟨dd, g1, p1⟩ := hD.get hx
      rw [List.getElem?_map] at g1
      obtain ⟨s, k1, rfl⟩ := Option.map_eq_some_iff.mp g1
      obtain ⟨b, rfl, cb⟩ := p1.step
      have cb := (Tk.of s2).sqT cb
      have ms := hN s (List.mem_of_getElem? k1)
      obtain ⟨kvs, e1, g⟩ := hT.same s2
      obtain ⟨r, e2, e3⟩ := g s.1 ms
      have dg : DGet H3 t (.str s.1) (some (.ref r)) := by
        have := DGet.k (k := .inr s.1) e1
        rwa [e2] at this
      have hly := hY.len
      rw [List.length_map] at hly
      have hnr : Names F row.reverse := by
        rw [er]
        exact names_act (fun z hz => hN z (List.mem_of_mem_take hz)) (fun _ h => nomatch h)
      have hlr : row.length ≤ 500 := by
        have := XM.act_len (O := OF F) (l := steps.take i) (r := [])
        rw [← er, List.length_reverse, List.length_take, List.length_nil] at this
        omega
      have hlt : i < steps.length := by omega
      have fin : ∀ row' : List (Str × Int), XM.ins (OF F) s row.reverse = row'.reverse → row'.reverse = XM.act (OF F) (steps.take (i + 1)) [] := fun row' e => by
        rw [take_snoc k1, XM.act_app, ← er, XM.act_cons, XM.act_nil, e]
      have hc : XM.lastIx (fun b => (touchL F s.1).contains b) row.reverse = XM.lastIx (fun b => (OF F).tc b s.1) row.reverse := lastIx_congr fun y hy => mem_touch ok (hnr y hy)
      refine ⟨b, _, rfl, cb, rfl, _, _, rfl, _, _, rfl, rfl, ?_⟩
      refine ⟨_, rfl, _, rfl, t, .ref r, rfl, dg, _, rfl, r, D, touchL F s.1, ys, row, rfl, e3, .inl (SqL.of eD), hY, ?_⟩
      have hin : ∀ (i0 : Nat) T, H3 T = none → Row1 K (upd (upd H3 T (.tup [.str s.1, .int s.2])) D (.lst (ys.take (((i0 + XM.lead (OF F) s.1 (row.drop i0) : Nat) : Int)).toNat ++ [.ref T] ++ ys.drop (((i0 + XM.lead (OF F) s.1 (row.drop i0) : Nat) : Int)).toNat))) D
          (row.take i0 ++ XM.among (OF F) s (row.drop i0)) := fun i0 T hT' => by
        rw [Int.toNat_natCast]
        have eD' : upd H3 T (.tup [.str s.1, .int s.2]) D = some (.lst ys) := by
          rw [upd_ne (ne_of_none eD hT')]
          exact eD
        have := DpAll.inI (row := row) (v := .ref T) (s := s) (Dp.of_step (SqT.of upd_same)) (i0 + XM.lead (OF F) s.1 (row.drop i0)) (DpAll.tk (Tk.of (same_upd (o := .tup [.str s.1, .int s.2]) hT')) _ (flat_all_steps row) hY)
        have := Row1.put eD' this
        have er1 : row.take i0 ++ XM.among (OF F) s (row.drop i0) = row.take (i0 + XM.lead (OF F) s.1 (row.drop i0)) ++ s :: row.drop (i0 + XM.lead (OF F) s.1 (row.drop i0)) := by
          unfold XM.among
          rw [List.take_add, List.append_assoc, List.drop_drop]
        rw [er1]
        exact this
      obtain ⟨k, hk⟩ : ∃ k, XM.lastIx (fun b => (touchL F s.1).contains b) row.reverse = k := ⟨_, rfl⟩
      rw [hk]
      rw [hc] at hk
      rcases XM.ins_code (O := OF F) hk with ⟨rfl, e⟩ | ⟨j, z, rfl, hz, h⟩
      · refine ⟨_, rfl, _, _, rfl, rfl, _, rfl, iteT (iteT ?_)⟩
        refine ⟨_, rfl, Or.inl ⟨rfl, _, SqL.of eD⟩, _, rfl, _, rfl, _, rfl, D, _, 0, s.1, ys, row, rfl, rfl, Nat.zero_le _, .inl (SqL.of eD), hY, ?_⟩
        have hle := XM.lead_le (O := OF F) (a := s.1) (row.drop (0))
        rw [List.length_drop] at hle
        have hb : (((0) + XM.lead (OF F) s.1 (row.drop (0)) : Nat) : Int) < 2 ^ 63 := by omega
        refine ⟨_, rfl, _, rfl, (show 2 ≤ sizeLine by decide), fun T hT' => ⟨D, ys, _, .ref T, rfl, rfl, by rw [upd_ne (ne_of_none eD hT')]; exact eD, small1000 (by omega), Int.natCast_nonneg _, hb, ?_⟩⟩
        exact ⟨_, _, _, _, rfl, same_put (same_new s2 hT') hD0, hin (0) T hT', fin _ (by simpa using e)⟩
      · have hj := (List.getElem?_eq_some_iff.mp hz).1
        obtain ⟨c, hc1, hc2⟩ := hY.step hz
        refine ⟨_, rfl, _, _, rfl, rfl, _, rfl, ?_⟩
        rw [show decide ((j : Int) < 0) = false from decide_eq_false (by omega)]
        refine iteF ⟨_, rfl, _, rfl, _, _, _, _, rfl, rfl, SqL.of eD, at_of (j := j) rfl hc1, _, _, _, _, rfl, rfl, hc2, rfl, _, rfl, rfl, _, rfl, ?_⟩
        rw [show decide (V.str z.1 = V.str s.1) = decide (z.1 = s.1) from decide_eq_decide.mpr ⟨fun h => V.str.inj h, fun h => congrArg _ h⟩]
        rcases h with ⟨n, e⟩ | ⟨n, n2, e⟩ | ⟨n, n2, e⟩
        · rw [decide_eq_false n]
          refine iteT ?_
          refine ⟨_, rfl, Or.inl ⟨rfl, _, SqL.of eD⟩, _, rfl, _, rfl, _, rfl, D, _, j + 1, s.1, ys, row, rfl, rfl, hj, .inl (SqL.of eD), hY, ?_⟩
          have hle := XM.lead_le (O := OF F) (a := s.1) (row.drop (j + 1))
          rw [List.length_drop] at hle
          have hb : (((j + 1) + XM.lead (OF F) s.1 (row.drop (j + 1)) : Nat) : Int) < 2 ^ 63 := by omega
          refine ⟨_, rfl, _, rfl, (show 2 ≤ sizeLine by decide), fun T hT' => ⟨D, ys, _, .ref T, rfl, rfl, by rw [upd_ne (ne_of_none eD hT')]; exact eD, small1000 (by omega), Int.natCast_nonneg _, hb, ?_⟩⟩
          exact ⟨_, _, _, _, rfl, same_put (same_new s2 hT') hD0, hin (j + 1) T hT', fin _ (by simpa using e)⟩
        · rw [decide_eq_true n]
          refine iteF ⟨_, rfl, _, rfl, _, _, _, _, rfl, rfl, SqL.of eD, at_of (j := j) rfl hc1, _, _, _, _, rfl, rfl, hc2, rfl, _, rfl, _, _, rfl, rfl, rfl, _, rfl, ?_⟩
          rw [dec_int, show (z.2 + s.2 == 0) = false by simp [n2]]
          refine iteT ⟨_, rfl, _, rfl, _, rfl, _, _, _, _, rfl, rfl, SqL.of eD, at_of (j := j) rfl hc1, _, _, _, _, rfl, rfl, hc2, rfl, _, rfl, _, _, rfl, rfl, (show 2 ≤ sizeLine by decide), fun T hT' => ?_⟩
          have eD' : upd H3 T (.tup [.str s.1, .int (z.2 + s.2)]) D = some (.lst ys) := by
            rw [upd_ne (ne_of_none eD hT')]
            exact eD
          refine ⟨_, rfl, _, rfl, D, ys, _, j, rfl, rfl, eD', ixN_of rfl (by omega), ?_⟩
          refine ⟨row.set j (s.1, z.2 + s.2), _, _, _, rfl, same_put (same_new s2 hT') hD0, Row1.put eD' ?_, fin _ e⟩
          rw [List.map_set]
          exact DpAll.set1 (d := dStep (s.1, z.2 + s.2)) (Dp.of_step (SqT.of upd_same)) j (DpAll.tk (Tk.of (same_upd hT')) _ (flat_all_steps row) hY)
        · rw [decide_eq_true n]
          refine iteF ⟨_, rfl, _, rfl, _, _, _, _, rfl, rfl, SqL.of eD, at_of (j := j) rfl hc1, _, _, _, _, rfl, rfl, hc2, rfl, _, rfl, _, _, rfl, rfl, rfl, _, rfl, ?_⟩
          rw [dec_int, show (z.2 + s.2 == 0) = true by simp [n2]]
          have hjb : (j : Int) < 2 ^ 63 := by omega
          refine iteF ⟨_, rfl, _, rfl, D, ys, _, j, rfl, rfl, eD, by omega, hjb, (ixN_seq (ixN_of rfl (by omega))).1, ?_⟩
          refine ⟨row.eraseIdx j, _, _, _, rfl, same_put s2 hD0, Row1.put eD ?_, fin _ e⟩
          rw [map_er]
          exact DpAll.er j hY
    · subst eσ
      refine ⟨_, rfl, .inl ⟨D, ys, rfl, SqL.of eD, fun r hr' => q _ r (same_new s2 hr') ?_⟩⟩
      rw [hl, List.take_length] at er
      rw [← er, List.reverse_reverse]
      exact .tup (SqT.of upd_same) (DpAll.tk (Tk.of (same_upd hr')) _ (flat_all_steps row) hY)
end
end XB
set_option Elab.async false
set_option linter.all false
set_option maxRecDepth 100000
set_option maxHeartbeats 4000000
namespace XB
open PySem PySem.Spec PyProof.Rows L2
section
variable {P : Program} {w : World} {K : PySem.W.Frag} {mg : Str → Option Value} {base : Heap}
theorem GoodScript.names {F : Fld} {l : List (Str × Int)} (g : GoodScript F l) : Names F l := fun s hs => (g.2 s hs).1
theorem GoodScript.nz {F : Fld} {l : List (Str × Int)} (g : GoodScript F l) : XM.NZ l := fun s hs => (g.2 s hs).2.1
/-- a field and a script -/
def FS (K : PySem.W.Frag) (F : Fld) (l : List (Str × Int)) (vs : List V) (H : Hp) : Prop := ∃ (a d : Addr), vs = [.ref a, .ref d] ∧ Dp K H (.ref a) (dField F) ∧ F.Ok ∧ Dp K H (.ref d) (dSteps l) ∧ GoodScript F l
def spLeastPile (K : PySem.W.Frag) (F : Fld) : Sp := fun vs H Q _ => ∃ l, FS K F l vs H ∧ ∀ H' r, Same H H' → Dp K H' (.ref r) (dSteps (XM.act (OF F) l []).reverse) → Q (.ref r) H'
theorem c_least_pile (T : Tx K mg) (F : Fld) : Cl P w K mg base CX0 6 "least_pile" (spLeastPile K F) := by
  refine cl0 T.d_least_pile (ps := ["field", "deeds"]) (fun _ _ _ _ _ _ us hl => match us, hl with | [_, _], _ => rfl) sc_least_pile (fun vs H Q E h => ?_) (fun f cdv A outer st H vs Q E hr h => ?_)
  · obtain ⟨l, ⟨a, d, rfl, _⟩, _⟩ := h
    rfl
  · obtain ⟨l, ⟨a, d, rfl, hF, ok, hL, g⟩, q⟩ := h
    refine ⟨_, pss_cons (ps_expr (pe_k (c_need_script T) hr (by decide) (by rfl) (pa_cons (pv 0) (pa_cons (pv 1) pa_nil))))
      (pss_one (ps_ret (pe_k (c_piled T F) hr (by decide) (by rfl) (pa_cons (pe_k (c_touch_table T) hr (by decide) (by rfl) (pa_cons (pv 0) pa_nil)) (pa_cons (pv 1) pa_nil))))), ?_⟩
    refine ⟨_, rfl, _, rfl, a, d, F, l, rfl, hF, ok, hL, g, fun H1 s1 => ?_⟩
    refine ⟨_, rfl, a, F, rfl, Dp.tk (Tk.of s1) _ (flat_field F) hF, ok, fun H2 t s2 ht hT => ?_⟩
    obtain ⟨_, vs, e, hS, hV⟩ := (Dp.tk (Tk.of (s1.trans s2)) (dSteps l) (flat_steps l) hL).steps
    cases e
    refine ⟨_, rfl, t, d, vs, l, rfl, hT, ok, hS, hV, ?_, g.names, fun H3 r s3 hD => q _ r ((s1.trans s2).trans s3) hD⟩
    have := g.1
    omega
def lenOf (l : List (Str × Int)) : Int := (l.map fun s => if s.2 < 0 then -s.2 else s.2).sum
def spLengthOf (K : PySem.W.Frag) : Sp := fun vs H Q _ => ∃ (a : Addr) (xs : List V) (l : List (Str × Int)), vs = [.ref a] ∧ SqT K H a xs ∧ DpAll K H xs (l.map dStep) ∧ l.length ≤ 500 ∧ ∀ H', Same H H' → Q (.int (lenOf l)) H'
theorem c_length_of (T : Tx K mg) : Cl P w K mg base CX0 1 "length_of" (spLengthOf K) := by
  refine cl0 T.d_length_of (ps := ["pieces"]) (fun _ _ _ _ _ _ us hl => match us, hl with | [_], _ => rfl) sc_length_of (fun vs H Q E h => ?_) (fun f cdv A outer st H vs Q E hr h => ?_)
  · obtain ⟨a, xs, l, rfl, _⟩ := h
    rfl
  · obtain ⟨a, xs, l, rfl, hS, hD, hl, q⟩ := h
    have nd := sc_length_of.nd
    have hlx := hD.len
    rw [List.length_map] at hlx
    refine ⟨_, pss_one (ps_ret (pe_callB (cr_sum rfl) (by rfl) T.b_sum (by decide +kernel) (pa_cons (pe_lc (own := [("_", 1), ("times", 2)]) (g := gTup K 2 (gCons (gName 1) (gCons (gName 2) gNil))) (tt := tYes) (by rfl) nd (pi_tup (pv 0))
      (blkOk_by (own := [("_", 1), ("times", 2)]) (N := ["pieces", "_", "times"]) (sc := defScope s_length_of) (by decide +kernel))
      (fun _ _ _ _ _ => pg_tup rfl (pgs_cons (pg_name (i := 1) nd rfl (Or.inl rfl)) (pgs_cons (pg_name (i := 2) nd rfl (Or.inl rfl)) pgs_nil))) (fun _ _ _ _ _ => pts_nil)
      (fun _ _ _ _ _ => pe_callB call_abs (by rfl) T.b_abs (by decide +kernel) (pa_cons (pv 2) pa_nil))) pa_nil))), ?_⟩
    refine ⟨_, rfl, a, rfl, ⟨_, hS⟩, fun D hD' => ?_⟩
    refine lc_it (walk_tup (xs := xs)) (fun i H' => H' D = some (.lst ((((l.take i).map fun s => if s.2 < 0 then -s.2 else s.2)).map V.int)) ∧ Same H H') ⟨upd_same, same_upd hD'⟩ (fun _ _ _ ⟨_, s'⟩ => (Tk.of s').sqT hS) (fun i x H2 H3 hi ⟨eD, s'⟩ hy => ?_) (fun H2 ⟨eD, s'⟩ => ?_)
    · obtain ⟨rfl, hx⟩ := hy
      obtain ⟨dd, g1, p1⟩ := hD.get hx
      rw [List.getElem?_map] at g1
      obtain ⟨s, k1, rfl⟩ := Option.map_eq_some_iff.mp g1
      obtain ⟨b, rfl, cb⟩ := p1.step
      refine ⟨b, _, rfl, (Tk.of s').sqT cb, rfl, _, _, rfl, _, _, rfl, rfl, rfl, yes_ ?_⟩
      refine ⟨_, rfl, s.2, rfl, _, eD, ?_, ?_, same_put s' hD'⟩
      · rw [List.length_map, List.length_map, List.length_take]
        exact small1000 (by omega)
      · rw [upd_same, take_snoc k1, List.map_append, List.map_append]
        rfl
    · rw [hlx, List.take_length] at eD
      exact ⟨D, _, rfl, SqL.of eD, q _ s'⟩
theorem act_len0 {F : Fld} {l : List (Str × Int)} : (XM.act (OF F) l []).length ≤ l.length := by
  have := XM.act_len (O := OF F) (l := l) (r := [])
  rw [List.length_nil] at this
  omega
def spLength (K : PySem.W.Frag) (F : Fld) : Sp := fun vs H Q _ => ∃ l, FS K F l vs H ∧ ∀ H', Same H H' → Q (.int (lenOf (XM.act (OF F) l []).reverse)) H'
def spIsPile (K : PySem.W.Frag) (F : Fld) : Sp := fun vs H Q _ => ∃ l, FS K F l vs H ∧ ∀ H', Same H H' → Q (.bl (decide ((XM.act (OF F) l []).length = l.length))) H'
def spBack (K : PySem.W.Frag) : Sp := fun vs H Q _ => ∃ (a : Addr) (l : List (Str × Int)), vs = [.ref a] ∧ Dp K H (.ref a) (dSteps l) ∧ l.length ≤ 500 ∧ ∀ H' r, Same H H' → Dp K H' (.ref r) (dSteps (XM.back l)) → Q (.ref r) H'
theorem c_back (T : Tx K mg) : Cl P w K mg base CX0 1 "back" (spBack K) := by
  refine cl0 T.d_back (ps := ["steps"]) (fun _ _ _ _ _ _ us hl => match us, hl with | [_], _ => rfl) sc_back (fun vs H Q E h => ?_) (fun f cdv A outer st H vs Q E hr h => ?_)
  · obtain ⟨a, l, rfl, _⟩ := h
    rfl
  · obtain ⟨a, l, rfl, hL, hl, q⟩ := h
    have nd := sc_back.nd
    obtain ⟨_, xs, e, hS, hD⟩ := hL.steps
    cases e
    have hlx := hD.len
    rw [List.length_map] at hlx
    refine ⟨_, pss_one (ps_ret (pe_tupleOf (by rfl) T.b_tuple (pe_lc (own := [("name", 1), ("times", 2)]) (g := gTup K 2 (gCons (gName 1) (gCons (gName 2) gNil))) (tt := tYes) (by rfl) nd (pi_tup (pe_revT (pv 0)))
      (blkOk_by (own := [("name", 1), ("times", 2)]) (N := ["steps", "name", "times"]) (sc := defScope s_back) (by decide +kernel))
      (fun _ _ _ _ _ => pg_tup rfl (pgs_cons (pg_name (i := 1) nd rfl (Or.inl rfl)) (pgs_cons (pg_name (i := 2) nd rfl (Or.inl rfl)) pgs_nil))) (fun _ _ _ _ _ => pts_nil)
      (fun _ _ _ _ _ => pe_tup (pa_cons (pv 1) (pa_cons (pe_un un_neg (pv 2)) pa_nil)))))), ?_⟩
    refine ⟨_, rfl, a, xs, rfl, hS, fun p hp => ⟨p, rfl, ⟨_, SqT.of upd_same⟩, fun D hD' => ?_⟩⟩
    have s0 : Same H (upd H p (.tup xs.reverse)) := same_upd hp
    have hB : SqT K (upd H p (.tup xs.reverse)) p xs.reverse := SqT.of upd_same
    have hR : DpAll K (upd H p (.tup xs.reverse)) xs.reverse (l.reverse.map dStep) := by
      rw [List.map_reverse]
      exact (DpAll.tk (Tk.of s0) _ (flat_all_steps l) hD).rev
    generalize upd H p (.tup xs.reverse) = H1 at s0 hB hR hD' ⊢
    refine lc_it (walk_tup (xs := xs.reverse)) (fun i H' => Row1 K H' D ((l.reverse.take i).map fun x => (x.1, -x.2)) ∧ Same H1 H') ⟨⟨[], upd_same, .nil⟩, same_upd hD'⟩ (fun _ _ _ ⟨_, s'⟩ => (Tk.of s').sqT hB) (fun i x H2 H3 hi ⟨⟨ys, eD, hY⟩, s'⟩ hy => ?_) (fun H2 ⟨⟨ys, eD, hY⟩, s'⟩ => ?_)
    · obtain ⟨rfl, hx⟩ := hy
      obtain ⟨dd, g1, p1⟩ := hR.get hx
      rw [List.getElem?_map] at g1
      obtain ⟨s, k1, rfl⟩ := Option.map_eq_some_iff.mp g1
      obtain ⟨b, rfl, cb⟩ := p1.step
      have hly := hY.len
      rw [List.length_map, List.length_map, List.length_take, List.length_reverse] at hly
      refine ⟨b, _, rfl, (Tk.of s').sqT cb, rfl, _, _, rfl, _, _, rfl, rfl, rfl, yes_ ?_⟩
      refine ⟨_, rfl, _, rfl, s.2, rfl, (show 2 ≤ sizeLine by decide), fun T hT => ⟨ys, ?_, small1000 (by omega), ?_, same_put (same_new s' hT) hD'⟩⟩
      · rw [upd_ne (ne_of_none eD hT)]
        exact eD
      · refine Row1.put (xs := ys) (by rw [upd_ne (ne_of_none eD hT)]; exact eD) ?_
        rw [take_snoc k1, List.map_append, List.map_append]
        exact (DpAll.tk (Tk.of (same_upd hT)) _ (flat_all_steps _) hY).app (.cons (Dp.of_step (s := (s.1, -s.2)) (SqT.of upd_same)) .nil)
    · rw [List.length_reverse, hlx, show l.length = l.reverse.length from (List.length_reverse).symm, List.take_length] at hY
      refine .inl ⟨D, ys, rfl, SqL.of eD, fun r hr' => q _ r (same_new (s0.trans s') hr') ?_⟩
      unfold XM.back
      rw [← List.map_reverse]
      exact .tup (SqT.of upd_same) (DpAll.tk (Tk.of (same_upd hr')) _ (flat_all_steps _) hY)
theorem names_back {F : Fld} {l : List (Str × Int)} (h : Names F l) : Names F (XM.back l) := fun s hs => by
  unfold XM.back at hs
  obtain ⟨x, hx, rfl⟩ := List.mem_map.mp (List.mem_reverse.mp hs)
  exact h x hx
def spTakenBack (K : PySem.W.Frag) (F : Fld) : Sp := fun vs H Q _ => ∃ l, FS K F l vs H ∧ ∀ H' r, Same H H' → Dp K H' (.ref r) (dSteps (XM.act (OF F) (XM.back l) []).reverse) → Q (.ref r) H'
end
end XB
set_option Elab.async false
set_option linter.all false
set_option maxRecDepth 100000
set_option maxHeartbeats 4000000
namespace XM
theorem frs_snoc {α : Type} [DecidableEq α] {O : Ord α} {x : α × Int} : ∀ {l bar : Row α}, frs O bar (l ++ [x]) = frs O bar l ++ (if (bar ++ l).all (fun w => !O.tc w.1 x.1) then [x.1] else [])
  | [], bar => by
    show (if _ then _ else _) = _
    rw [List.append_nil]
    cases bar.all (fun w => !O.tc w.1 x.1) <;> rfl
  | y :: l, bar => by
    have ih := frs_snoc (O := O) (x := x) (l := l) (bar := bar ++ [y])
    rw [List.append_assoc, List.singleton_append] at ih
    show (if _ then y.1 :: frs O (bar ++ [y]) (l ++ [x]) else frs O (bar ++ [y]) (l ++ [x])) = (if _ then _ else _) ++ _
    rw [ih]
    cases bar.all (fun w => !O.tc w.1 y.1) <;> rfl
end XM
namespace XB
open PySem PySem.Spec PyProof.Rows L2
section
variable {P : Program} {w : World} {K : PySem.W.Frag} {mg : Str → Option Value} {base : Heap}
def SrtOf (ns zs : List Str) : Prop := zs.Perm ns ∧ sortedS zs = true
theorem frs_len {F : Fld} : ∀ {l bar : List (Str × Int)}, (XM.frs (OF F) bar l).length ≤ l.length
  | [], _ => Nat.le_refl _
  | x :: l, bar => by
    have ih := frs_len (F := F) (l := l) (bar := bar ++ [x])
    unfold XM.frs
    split
    · rw [List.length_cons, List.length_cons]
      omega
    · rw [List.length_cons]
      omega
theorem barred_all {F : Fld} (ok : F.Ok) {n : Str} (hn : n ∈ F.names) (l : List (Str × Int)) : (!(l.any fun w => (touchL F w.1).contains n)) = l.all fun w => !(OF F).tc w.1 n := by
  induction l with
  | nil => rfl
  | cons y r ih =>
    rw [List.any_cons, List.all_cons, Bool.not_or, ih, mem_touch ok hn, (OF F).symm]
def Bars (H : Hp) (B : Addr) (f : Str → Bool) (m : Nat) : Prop := ∃ kvs : List (Key × V), H B = some (.dK kvs) ∧ kvs.length ≤ m ∧ ∀ n, (valV kvs (.inr n)).isSome = f n
def spFrontNames (K : PySem.W.Frag) (F : Fld) : Sp := fun vs H Q _ => ∃ (t d : Addr) (xs : List V) (l : List (Str × Int)), vs = [.ref t, .ref d] ∧ TouchAt K H t F ∧ F.Ok ∧ SqT K H d xs ∧ DpAll K H xs (l.map dStep) ∧ l.length ≤ 60 ∧ Names F l ∧
  ∀ H' r zs, Same H H' → SrtOf (XM.frs (OF F) [] l) zs → SqT K H' r (zs.map V.str) → Q (.ref r) H'
def spFronts (K : PySem.W.Frag) (F : Fld) : Sp := fun vs H Q _ => ∃ l, FS K F l vs H ∧ ∀ H' r zs, Same H H' → SrtOf (XM.frs (OF F) [] (XM.act (OF F) l []).reverse) zs → SqT K H' r (zs.map V.str) → Q (.ref r) H'
theorem names_rev {F : Fld} {l : List (Str × Int)} (h : Names F l) : Names F l.reverse := fun s hs => h s (List.mem_reverse.mp hs)
def spEnds (K : PySem.W.Frag) (F : Fld) : Sp := fun vs H Q _ => ∃ l, FS K F l vs H ∧ ∀ H' r zs, Same H H' → SrtOf (XM.frs (OF F) [] (XM.act (OF F) l [])) zs → SqT K H' r (zs.map V.str) → Q (.ref r) H'
end
end XB
set_option Elab.async false
set_option linter.all false
set_option maxRecDepth 100000
set_option maxHeartbeats 4000000
/-! rules of rows, lists or tuples -/
namespace XB
open PySem PySem.Spec PyProof.Rows L2
section
variable {P : Program} {w : World} {K : PySem.W.Frag} {mg : Str → Option Value} {base : Heap}
def spLawApart (K : PySem.W.Frag) : Sp := fun vs H Q _ => ∃ (a : Addr) (F : Fld) (x y : Str), vs = [.ref a, .str x, .str y] ∧ Dp K H (.ref a) (dField F) ∧ F.Ok ∧ x ∈ F.names ∧ y ∈ F.names ∧ ∀ H', Same H H' → Q (.bl (apart F x y)) H'
def spLawLength (K : PySem.W.Frag) : Sp := fun vs H Q _ => ∃ (a : Addr) (xs : List V) (l : List (Str × Int)), vs = [.ref a] ∧ SqT K H a xs ∧ DpAll K H xs (l.map dStep) ∧ l.length ≤ 500 ∧ ∀ H', Same H H' → Q (.int (lenOf l)) H'
end
end XB
set_option Elab.async false
set_option linter.all false
set_option maxRecDepth 100000
set_option maxHeartbeats 4000000
namespace XB
open PySem PySem.Spec PyProof.Rows L2
section
variable {P : Program} {w : World} {K : PySem.W.Frag} {mg : Str → Option Value} {base : Heap}
def spLawBack (K : PySem.W.Frag) : Sp := fun vs H Q _ => ∃ (a : Addr) (l : List (Str × Int)), vs = [.ref a] ∧ Dp K H (.ref a) (dSteps l) ∧ l.length ≤ 500 ∧ ∀ H' r, Same H H' → Dp K H' (.ref r) (dSteps (XM.back l)) → Q (.ref r) H'
/-- whether the step there can stand first -/
def free1 (F : Fld) (l : List (Str × Int)) (k : Nat) : Bool := match l[k]? with
  | some s => (l.take k).all fun y => !(OF F).tc y.1 s.1
  | none => false
def firstsL (F : Fld) (l : List (Str × Int)) (n : Nat) : List Nat := (List.range n).filter (free1 F l)
theorem firsts_snoc {F : Fld} {l : List (Str × Int)} {n : Nat} : firstsL F l (n + 1) = firstsL F l n ++ (if free1 F l n then [n] else []) := by
  unfold firstsL
  rw [List.range_succ, List.filter_append]
  congr 1
  cases h : free1 F l n <;> simp [h]
theorem firsts_len {F : Fld} {l : List (Str × Int)} {n : Nat} : (firstsL F l n).length ≤ n := by
  have := List.length_filter_le (free1 F l) (List.range n)
  rw [List.length_range] at this
  exact this
def spLawFirst (K : PySem.W.Frag) : Sp := fun vs H Q _ => ∃ (a p : Addr) (F : Fld) (xs : List V) (l : List (Str × Int)), vs = [.ref a, .ref p] ∧ Dp K H (.ref a) (dField F) ∧ F.Ok ∧ SqX K H p xs ∧ DpAll K H xs (l.map dStep) ∧ Names F l ∧ l.length ≤ 60 ∧
  ∀ H' r, Same H H' → H' r = some (.lst ((firstsL F l l.length).map fun k => V.int (k : Nat))) → H r = none → Q (.ref r) H'
end
end XB
set_option Elab.async false
set_option linter.all false
set_option maxRecDepth 100000
set_option maxHeartbeats 4000000
namespace XB
open PySem PySem.Spec PyProof.Rows L2
def up (n : Nat) (o : Option (Nat × Nat)) : Option (Nat × Nat) := o.map fun p => (p.1 + n, p.2 + n)
theorem met_none {F : Fld} {l : List (Str × Int)} {k : Nat} {s : Str × Int} (hs : l[k]? = some s) (h : XM.near (OF F) s.1 (l.drop (k + 1)) = none) : up k (XM.met (OF F) (l.drop k)) = up (k + 1) (XM.met (OF F) (l.drop (k + 1))) := by
  rw [drop_at hs]
  show up k (match XM.near (OF F) s.1 (l.drop (k + 1)) with
    | some d => some (0, d + 1)
    | none => (XM.met (OF F) (l.drop (k + 1))).map fun p => (p.1 + 1, p.2 + 1)) = _
  rw [h]
  unfold up
  rw [Option.map_map]
  congr 1
  funext p
  show (p.1 + 1 + k, p.2 + 1 + k) = (p.1 + (k + 1), p.2 + (k + 1))
  rw [Nat.add_assoc, Nat.add_assoc, Nat.add_comm 1 k]
theorem met_here {F : Fld} {l : List (Str × Int)} {k d : Nat} {s : Str × Int} (hs : l[k]? = some s) (h : XM.near (OF F) s.1 (l.drop (k + 1)) = some d) : up k (XM.met (OF F) (l.drop k)) = some (k, k + 1 + d) := by
  rw [drop_at hs]
  show up k (match XM.near (OF F) s.1 (l.drop (k + 1)) with
    | some d => some (0, d + 1)
    | none => (XM.met (OF F) (l.drop (k + 1))).map fun p => (p.1 + 1, p.2 + 1)) = _
  rw [h]
  show some (0 + k, d + 1 + k) = _
  rw [Nat.zero_add, Nat.add_comm (d + 1) k, Nat.add_comm d 1, Nat.add_assoc]
section
variable {P : Program} {w : World} {K : PySem.W.Frag} {mg : Str → Option Value} {base : Heap}
def metV (K : PySem.W.Frag) (H : Hp) (Q : VK) : Option (Nat × Nat) → Prop
  | none => ∀ H', Same H H' → Q .non H'
  | some p => ∀ H' r, Same H H' → SqT K H' r [.int (p.1 : Nat), .int (p.2 : Nat)] → Q (.ref r) H'
def spLawMet (K : PySem.W.Frag) : Sp := fun vs H Q _ => ∃ (a p : Addr) (F : Fld) (xs : List V) (l : List (Str × Int)), vs = [.ref a, .ref p] ∧ Dp K H (.ref a) (dField F) ∧ F.Ok ∧ SqX K H p xs ∧ DpAll K H xs (l.map dStep) ∧ Names F l ∧ l.length ≤ 60 ∧
  metV K H Q (XM.met (OF F) l)
end
end XB
set_option Elab.async false
set_option linter.all false
set_option maxRecDepth 100000
set_option maxHeartbeats 4000000
namespace XB
open PySem PySem.Spec PyProof.Rows L2
theorem cut_mid (xs : List V) {i j : Nat} (h1 : i ≤ j) (h2 : j ≤ xs.length) : cutV xs (some (i : Int)) (some (j : Int)) = (xs.drop i).take (j - i) := by
  unfold cutV
  rw [HT.sIx_nat, HT.sIx_nat, Nat.min_eq_left h2, Nat.min_eq_left (Nat.le_trans h1 h2)]
def melt {α : Type} (l : List α) (x : List α) (i j : Nat) : List α := l.take i ++ x ++ ((l.drop (i + 1)).take (j - (i + 1)) ++ l.drop (j + 1))
theorem melt_step {F : Fld} {l : List (Str × Int)} {i j : Nat} (h : XM.met (OF F) l = some (i, j)) (hZ : XM.NZ l) (hN : Names F l) :
    ∃ a s t, l[i]? = some (a, s) ∧ l[j]? = some (a, t) ∧ i < j ∧ j < l.length ∧ ∀ x, x = (if s + t = 0 then [] else [(a, s + t)]) →
      XM.NZ (melt l x i j) ∧ Names F (melt l x i j) ∧ XM.act (OF F) (melt l x i j) [] = XM.act (OF F) l [] ∧ (melt l x i j).length < l.length := by
  obtain ⟨u, a, s, m, t, v, e, hi, hj, hm⟩ := XM.met_some h
  have z1 : s ≠ 0 := hZ (a, s) (by rw [e]; simp)
  have z2 : t ≠ 0 := hZ (a, t) (by rw [e]; simp)
  refine ⟨a, s, t, ?_, ?_, by omega, ?_, fun x hx => ?_⟩
  · rw [e, List.getElem?_append_right (by omega), hi, Nat.sub_self]
    rfl
  · rw [e, List.getElem?_append_right (by omega), show j - u.length = m.length + 1 by omega, List.getElem?_cons_succ, List.getElem?_append_right (by omega), Nat.sub_self]
    rfl
  · rw [e]
    simp
    omega
  · have em : melt l x i j = u ++ (x ++ (m ++ v)) := by
      unfold melt
      have e1 : l.take i = u := by
        rw [e, ← hi, List.take_left']
        rfl
      have e2 : l.drop (i + 1) = m ++ (a, t) :: v := by
        rw [e, ← hi, List.drop_append, List.drop_of_length_le (by omega)]
        rw [show u.length + 1 - u.length = 1 by omega]
        rfl
      have e3 : l.drop (j + 1) = v := by
        have : l.drop (j + 1) = (l.drop (i + 1)).drop (m.length + 1) := by
          rw [List.drop_drop]
          congr 1
          omega
        rw [this, e2, List.drop_append, List.drop_of_length_le (by omega), show m.length + 1 - m.length = 1 by omega]
        rfl
      rw [e1, e2, e3, show j - (i + 1) = m.length by omega, List.take_left' rfl, List.append_assoc]
    have nx : XM.NZ x := by
      rw [hx]
      intro y hy
      by_cases h0 : s + t = 0
      · rw [if_pos h0] at hy
        cases hy
      · rw [if_neg h0] at hy
        rw [List.mem_singleton.mp hy]
        exact h0
    have zl := hZ
    rw [e] at zl
    have zu : XM.NZ u := fun y hy => zl y (by simp [hy])
    have zm : XM.NZ m := fun y hy => zl y (by simp [hy])
    have zv : XM.NZ v := fun y hy => zl y (by simp [hy])
    have nl := hN
    rw [e] at nl
    rw [em]
    refine ⟨zu.app (nx.app (zm.app zv)), fun y hy => ?_, ?_, ?_⟩
    · rw [List.mem_append, List.mem_append, List.mem_append] at hy
      rcases hy with hy | hy | hy | hy
      · exact nl y (by simp [hy])
      · rw [hx] at hy
        by_cases h0 : s + t = 0
        · rw [if_pos h0] at hy
          cases hy
        · rw [if_neg h0] at hy
          rw [List.mem_singleton.mp hy]
          exact nl (a, s) (by simp)
      · exact nl y (by simp [hy])
      · exact nl y (by simp [hy])
    · rw [e, hx]
      exact (XM.act_meet (O := OF F) hm z1 z2 zu zm (show XM.NF (OF F) [] from trivial)).symm
    · rw [e, hx]
      by_cases h0 : s + t = 0
      · rw [if_pos h0]
        simp
        try omega
      · rw [if_neg h0]
        simp
        try omega
section
variable {P : Program} {w : World} {K : PySem.W.Frag} {mg : Str → Option Value} {base : Heap}
def spLawPile (K : PySem.W.Frag) (F : Fld) : Sp := fun vs H Q _ => ∃ (a p : Addr) (xs : List V) (l : List (Str × Int)), vs = [.ref a, .ref p] ∧ Dp K H (.ref a) (dField F) ∧ F.Ok ∧ SqT K H p xs ∧ DpAll K H xs (l.map dStep) ∧ Names F l ∧ XM.NZ l ∧ l.length ≤ 60 ∧
  ∀ H' r l', Same H H' → Row1 K H' r l' → H r = none → Names F l' → XM.NZ l' → XM.pl (OF F) l' = true → XM.act (OF F) l' [] = XM.act (OF F) l [] → l'.length ≤ l.length → Q (.ref r) H'
/-- what _law_met has answered -/
def SpotV (K : PySem.W.Frag) (H : Hp) (z : V) : Option (Nat × Nat) → Prop
  | none => z = .non
  | some p => ∃ t, z = .ref t ∧ SqT K H t [.int (p.1 : Nat), .int (p.2 : Nat)]
theorem metV_of {H : Hp} {Q : VK} {o : Option (Nat × Nat)} (h : ∀ H' z, Same H H' → SpotV K H' z o → Q z H') : metV K H Q o := by
  cases o with
  | none => exact fun H' s => h H' .non s rfl
  | some p => exact fun H' r s hs => h H' (.ref r) s ⟨r, rfl, hs⟩
def PileInv (K : PySem.W.Frag) (F : Fld) (H : Hp) (a p : Addr) (l : List (Str × Int)) : Nat → L2.St → Hp → Prop := fun m σ H2 => ∃ (D : Addr) (ys : List V) (l' : List (Str × Int)) (z : V) (y4 y5 y6 y7 : Option V), m = l'.length ∧ σ = [some (.ref a), some (.ref p), some (.ref D), some z, y4, y5, y6, y7] ∧ Same H H2 ∧ H2 D = some (.lst ys) ∧ DpAll K H2 ys (l'.map dStep) ∧ H D = none ∧
        Names F l' ∧ XM.NZ l' ∧ XM.act (OF F) l' [] = XM.act (OF F) l [] ∧ l'.length ≤ l.length ∧ SpotV K H2 z (XM.met (OF F) l')
end
end XB
set_option Elab.async false
set_option linter.all false
set_option maxRecDepth 100000
set_option maxHeartbeats 4000000
namespace XB
open PySem PySem.Spec PyProof.Rows L2
theorem rising_least : ∀ {r : List Str} {x : Str}, risingS x r = true → ∀ y ∈ r, sLt y x = false
  | [], _, _ => fun _ h => nomatch h
  | z :: r, x, h => by
    unfold risingS at h
    rw [Bool.and_eq_true] at h
    have h1 : sLt z x = false := by
      have := h.1
      rw [ltCps_eq] at this
      unfold sLt
      simpa using this
    intro y hy
    rcases List.mem_cons.mp hy with rfl | hy
    · exact h1
    · have h2 := rising_least h.2 y hy
      cases h3 : sLt y x
      · rfl
      · exfalso
        by_cases e : x = z
        · rw [e] at h3
          rw [h3] at h2
          cases h2
        · have h4 : sLt x z = true := sLt_tot z x (fun q => e q.symm) h1
          have := sLt_trans _ _ _ h3 h4
          rw [this] at h2
          cases h2
theorem sorted_head {y0 : Str} {ys : List Str} (h : sortedS (y0 :: ys) = true) : ∀ y ∈ y0 :: ys, sLt y y0 = false := fun y hy => by
  rcases List.mem_cons.mp hy with rfl | hy
  · exact sLt_irr _
  · exact rising_least h y hy
def nm1 (l : List (Str × Int)) (k : Nat) : Str := (l[k]?.map (·.1)).getD ""
theorem nm1_of {l : List (Str × Int)} {k : Nat} {s : Str × Int} (h : l[k]? = some s) : nm1 l k = s.1 := by
  unfold nm1
  rw [h]
  rfl
theorem mem_firsts {F : Fld} {l : List (Str × Int)} {n k : Nat} : k ∈ firstsL F l n ↔ k < n ∧ free1 F l k = true := by
  unfold firstsL
  rw [List.mem_filter, List.mem_range]
theorem firsts_at {F : Fld} {l : List (Str × Int)} {k : Nat} (h : k ∈ firstsL F l l.length) : ∃ s, l[k]? = some s ∧ ∀ y ∈ l.take k, (OF F).tc y.1 s.1 = false := by
  obtain ⟨h1, h2⟩ := mem_firsts.mp h
  have hs : l[k]? = some l[k] := List.getElem?_eq_getElem h1
  refine ⟨_, hs, fun y hy => ?_⟩
  unfold free1 at h2
  rw [hs] at h2
  have := List.all_eq_true.mp h2 y hy
  simpa using this
theorem least_first {F : Fld} {l : List (Str × Int)} {ys : List Str} {y0 : Str} (hP : (y0 :: ys).Perm ((firstsL F l l.length).map (nm1 l))) (hS : sortedS (y0 :: ys) = true) {k : Nat} (hk : k ∈ firstsL F l l.length) (hn : nm1 l k = y0) :
    ∃ s, l[k]? = some s ∧ s.1 = y0 ∧ l = l.take k ++ s :: l.drop (k + 1) ∧ XM.LeastFirst (OF F) (l.take k) s (l.drop (k + 1)) := by
  obtain ⟨s, hs, hf⟩ := firsts_at hk
  have e1 : s.1 = y0 := by rw [← hn, nm1_of hs]
  have e2 : l = l.take k ++ s :: l.drop (k + 1) := by
    rw [← drop_at hs, List.take_append_drop]
  refine ⟨s, hs, e1, e2, hf, fun p' z q' e hp hz => ?_⟩
  rw [← e2] at e
  have hz' : l[p'.length]? = some z := by
    rw [e, List.getElem?_append_right (Nat.le_refl _), Nat.sub_self]
    rfl
  have m : p'.length ∈ firstsL F l l.length := by
    refine mem_firsts.mpr ⟨(List.getElem?_eq_some_iff.mp hz').1, ?_⟩
    unfold free1
    rw [hz']
    show (l.take p'.length).all _ = true
    rw [e, List.take_left' rfl, List.all_eq_true]
    intro w hw
    rw [hp w hw]
    rfl
  have m2 : z.1 ∈ y0 :: ys := hP.symm.subset (List.mem_map.mpr ⟨_, m, nm1_of hz'⟩)
  have := sorted_head hS _ m2
  show sLt s.1 z.1 = true
  rw [e1]
  exact sLt_tot _ _ (fun q => hz (by rw [q, e1])) this
theorem firsts_some {F : Fld} {l : List (Str × Int)} (h : l ≠ []) : 0 ∈ firstsL F l l.length := by
  cases l with
  | nil => exact absurd rfl h
  | cons x r => exact mem_firsts.mpr ⟨by simp, rfl⟩
/-- what stands fast while the least pile is drawn from a pile -/
structure LInv (F : Fld) (l fl ll : List (Str × Int)) : Prop where
  srt : XM.Srt (OF F) fl ll
  pl : XM.pl (OF F) (fl ++ ll) = true
  nf : XM.NZ fl
  nl : XM.NZ ll
  act : XM.act (OF F) (fl ++ ll) [] = XM.act (OF F) l []
  nm : Names F ll
  len : fl.length + ll.length ≤ 60
theorem LInv.step {F : Fld} {l fl p q : List (Str × Int)} {s : Str × Int} (I : LInv F l fl (p ++ s :: q)) (L : XM.LeastFirst (OF F) p s q) : LInv F l (fl ++ [s]) (p ++ q) := by
  have zs : s.2 ≠ 0 := I.nl s (by simp)
  have zp : XM.NZ p := fun y hy => I.nl y (by simp [hy])
  have zq : XM.NZ q := fun y hy => I.nl y (by simp [hy])
  refine ⟨I.srt.step L, ?_, I.nf.app fun y hy => by rw [List.mem_singleton.mp hy]; exact zs, zp.app zq, ?_, fun y hy => I.nm y ?_, ?_⟩
  · rw [List.append_assoc, List.singleton_append, ← XM.pl_move L.free]
    exact I.pl
  · rw [List.append_assoc, List.singleton_append, ← XM.act_move L.free I.nf zp (show XM.NF (OF F) [] from trivial)]
    exact I.act
  · rw [List.mem_append] at hy
    rcases hy with h | h <;> simp [h]
  · have := I.len
    simp at this ⊢
    omega
theorem LInv.done {F : Fld} {l fl : List (Str × Int)} (I : LInv F l fl []) : (XM.act (OF F) l []).reverse = fl := by
  have h := I.pl
  have nf : XM.NF (OF F) fl.reverse := XM.nf_of (left := []) _ fl rfl I.srt h I.nf
  have a := XM.act_fix nf
  rw [List.reverse_reverse] at a
  have := I.act
  rw [List.append_nil, a] at this
  rw [← this, List.reverse_reverse]
theorem lay_steps : ∀ {l : List (Str × Int)}, (∀ s ∈ l, GoodName s.1) → PyData.canLayAll0 (l.map dStep) = true
  | [], _ => rfl
  | s :: l, h => by
    rw [List.map_cons, PyData.canLayAll0, lay_steps fun x hx => h x (List.mem_cons_of_mem _ hx)]
    show (PyData.canLay0 (.tuple [.str s.1, .int s.2]) && true) = true
    simp [PyData.canLay0, PyData.canLayAll0, strOk_of (h s List.mem_cons_self)]
theorem deep_steps : ∀ l : List (Str × Int), PyData.depthAll (l.map dStep) ≤ 2
  | [] => by decide
  | s :: l => by
    rw [List.map_cons, PyData.depthAll]
    have := deep_steps l
    have e : (dStep s).depth ≤ 2 := by
      show PyData.depth (.tuple [.str s.1, .int s.2]) ≤ 2
      simp [PyData.depth, PyData.depthAll]
    omega
theorem sh_steps {l : List (Str × Int)} (h : ∀ s ∈ l, GoodName s.1) : SeqAt.shaped (.list (l.map dStep)) = true := by
  have h2 := deep_steps l
  show (PyData.canLayAll0 (l.map dStep) && decide (PyData.depthAll (l.map dStep) + 1 ≤ 64)) = true
  rw [lay_steps h, Bool.true_and]
  exact decide_eq_true (by omega)
theorem ne_steps (l : List (Str × Int)) : PyData.eqv (.list (l.map dStep)) (.list []) = l.isEmpty := by
  cases l <;> rfl
end XB
set_option Elab.async false
set_option linter.all false
set_option maxRecDepth 100000
set_option maxHeartbeats 4000000
namespace XB
open PySem PySem.Spec PyProof.Rows L2
theorem fresh_of {H H1 : Hp} {p : Addr} (s : Same H H1) (h : H1 p = none) : H p = none := by
  cases e : H p with
  | none => rfl
  | some o =>
    rw [s _ _ e] at h
    cases h
theorem nat_at {ns : List Nat} {i : Nat} {x : V} (h : (ns.map fun k => V.int (k : Nat))[i]? = some x) : ∃ k, ns[i]? = some k ∧ x = V.int (k : Nat) := by
  rw [List.getElem?_map] at h
  obtain ⟨z, e, rfl⟩ := Option.map_eq_some_iff.mp h
  exact ⟨z, e, rfl⟩
section
variable {P : Program} {w : World} {K : PySem.W.Frag} {mg : Str → Option Value} {base : Heap}
def spLawLeast (K : PySem.W.Frag) (F : Fld) : Sp := fun vs H Q _ => ∃ (a p : Addr) (l : List (Str × Int)), vs = [.ref a, .ref p] ∧ Dp K H (.ref a) (dField F) ∧ F.Ok ∧ Dp K H (.ref p) (dSteps l) ∧ Names F l ∧ XM.NZ l ∧ l.length ≤ 60 ∧
  ∀ H' r, Same H H' → Dp K H' (.ref r) (dSteps (XM.act (OF F) l []).reverse) → Q (.ref r) H'
def LeastInv (K : PySem.W.Frag) (F : Fld) (H : Hp) (a p : Addr) (l : List (Str × Int)) : Nat → L2.St → Hp → Prop := fun m σ H2 => ∃ (D E : Addr) (xs ys : List V) (ll fl : List (Str × Int)) (y4 y5 y6 : Option V), m = ll.length ∧ σ = [some (.ref a), some (.ref p), some (.ref D), some (.ref E), y4, y5, y6] ∧ Same H H2 ∧
  H2 D = some (.lst xs) ∧ DpAll K H2 xs (ll.map dStep) ∧ H D = none ∧ H2 E = some (.lst ys) ∧ DpAll K H2 ys (fl.map dStep) ∧ H E = none ∧ D ≠ E ∧ LInv F l fl ll
end
end XB
set_option Elab.async false
set_option linter.all false
set_option maxRecDepth 100000
set_option maxHeartbeats 4000000
/-! tuples of which it is known that they have no dict of their own: their methods may be called -/
namespace XB
open PySem PySem.Spec PyProof.Rows L2
def SqF (H : Hp) (a : Addr) (xs : List V) : Prop := ∃ o : Obj, H a = some (.frz o (.tup xs)) ∧ o.cls = .type "tuple" ∧ o.dict = none
theorem SqF.sqT {K : PySem.W.Frag} {H : Hp} {a : Addr} {xs : List V} (h : SqF H a xs) : SqT K H a xs := by
  obtain ⟨o, e, _⟩ := h
  exact .inl (.inr ⟨o, e⟩)
theorem SqF.same {H H' : Hp} {a : Addr} {xs : List V} (h : SqF H a xs) (s : Same H H') : SqF H' a xs := by
  obtain ⟨o, e, r⟩ := h
  exact ⟨o, s _ _ e, r⟩
theorem SqF.tk {H H' : Hp} {a : Addr} {xs : List V} (h : SqF H a xs) (t : Tk H H') : SqF H' a xs := by
  obtain ⟨o, e, r⟩ := h
  exact ⟨o, t.z _ _ _ e, r⟩
/-- the names of a field stand so -/
def FNm (K : PySem.W.Frag) (H : Hp) (f : Addr) (F : Fld) : Prop := ∃ n p, SqT K H f [.ref n, .ref p] ∧ SqF H n (F.names.map V.str)
theorem FNm.tk {K : PySem.W.Frag} {H H' : Hp} {f : Addr} {F : Fld} (h : FNm K H f F) (t : Tk H H') : FNm K H' f F := by
  obtain ⟨n, p, h1, h2⟩ := h
  exact ⟨n, p, t.sqT h1, h2.tk t⟩
/-- (e, ..): a new tuple without a dict of its own -/
def tTupF (t : TA) : TE := fun σ H Q => t σ H fun xs H1 => xs.length ≤ sizeLine ∧ ∀ p o, o.cls = .type "tuple" → o.dict = none → H1 p = none → Q (.ref p) (upd H1 p (.frz o (.tup xs)))
def rSlF (K : PySem.W.Frag) : V → Option Int → Option Int → Hp → VK → Prop := fun x lo hi H Q => ∃ a xs, x = .ref a ∧ SqF H a xs ∧ ∀ H' p, Same H H' → SqF H' p (cutV xs lo hi) → Q (.ref p) H'
section
variable {X : Cx} {es : List Expr} {t : TA} {pos : Pos}
theorem pe_tupF {x1} (h : PA X es t) : PE X (.Tuple es x1 pos) (tTupF t) := by
  refine ⟨fun pins s σ H Q I hq => ?_⟩
  refine wpAny_Tuple_spliced (thn (h.run pos pins s σ H _ I hq) fun us s1 ⟨xs, H1, I1, r, z, q⟩ => ⟨by rw [← r.length]; exact z, ?_⟩)
  have hf : H1 s1.heap.objs.size = none := I1.hok.fresh (Nat.le_refl _)
  refine ⟨.ref s1.heap.objs.size, upd H1 s1.heap.objs.size (.frz { cls := .type "tuple", data := .seq us.toArray } (.tup xs)), I1.laid (t' := s1.toks) (fun b u e => Heap.get?_push_of_some _ e) (Nat.le_refl _) ?_, rfl, q _ _ rfl rfl hf⟩
  exact ⟨Heap.get?_push_size _ rfl, z, us, r, ⟨_, Heap.get?_push_size _ rfl, rfl, _, rfl⟩⟩
theorem sl_tupF {K : PySem.W.Frag} (hk : X.K = K) : SlR X (rSlF K) := by
  subst hk
  intro pins s σ H x v vl vu lo hi sl Q I rx hs pl pu h
  obtain ⟨a, xs, rfl, hF, q⟩ := h
  have hx : SqT X.K H a xs := hF.sqT
  cases rx
  obtain ⟨its, r, ht, hz⟩ := I.tuple hx
  have hlen : its.toArray.size = xs.length := by rw [List.size_toArray]; exact r.length.symm
  refine ⟨"tuple", _, PyProof.Rows.slot_tuple_getitem.lookup, ht.typeIs, ?_⟩
  by_cases hw : HT.sIx xs.length 0 lo = 0 ∧ HT.sIx xs.length xs.length hi = xs.length
  · refine getItem_tuple_whole ht hs pl pu (by rw [hlen]; exact hw) ⟨.ref a, H, I, rfl, q H a (Same.refl _) ?_⟩
    have e : cutV xs lo hi = xs := by
      unfold cutV
      rw [hw.1, hw.2]
      simp
    rw [e]
    exact hF
  · refine HT.getItem_tuple_cut ht hs pl pu (by rw [hlen]; exact hw) ?_ (by rw [hlen]; exact hz)
    rw [hlen]
    have hf : H s.heap.objs.size = none := I.hok.fresh (Nat.le_refl _)
    refine ⟨.ref s.heap.objs.size, _, I.laid (t' := s.toks) (o := .frz { cls := .type "tuple", data := .seq ((its.drop (HT.sIx xs.length 0 lo)).take (HT.sIx xs.length xs.length hi - HT.sIx xs.length 0 lo)).toArray } (.tup (cutV xs lo hi))) (fun b ob q => Heap.get?_push_of_some _ q) (Nat.le_refl _) ?_, rfl, q _ _ (same_upd hf) ⟨_, upd_same, rfl, rfl⟩⟩
    exact ⟨Heap.get?_push_size _ rfl, Nat.le_trans (cutV_length xs lo hi) hz, _, (r.drop (HT.sIx xs.length 0 lo)).take (HT.sIx xs.length xs.length hi - HT.sIx xs.length 0 lo), IsTup.new _ _⟩
/-- o.m(e, ..) of such a tuple -/
def tBMF (r : V → List V → Hp → VK → Prop) (to : TE) (t : TA) : TE := fun σ H Q => to σ H fun x H1 => (∃ a xs, x = .ref a ∧ SqF H1 a xs) ∧ t σ H1 fun xs H2 => r x xs H2 Q
variable {o e : Expr} {to : TE} {name : Str} {apos cpos : Pos} {id : String} {r : V → List V → Hp → VK → Prop}
theorem pe_bmF (slot : Slot "tuple" name id) (hty : typeOf (.builtin id) = pure (.type "method_descriptor")) (hm : MtR X id r) (ho : PE X o to) (ha : PA X (e :: es) t)
    (hbase : attributeBase o name X.env (eval o X.env) = eval o X.env := by rfl)
    (hfew : ((backTo cpos (starEach (e :: es) X.env)).all (fun x => !x.1) && (backToKw cpos (keywordEach [] X.env)).all (fun x => x.1.isSome)
      && decide ((e :: es).length + ([] : List Keyword).length + (if ([] : List Keyword).isEmpty then 0 else 1) < 30)) = true := by rfl)
    (hline : (apos.endLine == cpos.line) = true := by rfl) (hs : starEach (e :: es) X.env = (false, eval e X.env) :: starEach es X.env := by rfl) (hplain : (backTo cpos (starEach es X.env)).any (·.1) = false := by rfl) :
    PE X (.Call (.Attribute o name apos) (e :: es) [] cpos) (tBMF r to t) := by
  refine ⟨fun pins s σ H Q I h => ?_⟩
  refine wpAny_Call_method_late hbase hfew hline rfl (thn (ho.run pins s σ H _ I h) fun v s1 ⟨x, H1, I1, r1, ty, q1⟩ => ?_)
  obtain ⟨a, xs, rfl, ob, hH, hc, hd⟩ := ty
  cases r1
  obtain ⟨hg, _⟩ := I1.hok a _ hH
  refine ⟨"tuple", id, PySem.F.plainAttrs_tuple, slot, hty, ⟨ob, hg, hc⟩, fun b e => ?_, ?_⟩
  · cases e
    exact ⟨ob, hg, hd⟩
  · have hA := ha.run cpos pins s1 σ H1 _ I1 q1
    rw [hs] at hA ⊢
    refine Calls.callWith_builtin (by show (false || (backTo cpos (starEach es X.env)).any (·.1)) = false; rw [hplain] <;> rfl) (Calls.evalArgs_plain ?_)
    exact thn hA fun us s2 ⟨vs, H2, I2, r2, q2⟩ => hm pins s2 σ H2 (.ref a) vs _ us Q I2 rfl r2 q2
end
end XB
set_option Elab.async false
set_option linter.all false
set_option maxRecDepth 100000
set_option maxHeartbeats 4000000
namespace XB
open PySem PySem.Spec PyProof.Rows L2
def NL : List Str := ["a", "b", "c", "dd", "e", "f"]
def nmN (i : Nat) : Str := (NL[i]?).getD ""
def fP (n i : Nat) : List (Str × Str) := ((NL.take n).drop (i + 1)).map fun o => (nmN i, o)
def PP (n k : Nat) : List (Str × Str) := (List.range k).flatMap (fP n)
def ltP (p q : Str × Str) : Bool := if p.1 == q.1 then (if p.2 == q.2 then false else sLt p.2 q.2) else sLt p.1 q.1
def pwB {α : Type} (r : α → α → Bool) : List α → Bool
  | [] => true
  | x :: l => l.all (r x) && pwB r l
theorem pw_of {α : Type} {r : α → α → Bool} : ∀ {l : List α}, pwB r l = true → l.Pairwise fun a b => r a b = true
  | [], _ => .nil
  | x :: l, h => by
    unfold pwB at h
    rw [Bool.and_eq_true, List.all_eq_true] at h
    exact .cons h.1 (pw_of h.2)
def goodB (n : Str) : Bool := decide (1 ≤ n.length) && decide (n.length ≤ 6) && n.cps.toList.all fun c => decide (97 ≤ c) && decide (c ≤ 122)
theorem good_of {n : Str} (h : goodB n = true) : GoodName n := by
  unfold goodB at h
  simp only [Bool.and_eq_true, decide_eq_true_eq, List.all_eq_true] at h
  exact ⟨h.1.1, h.1.2, h.2⟩
def okB (n : Nat) : Bool := (PP n n).all (fun p => sLt p.1 p.2 && (NL.take n).contains p.1 && (NL.take n).contains p.2) && pwB ltP (PP n n) && pwB sLt (NL.take n) && (NL.take n).all goodB && decide ((PP n n).length ≤ 100) && decide ((NL.take n).length = n)
theorem okB_all : okB 1 = true ∧ okB 2 = true ∧ okB 3 = true ∧ okB 4 = true ∧ okB 5 = true ∧ okB 6 = true := by decide +kernel
theorem okB_of {n : Nat} (h0 : 1 ≤ n) (h6 : n ≤ 6) : okB n = true := by
  obtain ⟨a, b, c, d, e, f⟩ := okB_all
  rcases n with _ | _ | _ | _ | _ | _ | _ | n
  · omega
  · exact a
  · exact b
  · exact c
  · exact d
  · exact e
  · exact f
  · omega
theorem fld_ok {n : Nat} {ps : List (Str × Str)} (h0 : 1 ≤ n) (h6 : n ≤ 6) (hs : ps.Sublist (PP n n)) : (Fld.mk (NL.take n) ps).Ok := by
  have h := okB_of h0 h6
  unfold okB at h
  simp only [Bool.and_eq_true, decide_eq_true_eq, List.all_eq_true] at h
  obtain ⟨⟨⟨⟨⟨a, b⟩, c⟩, d⟩, e⟩, f⟩ := h
  refine ⟨by show 0 < (NL.take n).length; omega, by show (NL.take n).length ≤ 6; omega, fun p hp => (a p (hs.subset hp)).1.1, fun p hp => ⟨?_, ?_⟩, fun x hx => good_of (d x hx), pw_of c, (pw_of b).sublist hs, Nat.le_trans hs.length_le e⟩
  · have := (a p (hs.subset hp)).1.2
    simpa using this
  · have := (a p (hs.subset hp)).2
    simpa using this
theorem Dr.tk {H H' : Hp} {m c g : Addr} {s : Int} (D : Dr H m c g s) (k : Kp m g H H') : Tk H H' := by
  obtain ⟨⟨cs, gs, em, ec, eg, _⟩, _⟩ := D
  exact ⟨fun b xs e => k b _ (ne_of e em fun q => nomatch q) (ne_of e eg fun q => nomatch q) e, fun b o u e => k b _ (ne_of e em fun q => nomatch q) (ne_of e eg fun q => nomatch q) e⟩
theorem Dr.nm {H : Hp} {m c g : Addr} {s : Int} (D : Dr H m c g s) {p : Addr} (h : H p = none) : p ≠ m ∧ p ≠ c ∧ p ≠ g := by
  obtain ⟨⟨cs, gs, em, ec, eg, _⟩, _⟩ := D
  exact ⟨fun e => (by rw [e, em] at h; cases h), fun e => (by rw [e, ec] at h; cases h), fun e => (by rw [e, eg] at h; cases h)⟩
theorem Dr.same {H H' : Hp} {m c g : Addr} {s : Int} (D : Dr H m c g s) (t : Same H H') : Dr H' m c g s := by
  obtain ⟨⟨cs, gs, em, ec, eg, r⟩, a, b⟩ := D
  exact ⟨⟨cs, gs, t _ _ em, t _ _ ec, t _ _ eg, r⟩, a, b⟩
theorem Dr.put {H : Hp} {m c g D : Addr} {s : Int} {o : HO} (R : Dr H m c g s) (h : D ≠ m ∧ D ≠ c ∧ D ≠ g) : Dr (upd H D o) m c g s := by
  obtain ⟨⟨cs, gs, em, ec, eg, r⟩, a, b⟩ := R
  exact ⟨⟨cs, gs, by rw [upd_ne h.1.symm]; exact em, by rw [upd_ne h.2.1.symm]; exact ec, by rw [upd_ne h.2.2.symm]; exact eg, r⟩, a, b⟩
theorem Kp.put {m g D : Addr} {H H1 : Hp} {o : HO} (k : Kp m g H H1) (h : H D = none) : Kp m g H (upd H1 D o) := fun b u h1 h2 e => by
  rw [upd_ne (ne_of_none e h)]
  exact k b u h1 h2 e
theorem sl_pre {K : PySem.W.Frag} {H : Hp} {a : Addr} {xs : List V} {k : Nat} {Q : VK} (h : SqT K H a xs) (q : ∀ H' p, Same H H' → SqT K H' p (xs.take k) → Q (.ref p) H') : rSlA K (.ref a) none (some (k : Int)) H Q := by
  refine ⟨a, xs, rfl, h, fun hw => q H a (Same.refl _) ?_, fun _ p hp => q _ p (same_upd hp) ?_⟩
  · rw [← cut_init, cut_whole hw]
    exact h
  · rw [← cut_init]
    exact SqT.of upd_same
theorem sl_suf {K : PySem.W.Frag} {H : Hp} {a : Addr} {xs : List V} {k : Nat} {Q : VK} (h : SqT K H a xs) (q : ∀ H' p, Same H H' → SqT K H' p (xs.drop k) → Q (.ref p) H') : rSlA K (.ref a) (some (k : Int)) none H Q := by
  refine ⟨a, xs, rfl, h, fun hw => q H a (Same.refl _) ?_, fun _ p hp => q _ p (same_upd hp) ?_⟩
  · rw [← cut_from, cut_whole hw]
    exact h
  · rw [← cut_from]
    exact SqT.of upd_same
theorem PP_succ (n k : Nat) : PP n (k + 1) = PP n k ++ fP n k := by
  unfold PP
  rw [List.range_succ, List.flatMap_append]
  simp
theorem nl_at {n k : Nat} (h6 : n ≤ 6) (h : k < n) : ((NL.take n).map V.str)[k]? = some (.str (nmN k)) := by
  have hl : k < NL.length := by show k < 6; omega
  rw [List.getElem?_map, List.getElem?_take, if_pos h, List.getElem?_eq_getElem hl]
  unfold nmN
  rw [List.getElem?_eq_getElem hl]
  rfl
theorem nl_len {n : Nat} (h6 : n ≤ 6) : (NL.take n).length = n := by
  rw [List.length_take]
  show min n 6 = n
  omega
/-- pairs in a list of their own -/
def RowP (K : PySem.W.Frag) (H : Hp) (D : Addr) (ps : List (Str × Str)) : Prop := ∃ xs, H D = some (.lst xs) ∧ DpAll K H xs (ps.map dPair)
theorem flat_pairs (ps : List (Str × Str)) : flatAll (ps.map dPair) = true := flatAll_of fun d hd => by
  obtain ⟨y, _, rfl⟩ := List.mem_map.mp hd
  rfl
def FieldInv (K : PySem.W.Frag) (H : Hp) (m c g tn D : Addr) (most ch s : Int) (n : Nat) (all : List (Str × Str)) (b : Nat) (y5 : Option V) : L2.St → Hp → Prop := fun σ H2 => ∃ (y6 : Option V) (s2 : Int) (ps : List (Str × Str)), σ = [some (.ref m), some (.int most), some (.ref tn), some (.ref D), some (.int ch), y5, y6] ∧
  Kp m g H H2 ∧ Dr H2 m c g s2 ∧ s2 ≤ s + 2 + (b : Int) ∧ SqF H2 tn ((NL.take n).map V.str) ∧ RowP K H2 D ps ∧ ps.Sublist all ∧ ps.length ≤ b
section
variable {P : Program} {w : World} {K : PySem.W.Frag} {mg : Str → Option Value} {base : Heap}
def spLawField (K : PySem.W.Frag) : Sp := fun vs H Q _ => ∃ (m c g : Addr) (s most : Int), vs = [.ref m, .int most] ∧ Dr H m c g s ∧ 1 ≤ most ∧ most ≤ 6 ∧ s < 1000000000 ∧
  ∀ H' f F s', Dr H' m c g s' → s' ≤ s + 40 → Kp m g H H' → Dp K H' (.ref f) (dField F) → F.Ok → FNm K H' f F → Q (.ref f) H'
end
end XB
set_option Elab.async false
set_option linter.all false
set_option maxRecDepth 100000
set_option maxHeartbeats 4000000
namespace XB
open PySem PySem.Spec PyProof.Rows L2
def SL : List Int := [1, -1, 1, -1, 2, -2, 3, -3, 1, -1, 6, 10 ^ 30, -(10 ^ 30), 10 ^ 30 - 1]
theorem sl_good {i : Nat} {z : Int} (h : SL[i]? = some z) : GoodTimes z := by
  have : ∀ z ∈ SL, z ≠ 0 ∧ -(10 ^ 30) ≤ z ∧ z ≤ 10 ^ 30 := by decide +kernel
  exact this z (List.mem_of_getElem? h)
section
variable {P : Program} {w : World} {K : PySem.W.Frag} {mg : Str → Option Value} {base : Heap}
def spLawScript (K : PySem.W.Frag) : Sp := fun vs H Q _ => ∃ (m c g f : Addr) (s most : Int) (F : Fld), vs = [.ref m, .ref f, .int most] ∧ Dr H m c g s ∧ Dp K H (.ref f) (dField F) ∧ F.Ok ∧ 0 ≤ most ∧ most ≤ 60 ∧ s < 1000000000 ∧
  ∀ H' r l s', Dr H' m c g s' → s' ≤ s + 2 + 2 * most → Kp m g H H' → Dp K H' (.ref r) (dSteps l) → GoodScript F l → (l.length : Int) ≤ most → Q (.ref r) H'
def ScriptInv (K : PySem.W.Frag) (F : Fld) (H : Hp) (m c g f D S : Addr) (most many s : Int) (b : Nat) : L2.St → Hp → Prop := fun σ H2 => ∃ (y6 : Option V) (s2 : Int) (l : List (Str × Int)), σ = [some (.ref m), some (.ref f), some (.int most), some (.ref D), some (.ref S), some (.int many), y6] ∧
  Kp m g H H2 ∧ Dr H2 m c g s2 ∧ s2 ≤ s + 2 + 2 * (b : Int) ∧ Dp K H2 (.ref f) (dField F) ∧ H2 S = some (.lst (SL.map V.int)) ∧ Row1 K H2 D l ∧ (∀ x ∈ l, x.1 ∈ F.names ∧ GoodTimes x.2) ∧ l.length = b
end
end XB
set_option Elab.async false
set_option linter.all false
set_option maxRecDepth 100000
set_option maxHeartbeats 4000000
namespace XB
open PySem PySem.Spec PyProof.Rows L2
/-- what can be shown: how great it is -/
structure Sz (d : PyData) (n : Nat) : Prop where
  sh : d.showable = true
  nd : d.hasDict = false
  dp : d.depth ≤ 20
  lv : d.leavesShort 60 = true
  bk : d.bulk ≤ n
structure SzA (ds : List PyData) (n : Nat) : Prop where
  sh : PyData.showableAll ds = true
  nd : PyData.hasDictAll ds = false
  dp : PyData.depthAll ds ≤ 19
  lv : PyData.leavesShortAll 60 ds = true
  bk : PyData.bulkAll ds ≤ n
theorem Sz.fits {d : PyData} {n : Nat} (h : Sz d n) (hn : n ≤ 250000) : d.shown.length ≤ sizeLine := by
  have q := PyData.shown_le_bulk 60 (by decide) d h.lv
  have := h.bk
  rw [sizeLine_eq]
  omega
theorem SzA.nil : SzA [] 0 := ⟨rfl, rfl, by decide, rfl, Nat.le_refl _⟩
theorem SzA.cons {d : PyData} {ds : List PyData} {n k : Nat} (h : Sz d n) (hd : d.depth ≤ 19) (t : SzA ds k) : SzA (d :: ds) (n + 1 + k) := by
  refine ⟨?_, ?_, ?_, ?_, ?_⟩
  · rw [PyData.showableAll, h.sh, t.sh]
    rfl
  · rw [PyData.hasDictAll, h.nd, t.nd]
    rfl
  · rw [PyData.depthAll]
    have := t.dp
    omega
  · rw [PyData.leavesShortAll, h.lv, t.lv]
    rfl
  · rw [PyData.bulkAll]
    have := h.bk
    have := t.bk
    omega
theorem SzA.tup {ds : List PyData} {n : Nat} (h : SzA ds n) : Sz (.tuple ds) n := ⟨by rw [PyData.showable]; exact h.sh, by rw [PyData.hasDict]; exact h.nd, by rw [PyData.depth]; have := h.dp; omega, by rw [PyData.leavesShort]; exact h.lv, by rw [PyData.bulk]; exact h.bk⟩
theorem SzA.lst {ds : List PyData} {n : Nat} (h : SzA ds n) : Sz (.list ds) n := ⟨by rw [PyData.showable]; exact h.sh, by rw [PyData.hasDict]; exact h.nd, by rw [PyData.depth]; have := h.dp; omega, by rw [PyData.leavesShort]; exact h.lv, by rw [PyData.bulk]; exact h.bk⟩
theorem Sz.mono {d : PyData} {n k : Nat} (h : Sz d n) (e : n ≤ k) : Sz d k := ⟨h.sh, h.nd, h.dp, h.lv, Nat.le_trans h.bk e⟩
theorem sz_bool (b : Bool) : Sz (.bool b) 0 := ⟨rfl, rfl, by simp [PyData.depth], rfl, Nat.le_refl _⟩
theorem sz_int {z : Int} (h : z.natAbs < 10 ^ 50) : Sz (.int z) 0 := by
  refine ⟨decide_eq_true ?_, rfl, by simp [PyData.depth], decide_eq_true ?_, Nat.le_refl _⟩
  · by_cases h0 : z.natAbs = 0
    · rw [h0]
      decide
    · have : z.natAbs.log2 < 200 := (Nat.log2_lt h0).mpr (Nat.lt_of_lt_of_le h (by decide))
      omega
  · have e := int_text_length_le10 (k := 50) (by decide) h
    show (Str.ofString (toString z)).length ≤ 60
    rw [PySem.ofString_length]
    omega
theorem sz_str {n : Str} (h : GoodName n) : Sz (.str n) 6 := by
  refine ⟨rfl, rfl, by simp [PyData.depth], ?_, h.2.1⟩
  show (n.cps.toList.all fun c => decide (c < 16 ^ 8)) = true
  rw [List.all_eq_true]
  intro c hc
  have := h.2.2 c hc
  exact decide_eq_true (by omega)
theorem sz_step {s : Str × Int} (h : GoodName s.1) (g : s.2.natAbs < 10 ^ 50) : Sz (dStep s) 8 := (SzA.cons (sz_str h) (by simp [PyData.depth]) (SzA.cons (sz_int g) (by simp [PyData.depth]) SzA.nil)).tup.mono (by omega)
theorem sz_stepsA : ∀ {l : List (Str × Int)}, (∀ s ∈ l, GoodName s.1 ∧ s.2.natAbs < 10 ^ 50) → SzA (l.map dStep) (9 * l.length)
  | [], _ => SzA.nil
  | s :: l, h => by
    have t := sz_stepsA fun x hx => h x (List.mem_cons_of_mem _ hx)
    have hs := h s List.mem_cons_self
    have e : (dStep s).depth ≤ 19 := by
      show PyData.depth (.tuple [.str s.1, .int s.2]) ≤ 19
      simp [PyData.depth, PyData.depthAll]
    have q := SzA.cons (sz_step hs.1 hs.2) e t
    exact ⟨q.sh, q.nd, q.dp, q.lv, Nat.le_trans q.bk (by rw [List.length_cons]; omega)⟩
theorem sz_strsA : ∀ {l : List Str}, (∀ s ∈ l, GoodName s) → SzA (l.map .str) (7 * l.length)
  | [], _ => SzA.nil
  | s :: l, h => by
    have t := sz_strsA fun x hx => h x (List.mem_cons_of_mem _ hx)
    have q := SzA.cons (sz_str (h s List.mem_cons_self)) (by simp [PyData.depth]) t
    exact ⟨q.sh, q.nd, q.dp, q.lv, Nat.le_trans q.bk (by rw [List.length_cons]; omega)⟩
section
variable {P : Program} {w : World} {K : PySem.W.Frag} {mg : Str → Option Value} {base : Heap}
def spLike (K : PySem.W.Frag) : Sp := fun vs H Q _ => ∃ (u v : V) (d : PyData), vs = [u, v] ∧ Dp K H u d ∧ Dp K H v d ∧ Sz d 250000 ∧ Q (.bl true) H
theorem g__law_like (T : Tx K mg) : Cg P w K mg base CX0 1 "_law_like" (spLike K) := by
  refine cg0 T.d__law_like (ps := ["answer", "due"]) (fun _ _ _ _ _ _ us hl => match us, hl with | [_, _], _ => rfl) sc__law_like (fun vs H Q E h => ?_) (fun f cdv A outer st H vs Q E hgu hr h => ?_)
  · obtain ⟨u, v, d, rfl, _⟩ := h
    rfl
  · obtain ⟨u, v, d, rfl, h1, h2, z, q⟩ := h
    have hu : (A.deeper (envOfC "_law_like" (defScope s__law_like) st.heap.objs.size f cdv)).units + 70 < cLine := by
      have := hr.un
      omega
    refine ⟨_, pss_one (ps_ret (pe_cmpR op_eq (pe_callB (call_reprD hgu hu) (by rfl) T.b_repr (by decide +kernel) (pa_cons (pv 0) pa_nil)) (pe_callB (call_reprD hgu hu) (by rfl) T.b_repr (by decide +kernel) (pa_cons (pv 1) pa_nil)) (nomark _))), ?_⟩
    have dd := z.dp
    refine ⟨_, rfl, u, d, rfl, h1, z.sh, z.nd, by omega, z.fits (by decide), _, rfl, v, d, rfl, h2, z.sh, z.nd, by omega, z.fits (by decide), rfl, ?_⟩
    show Q (.bl (decide (V.str d.shown = V.str d.shown))) H
    rw [decide_eq_true rfl]
    exact q
end
end XB
set_option Elab.async false
set_option linter.all false
set_option maxRecDepth 100000
set_option maxHeartbeats 4000000
namespace XB
open PySem PySem.Spec PyProof.Rows L2
/-- data that can be laid and shown, so deep, so great -/
structure Okd (j n : Nat) (d : PyData) : Prop where
  lay : PyData.canLay0 d = true
  sh : d.showable = true
  nd : d.hasDict = false
  dp : d.depth ≤ j
  lv : d.leavesShort 60 = true
  bk : d.bulk ≤ n
theorem Okd.mono {j n j' n' : Nat} {d : PyData} (h : Okd j n d) (hj : j ≤ j') (hn : n ≤ n') : Okd j' n' d := ⟨h.lay, h.sh, h.nd, Nat.le_trans h.dp hj, h.lv, Nat.le_trans h.bk hn⟩
theorem Okd.sz {j n : Nat} {d : PyData} (h : Okd j n d) (hj : j ≤ 20) : Sz d n := ⟨h.sh, h.nd, Nat.le_trans h.dp hj, h.lv, h.bk⟩
theorem Okd.shaped {j n : Nat} {d : PyData} (h : Okd j n d) (hj : j ≤ 64) : SeqAt.shaped d = true := by
  have := h.dp
  show (PyData.canLay0 d && decide (PyData.depth d ≤ 64)) = true
  rw [h.lay, Bool.true_and]
  exact decide_eq_true (by omega)
theorem okd_dec {j n : Nat} {d : PyData} (h : (PyData.canLay0 d && (d.showable && !d.hasDict && decide (d.depth ≤ j) && d.leavesShort 60 && decide (d.bulk ≤ n))) = true) : Okd j n d := by
  simp only [Bool.and_eq_true, decide_eq_true_eq, Bool.not_eq_true'] at h
  exact ⟨h.1, h.2.1.1.1.1, h.2.1.1.1.2, h.2.1.1.2, h.2.1.2, h.2.2⟩
theorem okd_int {z : Int} (h : z.natAbs < 10 ^ 50) : Okd 0 0 (.int z) := by
  have s := sz_int h
  refine ⟨by rw [PyData.canLay0], s.sh, s.nd, by simp [PyData.depth], s.lv, s.bk⟩
theorem okd_all {j n : Nat} : ∀ {ds : List PyData}, (∀ d ∈ ds, Okd j n d) → PyData.canLayAll0 ds = true ∧ PyData.showableAll ds = true ∧ PyData.hasDictAll ds = false ∧ PyData.depthAll ds ≤ j ∧ PyData.leavesShortAll 60 ds = true ∧ PyData.bulkAll ds ≤ (n + 1) * ds.length
  | [], _ => ⟨rfl, rfl, rfl, Nat.zero_le _, rfl, Nat.le_refl _⟩
  | d :: ds, h => by
    obtain ⟨a, b, c, e, f, k⟩ := okd_all fun x hx => h x (List.mem_cons_of_mem _ hx)
    have hd := h d List.mem_cons_self
    refine ⟨?_, ?_, ?_, ?_, ?_, ?_⟩
    · rw [PyData.canLayAll0, hd.lay, a]
      rfl
    · rw [PyData.showableAll, hd.sh, b]
      rfl
    · rw [PyData.hasDictAll, hd.nd, c]
      rfl
    · rw [PyData.depthAll]
      have := hd.dp
      omega
    · rw [PyData.leavesShortAll, hd.lv, f]
      rfl
    · rw [PyData.bulkAll, List.length_cons, Nat.mul_add]
      have := hd.bk
      omega
theorem okd_tup {j n k : Nat} {ds : List PyData} (h : ∀ d ∈ ds, Okd j n d) (hl : ds.length ≤ k) : Okd (j + 1) ((n + 1) * k) (.tuple ds) := by
  obtain ⟨a, b, c, e, f, g⟩ := okd_all h
  have := Nat.mul_le_mul_left (n + 1) hl
  exact ⟨by rw [PyData.canLay0]; exact a, by rw [PyData.showable]; exact b, by rw [PyData.hasDict]; exact c, by rw [PyData.depth]; omega, by rw [PyData.leavesShort]; exact f, by rw [PyData.bulk]; omega⟩
theorem okd_lst {j n k : Nat} {ds : List PyData} (h : ∀ d ∈ ds, Okd j n d) (hl : ds.length ≤ k) : Okd (j + 1) ((n + 1) * k) (.list ds) := by
  obtain ⟨a, b, c, e, f, g⟩ := okd_all h
  have := Nat.mul_le_mul_left (n + 1) hl
  exact ⟨by rw [PyData.canLay0]; exact a, by rw [PyData.showable]; exact b, by rw [PyData.hasDict]; exact c, by rw [PyData.depth]; omega, by rw [PyData.leavesShort]; exact f, by rw [PyData.bulk]; omega⟩
section
variable {K : PySem.W.Frag}
def DV (K : PySem.W.Frag) (H : Hp) (j n : Nat) (v : V) : Prop := ∃ d, Dp K H v d ∧ Okd j n d
def DA (K : PySem.W.Frag) (H : Hp) (j n : Nat) (xs : List V) : Prop := ∃ ds, DpAll K H xs ds ∧ ∀ d ∈ ds, Okd j n d
theorem DV.mono {H : Hp} {j n j' n' : Nat} {v : V} (h : DV K H j n v) (hj : j ≤ j') (hn : n ≤ n') : DV K H j' n' v := by
  obtain ⟨d, a, b⟩ := h
  exact ⟨d, a, b.mono hj hn⟩
theorem DA.one {H : Hp} {j n : Nat} {v : V} (h : DV K H j n v) : DA K H j n [v] := by
  obtain ⟨d, a, b⟩ := h
  exact ⟨[d], .cons a .nil, fun x hx => by rw [List.mem_singleton.mp hx]; exact b⟩
theorem DA.app {H : Hp} {j n : Nat} {xs ys : List V} (h : DA K H j n xs) (g : DA K H j n ys) : DA K H j n (xs ++ ys) := by
  obtain ⟨ds, a, b⟩ := h
  obtain ⟨es, c, d⟩ := g
  exact ⟨ds ++ es, a.app c, fun x hx => (List.mem_append.mp hx).elim (b x) (d x)⟩
theorem DA.take {H : Hp} {j n : Nat} {xs : List V} (h : DA K H j n xs) (k : Nat) : DA K H j n (xs.take k) := by
  obtain ⟨ds, a, b⟩ := h
  exact ⟨ds.take k, a.take k, fun x hx => b x (List.mem_of_mem_take hx)⟩
theorem DA.drop {H : Hp} {j n : Nat} {xs : List V} (h : DA K H j n xs) (k : Nat) : DA K H j n (xs.drop k) := by
  obtain ⟨ds, a, b⟩ := h
  exact ⟨ds.drop k, a.drop k, fun x hx => b x (List.mem_of_mem_drop hx)⟩
theorem DA.tup {H : Hp} {j n k : Nat} {xs : List V} {p : Addr} (h : DA K H j n xs) (hS : SqT K H p xs) (hl : xs.length ≤ k) : DV K H (j + 1) ((n + 1) * k) (.ref p) := by
  obtain ⟨ds, a, b⟩ := h
  exact ⟨.tuple ds, .tup hS a, okd_tup b (by rw [← a.len]; exact hl)⟩
theorem DA.lst {H : Hp} {j n k : Nat} {xs : List V} {p : Addr} (h : DA K H j n xs) (hS : H p = some (.lst xs)) (hl : xs.length ≤ k) : DV K H (j + 1) ((n + 1) * k) (.ref p) := by
  obtain ⟨ds, a, b⟩ := h
  exact ⟨.list ds, .lst (SqL.of hS) a, okd_lst b (by rw [← a.len]; exact hl)⟩
theorem DA.at {H : Hp} {j n : Nat} {xs : List V} {i : Nat} {v : V} (h : DA K H j n xs) (e : xs[i]? = some v) : DV K H j n v := by
  obtain ⟨ds, a, b⟩ := h
  obtain ⟨d, k, p⟩ := a.get e
  exact ⟨d, p, b d (List.mem_of_getElem? k)⟩
theorem dpAll_rev {H : Hp} : ∀ {xs : List V} {ds : List PyData}, DpAll K H xs ds → DpAll K H xs.reverse ds.reverse
  | _, _, .nil => .nil
  | _, _, .cons h t => by
    rw [List.reverse_cons, List.reverse_cons]
    exact (dpAll_rev t).app (.cons h .nil)
theorem DA.rev {H : Hp} {j n : Nat} {xs : List V} (h : DA K H j n xs) : DA K H j n xs.reverse := by
  obtain ⟨ds, a, b⟩ := h
  exact ⟨ds.reverse, dpAll_rev a, fun x hx => b x (List.mem_reverse.mp hx)⟩
end
end XB
set_option Elab.async false
set_option linter.all false
set_option maxRecDepth 100000
set_option maxHeartbeats 4000000
namespace XB
open PySem PySem.Spec PyProof.Rows L2
/-! least_pile: of what is right, of what is refused -/
theorem okd_str {n : Str} (h : GoodName n) : Okd 0 6 (.str n) := by
  have s := sz_str h
  exact ⟨by simp [PyData.canLay0, strOk_of h], s.sh, s.nd, by simp [PyData.depth], s.lv, s.bk⟩
theorem okd_strs {l : List Str} (h : ∀ x ∈ l, GoodName x) : ∀ d ∈ l.map PyData.str, Okd 0 6 d := fun d hd => by
  obtain ⟨x, hx, rfl⟩ := List.mem_map.mp hd
  exact okd_str (h x hx)
theorem okd_two {j n k : Nat} {a b : PyData} (ha : Okd j n a) (hb : Okd j k b) : Okd (j + 1) (n + k + 2) (.tuple [a, b]) := by
  refine ⟨?_, ?_, ?_, ?_, ?_, ?_⟩
  · show (PyData.canLay0 a && (PyData.canLay0 b && true)) = true
    rw [ha.lay, hb.lay]
    rfl
  · show (PyData.showable a && (PyData.showable b && true)) = true
    rw [ha.sh, hb.sh]
    rfl
  · show (PyData.hasDict a || (PyData.hasDict b || false)) = false
    rw [ha.nd, hb.nd]
    rfl
  · rw [PyData.depth, PyData.depthAll, PyData.depthAll, PyData.depthAll]
    have := ha.dp
    have := hb.dp
    omega
  · show (PyData.leavesShort 60 a && (PyData.leavesShort 60 b && true)) = true
    rw [ha.lv, hb.lv]
    rfl
  · rw [PyData.bulk, PyData.bulkAll, PyData.bulkAll, PyData.bulkAll]
    have := ha.bk
    have := hb.bk
    omega
theorem okd_step {s : Str × Int} (h : GoodName s.1) (hz : s.2.natAbs < 10 ^ 31) : Okd 1 8 (dStep s) :=
  okd_two (okd_str h) (okd_int (Nat.lt_trans hz (by decide +kernel)))
theorem okd_steps {l : List (Str × Int)} {k : Nat} (hl : l.length ≤ k) (h : ∀ s ∈ l, GoodName s.1 ∧ s.2.natAbs < 10 ^ 31) : Okd 2 (9 * k) (dSteps l) :=
  okd_tup (j := 1) (n := 8) (k := k) (ds := l.map dStep) (fun d hd => by
    obtain ⟨s, hs, rfl⟩ := List.mem_map.mp hd
    exact okd_step (h s hs).1 (h s hs).2) (by rw [List.length_map]; exact hl)
theorem good_abs {z : Int} (h : GoodTimes z) : z ≠ 0 ∧ z.natAbs < 10 ^ 31 := by
  obtain ⟨h0, h1, h2⟩ := h
  refine ⟨h0, ?_⟩
  have : z.natAbs ≤ 10 ^ 30 := by omega
  exact Nat.lt_of_le_of_lt this (by decide +kernel)
theorem script_good {ns : List Str} {l : List (Str × Int)} (hl : l.length ≤ 60) (h : ∀ s ∈ l, s.1 ∈ ns ∧ GoodTimes s.2) : scriptD ns (dSteps l) = none := by
  have e : scriptD ns (dSteps l) = if (l.map dStep).length ≤ 60 then (fstBad (stepD ns) (l.map dStep) 0).map some else some none := rfl
  rw [e, List.length_map, if_pos hl, fst_none]
  · rfl
  · intro y hy
    obtain ⟨s, hs, rfl⟩ := List.mem_map.mp hy
    obtain ⟨h1, h0, h2, h3⟩ := h s hs
    show (ns.contains s.1 && (decide (s.2 ≠ 0) && decide ((if s.2 < 0 then -s.2 else s.2) ≤ 10 ^ 30))) = true
    rw [List.contains_iff_mem.mpr h1, decide_eq_true h0, Bool.true_and, Bool.true_and]
    refine decide_eq_true ?_
    split <;> omega
theorem names_okd {F : Fld} (ok : F.Ok) : Okd 1 42 (dNames F.names) := (okd_tup (k := 6) (okd_strs ok.sgn) (by rw [List.length_map]; exact ok.n6)).mono (Nat.le_refl 1) (by decide)
theorem fld_okd {F : Fld} (ok : F.Ok) : Okd 3 1546 (dField F) := by
  have p := okd_tup (j := 1) (n := 14) (k := 100) (ds := F.pairs.map dPair) (fun d hd => by
    obtain ⟨x, hx, rfl⟩ := List.mem_map.mp hd
    exact okd_two (okd_str (ok.sgn _ (ok.inN x hx).1)) (okd_str (ok.sgn _ (ok.inN x hx).2))) (by rw [List.length_map]; exact ok.len)
  exact (okd_two ((names_okd ok).mono (show 1 ≤ 2 by decide) (Nat.le_refl _)) p).mono (Nat.le_refl _) (by decide)
theorem fld_fok {F : Fld} (ok : F.Ok) : FOk (dField F) := by
  refine ⟨(fld_okd ok).shaped (by decide), fun x y e => ?_⟩
  unfold dField at e
  injection e with e
  injection e with e1 e
  injection e with e2 _
  subst e1
  subst e2
  refine ⟨fun ds ed z hz => ?_, fun ds ed => ?_, fun ds ed => ?_⟩
  · have ed : PyData.tuple (F.names.map PyData.str) = .tuple ds := ed
    cases ed
    obtain ⟨s, hs, rfl⟩ := List.mem_map.mp hz
    intro s' es
    cases es
    exact Nat.le_trans (ok.sgn s hs).2.1 (by decide)
  · have ed : PyData.tuple (F.names.map PyData.str) = .tuple ds := ed
    cases ed
    rw [List.length_map]
    exact Nat.le_trans ok.n6 (by decide)
  · cases ed
    rw [List.length_map]
    exact Nat.le_trans ok.len (by decide)
theorem fld_names {F : Fld} : fldNames (dField F) = F.names := by
  show (F.names.map PyData.str).map strOf = F.names
  rw [List.map_map]
  exact List.map_id' _
theorem nameD_good {s : Str} (h : GoodName s) : nameD (.str s) = true := by
  show (decide (1 ≤ s.length) && decide (s.length ≤ 6) && s.cps.toList.all okLetter) = true
  rw [decide_eq_true h.1, decide_eq_true h.2.1, Bool.true_and, Bool.true_and, List.all_eq_true]
  intro c hc
  have := h.2.2 c hc
  unfold okLetter
  rw [decide_eq_true this.1, decide_eq_true this.2]
  rfl
theorem zip_all {α : Type} {r : α → α → Bool} : ∀ {l : List α}, l.Pairwise (fun a b => r a b = true) → ((l.zip (l.drop 1)).map fun p => r p.1 p.2).all id = true
  | [], _ => rfl
  | [_], _ => rfl
  | a :: b :: l, h => by
    have ih := zip_all (l := b :: l) (List.pairwise_cons.mp h).2
    have hab := (List.pairwise_cons.mp h).1 b List.mem_cons_self
    show (r a b && (((b :: l).zip l).map fun p => r p.1 p.2).all id) = true
    rw [hab, Bool.true_and]
    exact ih
theorem field_right {F : Fld} (ok : F.Ok) : fieldRef (dField F) = none := by
  have e1 : (F.names.map PyData.str).map strOf = F.names := by
    rw [List.map_map]
    exact List.map_id' _
  have e2 : (F.pairs.map dPair).map prOf = F.pairs := by
    rw [List.map_map]
    exact List.map_id' _
  have hn : namesD (dNames F.names) = true := by
    show (decide (1 ≤ (F.names.map PyData.str).length) && decide ((F.names.map PyData.str).length ≤ 6) && ((F.names.map PyData.str).all nameD && ascS ((F.names.map PyData.str).map strOf))) = true
    rw [e1, List.length_map, decide_eq_true ok.n6, decide_eq_true (show 1 ≤ F.names.length from ok.n0)]
    have h1 : (F.names.map PyData.str).all nameD = true := by
      rw [List.all_eq_true]
      intro d hd
      obtain ⟨x, hx, rfl⟩ := List.mem_map.mp hd
      exact nameD_good (ok.sgn x hx)
    have h2 : ascS F.names = true := zip_all ok.asN
    rw [h1, h2]
    rfl
  have hp : pairsD (strsOf (dNames F.names)) (.tuple (F.pairs.map dPair)) = true := by
    show ((F.pairs.map dPair).all (pairOfD ((F.names.map PyData.str).map strOf)) && ascP ((F.pairs.map dPair).map prOf)) = true
    rw [e1, e2]
    have h1 : (F.pairs.map dPair).all (pairOfD F.names) = true := by
      rw [List.all_eq_true]
      intro d hd
      obtain ⟨x, hx, rfl⟩ := List.mem_map.mp hd
      show (F.names.contains x.1 && (F.names.contains x.2 && sLt x.1 x.2)) = true
      rw [List.contains_iff_mem.mpr (ok.inN x hx).1, List.contains_iff_mem.mpr (ok.inN x hx).2, ok.asc x hx]
      rfl
    have h2 : ascP F.pairs = true := zip_all (r := ltQ) ok.asP
    rw [h1, h2]
    rfl
  show (if namesD (dNames F.names) then (if pairsD (strsOf (dNames F.names)) (.tuple (F.pairs.map dPair)) then none else some ("pairs" : Str)) else some ("names" : Str)) = none
  rw [if_pos hn, if_pos hp]
theorem script_okS {K : PySem.W.Frag} {H : Hp} {v : V} {F : Fld} {l : List (Str × Int)} (ok : F.Ok) (hd : Dp K H v (dSteps l)) (g : GoodScript F l) : OkS K H v (fldNames (dField F)) none := by
  refine .inl ⟨dSteps l, hd, (okd_steps g.1 fun s hs => ⟨ok.sgn _ (g.2 s hs).1, (good_abs (g.2 s hs).2).2⟩).shaped (by decide), fun ds e => ?_, ?_⟩
  · have e : PyData.tuple (l.map dStep) = .tuple ds := e
    cases e
    rw [List.length_map]
    have := g.1
    omega
  · rw [fld_names]
    exact script_good g.1 g.2
section
variable {P : Program} {w : World} {K : PySem.W.Frag} {mg : Str → Option Value} {base : Heap}
def spLeastX (K : PySem.W.Frag) (mg : Str → Option Value) (F : Fld) : Sp := fun vs H Q E => ∃ (f v : V) (df : PyData), vs = [f, v] ∧ Dp K H f df ∧ FOk df ∧
  (BadFS K mg H E df v ∨ ∃ (a p : Addr) (l : List (Str × Int)), f = .ref a ∧ v = .ref p ∧ df = dField F ∧ F.Ok ∧ Dp K H v (dSteps l) ∧ GoodScript F l ∧ ∀ H' r, Same H H' → Dp K H' (.ref r) (dSteps (XM.act (OF F) l []).reverse) → Q (.ref r) H')
theorem c_least_pileX (T : Tx K mg) (F : Fld) : Cl P w K mg base (L2.CX P w) 6 "least_pile" (spLeastX K mg F) := by
  refine clX T.d_least_pile (ps := ["field", "deeds"]) (fun _ _ _ _ _ _ us hl => match us, hl with | [_, _], _ => rfl) sc_least_pile (fun vs H Q E h => ?_) (fun f cdv A outer st H vs Q E hr h => ?_)
  · obtain ⟨f, v, df, rfl, _⟩ := h
    rfl
  · obtain ⟨fv, v, df, rfl, hd, fk, q⟩ := h
    have tk : Takes (cxOf (L2.CX P w) P w K mg base ["field", "deeds"] "least_pile" (defScope s_least_pile) f cdv A outer st H E) fun cls d _ H => E cls d H := takes_of rfl rfl rfl rfl
    refine ⟨_, pss_cons (ps_expr (pe_kX (c_need_scriptD T) hr (by decide) tk (by rfl) (pa_cons (pv 0) (pa_cons (pv 1) pa_nil))))
      (pss_one (ps_ret (pe_k (c_piled T F) hr (by decide) (by rfl) (pa_cons (pe_k (c_touch_table T) hr (by decide) (by rfl) (pa_cons (pv 0) pa_nil)) (pa_cons (pv 1) pa_nil))))), ?_⟩
    refine ⟨_, rfl, _, rfl, fv, v, df, rfl, hd, fk, ?_⟩
    rcases q with (⟨x, e, q⟩ | ⟨e, o, hO, q⟩) | ⟨a, d, l, rfl, rfl, rfl, ok, hL, g, q⟩
    · exact .inl ⟨x, e, q⟩
    · exact .inr ⟨e, some o, hO, q⟩
    · refine .inr ⟨field_right ok, none, script_okS ok hL g, fun H1 s1 => ?_⟩
      refine ⟨_, rfl, a, F, rfl, Dp.tk (Tk.of s1) _ (flat_field F) hd, ok, fun H2 t s2 ht hT => ?_⟩
      obtain ⟨_, vs, e, hS, hV⟩ := (Dp.tk (Tk.of (s1.trans s2)) (dSteps l) (flat_steps l) hL).steps
      cases e
      refine ⟨_, rfl, t, d, vs, l, rfl, hT, ok, hS, hV, ?_, g.names, fun H3 r s3 hD => q _ r ((s1.trans s2).trans s3) hD⟩
      have := g.1
      omega
end
end XB
set_option Elab.async false
set_option linter.all false
set_option maxRecDepth 100000
set_option maxHeartbeats 4000000
namespace XB
open PySem PySem.Spec PyProof.Rows L2
/-! distance, is_between, middle_of: refused -/
section
variable {P : Program} {w : World} {K : PySem.W.Frag} {mg : Str → Option Value} {base : Heap}
/-- a script of the field -/
def RightS (K : PySem.W.Frag) (H : Hp) (F : Fld) (v : V) : Prop := ∃ (p : Addr) (l : List (Str × Int)), v = .ref p ∧ Dp K H v (dSteps l) ∧ GoodScript F l
/-- no script of the field -/
def WrongS (K : PySem.W.Frag) (mg : Str → Option Value) (H : Hp) (E : XK) (F : Fld) (v : V) : Prop := ∃ o, OkS K H v (fldNames (dField F)) (some o) ∧ RefE K mg H E "BadScript" "place" (placeV o)
theorem RightS.same {H H' : Hp} {F : Fld} {v : V} (h : RightS K H F v) (s : Same H H') : RightS K H' F v := by
  obtain ⟨p, l, e, hd, g⟩ := h
  exact ⟨p, l, e, Dp.sm s _ hd, g⟩
theorem WrongS.from {H H' : Hp} {E : XK} {F : Fld} {v : V} (h : WrongS K mg H E F v) (s : Same H H') : WrongS K mg H' E F v := by
  obtain ⟨o, a, b⟩ := h
  exact ⟨o, a.same s, b.from s⟩
def spDistBad (K : PySem.W.Frag) (mg : Str → Option Value) : Sp := fun vs H Q E => ∃ (F : Fld) (f u v : V), vs = [f, u, v] ∧
  ((∃ df, Dp K H f df ∧ FOk df ∧ BadFS K mg H E df u) ∨ (∃ a, f = .ref a ∧ Dp K H f (dField F) ∧ F.Ok ∧ RightS K H F u ∧ WrongS K mg H E F v))
def spThreeBad (K : PySem.W.Frag) (mg : Str → Option Value) : Sp := fun vs H Q E => ∃ (F : Fld) (f u v x : V), vs = [f, u, v, x] ∧
  ((∃ df, Dp K H f df ∧ FOk df ∧ BadFS K mg H E df u) ∨ (∃ a, f = .ref a ∧ Dp K H f (dField F) ∧ F.Ok ∧ RightS K H F u ∧ (WrongS K mg H E F v ∨ (RightS K H F v ∧ WrongS K mg H E F x))))
end
end XB
set_option Elab.async false
set_option linter.all false
set_option maxRecDepth 100000
set_option maxHeartbeats 4000000
namespace XB
open PySem PySem.Spec PyProof.Rows L2
/-! a Pile made, its length -/
section
variable {P : Program} {w : World} {K : PySem.W.Frag} {mg : Str → Option Value} {base : Heap}
def spPLen (K : PySem.W.Frag) (mg : Str → Option Value) : Sp := fun vs H Q _ => ∃ (a p : Addr) (f : V) (xs : List V), vs = [.ref a] ∧ PileAt mg H a f (.ref p) ∧ SqT K H p xs ∧ Q (.int xs.length) H
theorem c_Pile_len (T : Tx K mg) : MCl P w K mg base (L2.CX P w) 1 "Pile" "__len__" (spPLen K mg) := by
  refine mclX T.m_Pile___len__ (ps := ["self"]) (fun _ _ _ _ _ _ us hl => match us, hl with | [_], _ => rfl) sc_Pile___len__ (fun vs H Q E h => ?_) (fun f cdv A outer st H vs Q E hr h => ?_)
  · obtain ⟨a, p, f, xs, rfl, _⟩ := h
    rfl
  · obtain ⟨a, p, fv, xs, rfl, ⟨fs, ⟨C, dx, hm, hi⟩, _, h2, _⟩, hS, q⟩ := h
    exact ⟨_, pss_one (ps_ret (pe_lenS (by rfl) T.b_len (pe_fld (pv 0) rfl))), _, rfl, a, C, dx, fs, .ref p, rfl, hi, oc_cls T.o_Pile hm, T.n_Pile__steps C hm, h2, p, xs, rfl, .inr hS, q⟩
def spInit (K : PySem.W.Frag) (mg : Str → Option Value) : Sp := fun vs H Q _ => ∃ (F : Fld) (a dx f p C : Addr) (l : List (Str × Int)), vs = [.ref a, .ref f, .ref p] ∧ mg "Pile" = some (.ref C) ∧ H a = some (.ins C dx []) ∧ Dp K H (.ref f) (dField F) ∧ F.Ok ∧ Dp K H (.ref p) (dSteps l) ∧ GoodScript F l ∧
  ∀ H' r, Same (fun b => if b = a then none else H b) H' → PileAt mg H' a (.ref f) (.ref r) → Dp K H' (.ref r) (dSteps (XM.act (OF F) l []).reverse) → Q .non H'
theorem c_Pile_init (T : Tx K mg) : MCl P w K mg base (L2.CX P w) 7 "Pile" "__init__" (spInit K mg) := by
  refine mclX T.m_Pile___init__ (ps := ["self", "field", "deeds"]) (fun _ _ _ _ _ _ us hl => match us, hl with | [_, _, _], _ => rfl) sc_Pile___init__ (fun vs H Q E h => ?_) (fun f cdv A outer st H vs Q E hr h => ?_)
  · obtain ⟨F, a, dx, f, p, C, l, rfl, _⟩ := h
    rfl
  · obtain ⟨F, a, dx, fa, p, C, l, rfl, hC, hi, hF, ok, hL, g, q⟩ := h
    have tk : Takes (cxOf (L2.CX P w) P w K mg base ["self", "field", "deeds"] "Pile.__init__" (defScope s_Pile___init__) f cdv A outer st H E) fun cls d _ H => E cls d H := takes_of rfl rfl rfl rfl
    obtain ⟨D, hD⟩ : ∃ D, mg "Pieces" = some (.ref D) := by
      obtain ⟨D, hD, _⟩ := T.o_Pieces.ex
      exact ⟨D, hD⟩
    refine ⟨_, pss_cons (ps_fld (pv 0) (pe_ifExp (pt_val (pe_callB call_isi (by rfl) T.b_isinstance (by decide +kernel) (pa_cons (pv 2) (pa_cons (pe_glob (v := .ref D) (by rfl) hD rfl) pa_nil)))) (pe_fld (pv 2) rfl) (pe_kX (c_least_pileX T F) hr (by decide) tk (by rfl) (pa_cons (pv 1) (pa_cons (pv 2) pa_nil)))) rfl) (pss_one (ps_fld (pv 0) (pv 1) rfl)), ?_⟩
    refine ⟨_, rfl, .ref p, .ref D, _, _, _, rfl, .own D, tyx_data hL, T.k_Pieces D hD _ (by simp [tyD, dSteps]), _, rfl, iteF ⟨_, rfl, _, rfl, .ref fa, .ref p, dField F, rfl, hF, fld_fok ok, .inr ⟨fa, p, l, rfl, rfl, rfl, ok, hL, g, fun H1 r s1 hd => ?_⟩⟩⟩
    have hi1 := s1 _ _ hi
    refine ⟨_, rfl, a, C, dx, [], rfl, hi1, oc_cls T.o_Pile hC, T.n_Pile__steps C hC, (by decide), ?_⟩
    refine ⟨_, rfl, _, rfl, a, C, dx, _, rfl, upd_same, oc_cls T.o_Pile hC, T.n_Pile__field C hC, (show 1 < 1000 by decide), ?_⟩
    have t1 : Tk H1 (upd H1 a (.ins C dx (putF "_steps" (.ref r) []))) := Tk.refl.mut hi1 (fun _ q => nomatch q) (fun _ _ q => nomatch q)
    have t2 : Tk H1 (upd (upd H1 a (.ins C dx (putF "_steps" (.ref r) []))) a (.ins C dx (putF "_field" (.ref fa) (putF "_steps" (.ref r) [])))) := t1.mut (p := a) upd_same (fun _ q => nomatch q) (fun _ _ q => nomatch q)
    refine q _ r (fun b o e => ?_) ⟨_, ⟨C, dx, hC, upd_same⟩, rfl, rfl, fun m m1 m2 => by
      show ([(("_steps" : Str), V.ref r), (("_field" : Str), V.ref fa)] : List (Str × V)).lookup m = none
      rw [List.lookup_cons, m2, List.lookup_cons, m1]
      rfl⟩ (Dp.tk t2 _ (flat_steps _) hd)
    have e : (if b = a then none else H b) = some o := e
    by_cases h : b = a
    · rw [if_pos h] at e
      cases e
    · rw [if_neg h] at e
      rw [upd_ne h, upd_ne h]
      exact s1 _ _ e
end
end XB
set_option Elab.async false
set_option linter.all false
set_option maxRecDepth 100000
set_option maxHeartbeats 4000000
namespace XB
open PySem PySem.Spec PyProof.Rows L2
/-! Piles stand while heaps grow -/
theorem Ins.same {mg : Str → Option Value} {x : Str} {H H' : Hp} {a : Addr} {fs : List (Str × V)} (h : Ins mg x H a fs) (s : Same H H') : Ins mg x H' a fs := by
  obtain ⟨C, dx, hm, e⟩ := h
  exact ⟨C, dx, hm, s _ _ e⟩
theorem Ins.ext {mg : Str → Option Value} {x : Str} {H H' : Hp} {a : Addr} {fs : List (Str × V)} (h : Ins mg x H a fs) (s : LamX.ExtN H H') : Ins mg x H' a fs := by
  obtain ⟨C, dx, hm, e⟩ := h
  exact ⟨C, dx, hm, s _ _ e (fun ps z => nomatch z)⟩
theorem PileAt.same {mg : Str → Option Value} {H H' : Hp} {a : Addr} {f s : V} (h : PileAt mg H a f s) (e : Same H H') : PileAt mg H' a f s := by
  obtain ⟨fs, hi, h1, h2⟩ := h
  exact ⟨fs, hi.same e, h1, h2⟩
theorem PileAt.ext {mg : Str → Option Value} {H H' : Hp} {a : Addr} {f s : V} (h : PileAt mg H a f s) (e : LamX.ExtN H H') : PileAt mg H' a f s := by
  obtain ⟨fs, hi, h1, h2⟩ := h
  exact ⟨fs, hi.ext e, h1, h2⟩
theorem PileF.same {K : PySem.W.Frag} {mg : Str → Option Value} {H H' : Hp} {a : Addr} {f : V} {df : PyData} (h : PileF K mg H a f df) (e : Same H H') : PileF K mg H' a f df := by
  obtain ⟨⟨s, hp⟩, hd, hs⟩ := h
  exact ⟨⟨s, hp.same e⟩, Dp.sm e _ hd, hs⟩
theorem PileF.ext {K : PySem.W.Frag} {mg : Str → Option Value} {H H' : Hp} {a : Addr} {f : V} {df : PyData} (h : PileF K mg H a f df) (e : LamX.ExtN H H') : PileF K mg H' a f df := by
  obtain ⟨⟨s, hp⟩, hd, hs⟩ := h
  exact ⟨⟨s, hp.ext e⟩, Dp.ext e _ hd, hs⟩
/-- over a draw: what is not one of its two cells stands -/
theorem PileAt.kp {mg : Str → Option Value} {H H' : Hp} {m c g : Addr} {s0 : Int} {a : Addr} {f s : V} (h : PileAt mg H a f s) (R : Dr H m c g s0) (k : Kp m g H H') : PileAt mg H' a f s := by
  obtain ⟨fs, ⟨C, dx, hm, e⟩, h1, h2⟩ := h
  obtain ⟨⟨cs, gs, em, ec, eg, _, _⟩, _, _⟩ := R
  refine ⟨fs, ⟨C, dx, hm, k _ _ (fun z => ?_) (fun z => ?_) e⟩, h1, h2⟩
  · rw [z, em] at e
    cases e
  · rw [z, eg] at e
    cases e
theorem tabs_kp {TT : List (Addr × Str)} {H H' : Hp} {m c g : Addr} {s : Int} (t : LamX.Tabs TT H) (R : Dr H m c g s) (k : Kp m g H H') : LamX.Tabs TT H' := fun p hp => by
  obtain ⟨⟨cs, gs, em, ec, eg, gc, gl⟩, n, s0⟩ := R
  obtain ⟨ps, h1, h2, h3⟩ := t p hp
  refine ⟨ps, k _ _ (fun z => by rw [z, em] at h1; cases h1) (fun z => by rw [z, eg] at h1; cases h1) h1, h2, fun pos cv hc => ?_⟩
  obtain ⟨c', e1, e2⟩ := h3 pos cv hc
  refine ⟨c', e1, k _ _ (fun z => ?_) (fun z => ?_) e2⟩
  · rw [z, em] at e2
    unfold LamX.CodeO at e2
    cases e2
  · rw [z, eg] at e2
    unfold LamX.CodeO at e2
    cases e2
theorem tabs_put {TT : List (Addr × Str)} {H : Hp} {L : Addr} {xs : List V} {o : HO} (t : LamX.Tabs TT H) (e : H L = some (.lst xs)) : LamX.Tabs TT (upd H L o) := fun p hp => by
  obtain ⟨ps, h1, h2, h3⟩ := t p hp
  have n1 : p.1 ≠ L := fun z => by
    rw [z, e] at h1
    cases h1
  refine ⟨ps, by rw [upd_ne n1]; exact h1, h2, fun pos cv hc => ?_⟩
  obtain ⟨c, e1, e2⟩ := h3 pos cv hc
  refine ⟨c, e1, ?_⟩
  rw [upd_ne fun z => by
    rw [z, e] at e2
    unfold LamX.CodeO at e2
    cases e2]
  exact e2
theorem extN_put {H H0 H1 : Hp} {L : Addr} {o : HO} (x : LamX.ExtN H H1) (x0 : LamX.ExtN H H0) (n : H0 L = none) : LamX.ExtN H (upd H1 L o) := fun b u e h => by
  have nb : b ≠ L := fun z => by
    have := x0 b u e h
    rw [z, n] at this
    cases this
  rw [upd_ne nb]
  exact x b u e h
theorem Dr.ext {H H' : Hp} {m c g : Addr} {s : Int} (R : Dr H m c g s) (x : LamX.ExtN H H') : Dr H' m c g s := by
  obtain ⟨⟨cs, gs, em, ec, eg, gc, gl⟩, n, s0⟩ := R
  exact ⟨⟨cs, gs, x _ _ em (fun ps z => nomatch z), extN_lst x ec, extN_lst x eg, gc, gl⟩, n, s0⟩
end XB
set_option Elab.async false
set_option linter.all false
set_option maxRecDepth 100000
set_option maxHeartbeats 4000000
namespace XB
open PySem PySem.Spec PyProof.Rows L2
theorem firsts_frs {F : Fld} {l : List (Str × Int)} : ∀ n : Nat, n ≤ l.length → (firstsL F l n).map (nm1 l) = XM.frs (OF F) [] (l.take n)
  | 0, _ => rfl
  | n + 1, h => by
    have ih := firsts_frs (F := F) n (Nat.le_of_succ_le h)
    have hs : l[n]? = some l[n] := List.getElem?_eq_getElem h
    generalize l[n] = s at hs
    rw [firsts_snoc, List.map_append, ih, take_snoc hs, XM.frs_snoc, List.nil_append]
    congr 1
    have e : free1 F l n = (l.take n).all fun w => !(OF F).tc w.1 s.1 := by
      unfold free1
      rw [hs]
    rw [e]
    cases (l.take n).all fun w => !(OF F).tc w.1 s.1
    · rfl
    · rw [if_pos rfl, if_pos rfl, List.map_singleton, nm1_of hs]
theorem srt_unique : ∀ {zs ys : List Str}, zs.Perm ys → sortedS zs = true → sortedS ys = true → zs = ys
  | [], ys, p, _, _ => (List.Perm.nil_eq p)
  | z :: zs, [], p, _, _ => by
    have := p.length_eq
    simp at this
  | z :: zs, y :: ys, p, h1, h2 => by
    have m1 : y ∈ z :: zs := p.symm.subset List.mem_cons_self
    have m2 : z ∈ y :: ys := p.subset List.mem_cons_self
    have a1 := sorted_head h1 y m1
    have a2 := sorted_head h2 z m2
    have e : z = y := by
      by_cases e : z = y
      · exact e
      · have := sLt_tot z y e a2
        rw [a1] at this
        cases this
    subst e
    have t : ∀ {x : Str} {l : List Str}, sortedS (x :: l) = true → sortedS l = true := fun {x l} h => by
      cases l with
      | nil => rfl
      | cons y r =>
        have h : risingS x (y :: r) = true := h
        unfold risingS at h
        rw [Bool.and_eq_true] at h
        exact h.2
    rw [srt_unique (p.cons_inv) (t h1) (t h2)]
theorem srt_same {ns ms zs ys : List Str} (h1 : SrtOf ns zs) (h2 : SrtOf ms ys) (h : ns.Perm ms) : zs = ys := srt_unique (h1.1.trans (h.trans h2.1.symm)) h1.2 h2.2
theorem ins_bound {F : Fld} {x : Str × Int} {b c : Nat} (hx : x.2.natAbs ≤ c) : ∀ {r : List (Str × Int)}, (∀ y ∈ r, y.2.natAbs ≤ b) → ∀ y ∈ XM.ins (OF F) x r, y.2.natAbs ≤ b + c
  | [], _ => fun y hy => by
    have hy : y ∈ [x] := hy
    rw [List.mem_singleton.mp hy]
    omega
  | z :: r, h => by
    have ih := ins_bound (F := F) hx (r := r) fun y hy => h y (List.mem_cons_of_mem _ hy)
    have hz := h z List.mem_cons_self
    have h0 : ∀ y ∈ r, y.2.natAbs ≤ b + c := fun y hy => by
      have := h y (List.mem_cons_of_mem _ hy)
      omega
    have k : ∀ {a : Str × Int} {l : List (Str × Int)}, a.2.natAbs ≤ b + c → (∀ y ∈ l, y.2.natAbs ≤ b + c) → ∀ y ∈ a :: l, y.2.natAbs ≤ b + c := fun {a l} ha hl y hy => by
      rcases List.mem_cons.mp hy with rfl | hy
      · exact ha
      · exact hl y hy
    unfold XM.ins
    by_cases e1 : z.1 = x.1
    · rw [if_pos e1]
      by_cases e2 : z.2 + x.2 = 0
      · rw [if_pos e2]
        exact h0
      · rw [if_neg e2]
        exact k (by show (z.2 + x.2).natAbs ≤ b + c; omega) h0
    · rw [if_neg e1]
      by_cases e2 : (OF F).tc z.1 x.1 = true
      · rw [if_pos e2]
        exact k (by omega) (k (by omega) h0)
      · rw [if_neg e2]
        by_cases e3 : ((OF F).lt z.1 x.1 && XM.top (OF F) x.1 r) = true
        · rw [if_pos e3]
          exact k (by omega) (k (by omega) h0)
        · rw [if_neg e3]
          exact k (by omega) ih
theorem act_bound {F : Fld} {c : Nat} : ∀ {l r : List (Str × Int)} {b : Nat}, (∀ y ∈ l, y.2.natAbs ≤ c) → (∀ y ∈ r, y.2.natAbs ≤ b) → ∀ y ∈ XM.act (OF F) l r, y.2.natAbs ≤ b + l.length * c
  | [], r, b, _, h => fun y hy => by
    have := h y hy
    omega
  | x :: l, r, b, hl, h => fun y hy => by
    rw [XM.act_cons] at hy
    have := act_bound (F := F) (b := b + c) (fun z hz => hl z (List.mem_cons_of_mem _ hz)) (ins_bound (hl x List.mem_cons_self) h) y hy
    rw [List.length_cons, Nat.succ_mul]
    omega
theorem len_bound {c : Nat} : ∀ {l : List (Str × Int)}, (∀ y ∈ l, y.2.natAbs ≤ c) → (lenOf l).natAbs ≤ l.length * c
  | [], _ => by
    show (0 : Int).natAbs ≤ _
    omega
  | x :: l, h => by
    have t := len_bound (l := l) fun y hy => h y (List.mem_cons_of_mem _ hy)
    have hx := h x List.mem_cons_self
    have e : lenOf (x :: l) = (if x.2 < 0 then -x.2 else x.2) + lenOf l := by
      unfold lenOf
      rw [List.map_cons, List.sum_cons]
    rw [e, List.length_cons, Nat.succ_mul]
    split <;> omega
/-- the data of a good script's pile -/
structure PileD (F : Fld) (A : List (Str × Int)) : Prop where
  nm : Names F A
  ln : A.length ≤ 60
  bd : ∀ y ∈ A, y.2.natAbs < 10 ^ 40
theorem times_c {t : Int} (g : GoodTimes t) : t.natAbs ≤ 10 ^ 30 := by
  obtain ⟨_, a, b⟩ := g
  omega
theorem pileD {F : Fld} {l : List (Str × Int)} (hN : Names F l) (h60 : l.length ≤ 60) (hb : ∀ y ∈ l, y.2.natAbs ≤ 10 ^ 30) : PileD F (XM.act (OF F) l []).reverse := by
  refine ⟨names_rev (names_act hN (fun _ h => nomatch h)), ?_, fun y hy => ?_⟩
  · rw [List.length_reverse]
    exact Nat.le_trans act_len0 h60
  · have := act_bound (F := F) (r := []) (b := 0) hb (fun _ h => nomatch h) y (List.mem_reverse.mp hy)
    have h2 : l.length * 10 ^ 30 ≤ 60 * 10 ^ 30 := Nat.mul_le_mul_right _ h60
    exact Nat.lt_of_le_of_lt this (Nat.lt_of_le_of_lt (by omega) (show 60 * 10 ^ 30 < 10 ^ 40 by decide))
theorem PileD.szA {F : Fld} (ok : F.Ok) {A : List (Str × Int)} (h : PileD F A) : Sz (dSteps A) 540 := (sz_stepsA fun s hs => ⟨ok.sgn _ (h.nm s hs), Nat.lt_trans (h.bd s hs) (by decide)⟩).tup.mono (by have := h.ln; omega)
theorem PileD.szL {F : Fld} {A : List (Str × Int)} (h : PileD F A) : Sz (.int (lenOf A)) 0 := by
  refine sz_int (Nat.lt_of_le_of_lt (len_bound (c := 10 ^ 40) fun y hy => Nat.le_of_lt (h.bd y hy)) ?_)
  have : A.length * 10 ^ 40 ≤ 60 * 10 ^ 40 := Nat.mul_le_mul_right _ h.ln
  exact Nat.lt_of_le_of_lt this (by decide)
theorem frs_mem {F : Fld} : ∀ {l bar : List (Str × Int)} {n : Str}, n ∈ XM.frs (OF F) bar l → ∃ s ∈ l, s.1 = n
  | [], _, _, h => by cases h
  | x :: l, bar, n, h => by
    unfold XM.frs at h
    split at h
    · rcases List.mem_cons.mp h with rfl | h
      · exact ⟨x, List.mem_cons_self, rfl⟩
      · obtain ⟨s, hs, e⟩ := frs_mem h
        exact ⟨s, List.mem_cons_of_mem _ hs, e⟩
    · obtain ⟨s, hs, e⟩ := frs_mem h
      exact ⟨s, List.mem_cons_of_mem _ hs, e⟩
theorem sz_names {F : Fld} (ok : F.Ok) {A : List (Str × Int)} (hn : Names F A) (h60 : A.length ≤ 60) {zs : List Str} (h : SrtOf (XM.frs (OF F) [] A) zs) : Sz (dNames zs) 420 := by
  refine (sz_strsA fun s hs => ?_).tup.mono ?_
  · obtain ⟨x, hx, rfl⟩ := frs_mem (h.1.subset hs)
    exact ok.sgn _ (hn x hx)
  · have e := h.1.length_eq
    have := frs_len (F := F) (l := A) (bar := [])
    omega
theorem deep_dsteps (A : List (Str × Int)) : (dSteps A).depth ≤ 19 := by
  have := deep_steps A
  show PyData.depth (.tuple _) ≤ 19
  rw [PyData.depth]
  omega
theorem deep_strs : ∀ zs : List Str, PyData.depthAll (zs.map .str) ≤ 1
  | [] => by decide
  | z :: zs => by
    have := deep_strs zs
    rw [List.map_cons, PyData.depthAll]
    have e : (PyData.str z).depth = 0 := by simp [PyData.depth]
    omega
theorem deep_dnames (zs : List Str) : (dNames zs).depth ≤ 19 := by
  have := deep_strs zs
  show PyData.depth (.tuple _) ≤ 19
  rw [PyData.depth]
  omega
end XB
set_option Elab.async false
set_option linter.all false
set_option maxRecDepth 100000
set_option maxHeartbeats 8000000
namespace XB
open PySem PySem.Spec PyProof.Rows L2
section
variable {P : Program} {w : World} {K : PySem.W.Frag} {mg : Str → Option Value} {base : Heap}
theorem fg0 {x : Str} {st : Stmt} {N ps : List Str} {k : Nat} {sp : Sp} {fl : Addr} {fd : FuncData} (F : Fun K x x st fl fd) (S : FnScope N ps (defScope st)) (len : ∀ vs H Q E, sp vs H Q E → vs.length = ps.length)
    (body : ∀ (f : Addr) (cdv : Value) (A : Around) (outer : List Env) (s : Shared) (H : Hp) (vs : List V) (Q : VK) (E : XK), (A.deeper (envOfC x (defScope st) s.heap.objs.size f cdv)).guards = some [] → Room k (A.deeper (envOfC x (defScope st) s.heap.objs.size f cdv)) → sp vs H Q E →
      ∃ t, PSs (cxOf CX0 P w K mg base N x (defScope st) f cdv A outer s H E).nox (defBody st) t ∧ t { nx := fun _ H' => Q .non H', rt := Q } (start N vs) H) : FnG P w K mg base CX0 (k + 1) fl fd ps sp := by
  obtain ⟨oc, od, kV, doc, pm, an, cdv, ct, osl, rfl, lk, hcd⟩ := id F.ex
  refine fng_of lk hcd S len fun A outer s H vs Q E hg hr h => ?_
  obtain ⟨t, ht, q⟩ := body fl cdv A outer s H vs Q E hg hr h
  exact ⟨t, ht.nox, q⟩
end
section
variable {X : Cx} {k j : Nat} {x : Str} {sp : Fld → Sp} {p pos : Pos} {e : Expr} {es : List Expr} {t : TA}
/-- a def's promises for each field -/
theorem pe_gF (c : ∀ F, Cg X.prog X.w X.K X.mg X.base CX0 k x (sp F)) (hgu : X.A.guards = some []) (hr : Room j X.A) (hk : k ≤ j) (hg : Gl X x) (ha : PA X (e :: es) t)
    (hdb : (x == ("__debug__" : Str)) = false := by decide) (he : starEach (e :: es) X.env = (false, eval e X.env) :: starEach es X.env := by rfl) (hpl : (backTo pos (starEach es X.env)).any (·.1) = false := by rfl) :
    PE X (.Call (.Name x p) (e :: es) [] pos) (tCall (fun vs H Q E => ∃ F, sp F vs H Q E) [] E0 t) := by
  obtain ⟨f, _, _, _, hm, kp, _⟩ := (c ⟨[], []⟩).ex
  constructor
  intro pins s σ H Q I h
  refine wpAny_Call_Name_kw (ld_glob I hg hm ?_ hdb)
  refine PySem.W.callWith_K (h₀ := X.base) I.ok.mod.kin kp (thn (ha.run pos pins s σ H _ I h) ?_) he hpl
  rintro us s1 ⟨vs, H1, I1, r, G, q⟩
  obtain ⟨f', fd, ps, F, hm', _, b⟩ := (c G).ex
  have ef : f = f' := Value.ref.inj (Option.some.inj (hm.symm.trans hm'))
  subst ef
  have q' : sp G vs H1 Q E0 := by
    rw [List.append_nil] at q
    exact q
  have hl : us.length = ps.length := by
    rw [← r.length]
    exact F.many _ _ _ _ q'
  have bb := b s1 us I1.kIn (by rw [List.append_nil]; exact hl)
  rw [List.append_nil] at bb
  refine ⟨I1.kIn, wpAny_call (codeAny_mono (F.goes (outer := X.stack) (Q := Q) (E := E0) hgu (hr.mono hk) I1.env0 bb r q') ?_)⟩
  rintro (er | fl) s' hq
  · exact hq.elim
  · rcases fl with u | _ | _ | _ <;> first
      | exact I1.after hq
      | exact False.elim hq
end
section
variable {P : Program} {w : World} {K : PySem.W.Frag} {mg : Str → Option Value} {base : Heap}
def spLaw (K : PySem.W.Frag) : Sp := fun vs H Q _ => ∃ (a : Addr) (ns : List Int), vs = [.ref a] ∧ SqL K H a (ns.map V.int) ∧ ns.length ≤ 1000 ∧ ∀ H', Q (.bl true) H'
theorem sp_law_len {vs : List V} {H : Hp} {Q : VK} {E : XK} (h : spLaw K vs H Q E) : vs.length = ["script"].length := by
  obtain ⟨a, ns, rfl, _⟩ := h
  rfl
theorem same_t {H H1 H2 : Hp} (a : Same H H1) (b : Same H1 H2) : Same H H2 := a.trans b
theorem tS {K : PySem.W.Frag} {H H' : Hp} {v : V} {l : List (Str × Int)} (h : Dp K H v (dSteps l)) (s : Same H H') : Dp K H' v (dSteps l) := Dp.tk (Tk.of s) _ (flat_steps l) h
theorem tF {K : PySem.W.Frag} {H H' : Hp} {v : V} {F : Fld} (h : Dp K H v (dField F)) (s : Same H H') : Dp K H' v (dField F) := Dp.tk (Tk.of s) _ (flat_field F) h
theorem tN {K : PySem.W.Frag} {H H' : Hp} {v : V} {l : List Str} (h : Dp K H v (dNames l)) (s : Same H H') : Dp K H' v (dNames l) := Dp.tk (Tk.of s) _ (flat_names l) h
theorem dpN {K : PySem.W.Frag} {H : Hp} {a : Addr} {l : List Str} (h : SqT K H a (l.map V.str)) : Dp K H (.ref a) (dNames l) := .tup h (DpAll.strs l)
end
end XB
set_option Elab.async false
set_option linter.all false
set_option maxRecDepth 100000
set_option maxHeartbeats 4000000
namespace XB
open PySem PySem.Spec PyProof.Rows L2
theorem sh_dsteps {l : List (Str × Int)} (h : ∀ s ∈ l, GoodName s.1) : SeqAt.shaped (dSteps l) = true := by
  have h2 := deep_steps l
  show (PyData.canLayAll0 (l.map dStep) && decide (PyData.depthAll (l.map dStep) + 1 ≤ 64)) = true
  rw [lay_steps h, Bool.true_and]
  exact decide_eq_true (by omega)
theorem eqv_step (s t : Str × Int) : PyData.eqv (dStep s) (dStep t) = decide (s = t) := by
  obtain ⟨a, i⟩ := s
  obtain ⟨b, j⟩ := t
  show (PyData.eqv (.str a) (.str b) && (PyData.eqv (.int i) (.int j) && true)) = _
  rw [Bool.and_true]
  show ((a == b) && (i == j)) = _
  by_cases h1 : a = b
  · by_cases h2 : i = j
    · simp [h1, h2]
    · simp [h2]
  · simp [h1]
theorem eqv_all_steps : ∀ l m : List (Str × Int), PyData.eqvAll (l.map dStep) (m.map dStep) = decide (l = m)
  | [], [] => rfl
  | [], b :: m => rfl
  | a :: l, [] => rfl
  | a :: l, b :: m => by
    rw [List.map_cons, List.map_cons, PyData.eqvAll, eqv_step, eqv_all_steps l m]
    by_cases h1 : a = b
    · by_cases h2 : l = m
      · simp [h1, h2]
      · simp [h2]
    · simp [h1]
theorem eqv_steps (l m : List (Str × Int)) : PyData.eqv (dSteps l) (dSteps m) = decide (l = m) := by
  show PyData.eqv (.tuple (l.map dStep)) (.tuple (m.map dStep)) = _
  rw [PyData.eqv]
  exact eqv_all_steps l m
theorem good_pile {F : Fld} (ok : F.Ok) {l : List (Str × Int)} (hN : Names F l) : ∀ s ∈ (XM.act (OF F) l []).reverse, GoodName s.1 := fun s hs => ok.sgn _ (names_act (r := []) hN (fun _ h => (nomatch h)) s (List.mem_reverse.mp hs))
/-- a row of a yard, and the yard -/
def GoodAll (F : Fld) (l : List (Str × Int)) : Prop := ∀ x ∈ l, x.1 ∈ F.names ∧ GoodTimes x.2
theorem GoodAll.nz {F : Fld} {l : List (Str × Int)} (h : GoodAll F l) : XM.NZ l := fun x hx => (h x hx).2.1
theorem GoodAll.names {F : Fld} {l : List (Str × Int)} (h : GoodAll F l) : Names F l := fun x hx => (h x hx).1
theorem GoodAll.app {F : Fld} {l m : List (Str × Int)} (h : GoodAll F l) (g : GoodAll F m) : GoodAll F (l ++ m) := fun x hx => (List.mem_append.mp hx).elim (h x) (g x)
theorem GoodAll.take {F : Fld} {l : List (Str × Int)} (h : GoodAll F l) (k : Nat) : GoodAll F (l.take k) := fun x hx => h x (List.mem_of_mem_take hx)
theorem GoodAll.drop {F : Fld} {l : List (Str × Int)} (h : GoodAll F l) (k : Nat) : GoodAll F (l.drop k) := fun x hx => h x (List.mem_of_mem_drop hx)
theorem GoodAll.one {F : Fld} {x : Str × Int} (h : x.1 ∈ F.names ∧ GoodTimes x.2) : GoodAll F [x] := fun y hy => by
  rw [List.mem_singleton.mp hy]
  exact h
/-- the same to every pile -/
theorem good_neg {t : Int} (h : GoodTimes t) : GoodTimes (-t) := by
  obtain ⟨a, b, c⟩ := h
  exact ⟨by omega, by omega, by omega⟩
theorem good_back {F : Fld} {l : List (Str × Int)} (h : GoodAll F l) : GoodAll F (XM.back l) := fun s hs => by
  unfold XM.back at hs
  obtain ⟨x, hx, rfl⟩ := List.mem_map.mp (List.mem_reverse.mp hs)
  exact ⟨(h x hx).1, good_neg (h x hx).2⟩
theorem len_back {l : List (Str × Int)} : (XM.back l).length = l.length := by
  unfold XM.back
  rw [List.length_reverse, List.length_map]
section
variable {K : PySem.W.Frag}
theorem slTo {H : Hp} {a : Addr} {l : List (Str × Int)} {k : Nat} {Q : VK} (h : Dp K H (.ref a) (dSteps l)) (q : ∀ H' p, Same H H' → Dp K H' (.ref p) (dSteps (l.take k)) → Q (.ref p) H') : rSlA K (.ref a) none (some (k : Int)) H Q := by
  obtain ⟨_, xs, e, hS, hV⟩ := h.steps
  cases e
  have hl := hV.len
  rw [List.length_map] at hl
  have e2 : HT.sIx xs.length xs.length (some (k : Int)) = min k xs.length := HT.sIx_nat xs.length xs.length k
  refine ⟨a, xs, rfl, hS, fun hw => ?_, fun _ p hp => ?_⟩
  · rw [e2] at hw
    have : l.take k = l := List.take_of_length_le (by omega)
    refine q _ _ (Same.refl _) ?_
    rw [this]
    exact h
  · refine q _ p (same_upd hp) (.tup (SqT.of upd_same) ?_)
    rw [cut_init, List.map_take]
    exact (DpAll.tk (Tk.of (same_upd hp)) _ (flat_all_steps l) hV).take k
theorem slFrom {H : Hp} {a : Addr} {l : List (Str × Int)} {k : Nat} {Q : VK} (h : Dp K H (.ref a) (dSteps l)) (q : ∀ H' p, Same H H' → Dp K H' (.ref p) (dSteps (l.drop k)) → Q (.ref p) H') : rSlA K (.ref a) (some (k : Int)) none H Q := by
  obtain ⟨_, xs, e, hS, hV⟩ := h.steps
  cases e
  have hl := hV.len
  rw [List.length_map] at hl
  have e2 : HT.sIx xs.length 0 (some (k : Int)) = min k xs.length := HT.sIx_nat xs.length 0 k
  refine ⟨a, xs, rfl, hS, fun hw => ?_, fun _ p hp => ?_⟩
  · rw [e2] at hw
    refine q _ _ (Same.refl _) ?_
    rcases Nat.eq_zero_or_pos k with h0 | h0
    · rw [h0, List.drop_zero]
      exact h
    · have : l = [] := List.length_eq_zero_iff.mp (by omega)
      rw [this] at h ⊢
      rw [List.drop_nil]
      exact h
  · refine q _ p (same_upd hp) (.tup (SqT.of upd_same) ?_)
    rw [cut_from, List.map_drop]
    exact (DpAll.tk (Tk.of (same_upd hp)) _ (flat_all_steps l) hV).drop k
theorem catD {H : Hp} {a b : Addr} {l m : List (Str × Int)} {Q : VK} (h1 : Dp K H (.ref a) (dSteps l)) (h2 : Dp K H (.ref b) (dSteps m)) (hl : l.length + m.length ≤ 500) (q : ∀ H' p, Same H H' → Dp K H' (.ref p) (dSteps (l ++ m)) → Q (.ref p) H') : rCatA K (.ref a) (.ref b) H Q := by
  obtain ⟨_, xs, e, hS, hV⟩ := h1.steps
  cases e
  obtain ⟨_, ys, e, hS2, hV2⟩ := h2.steps
  cases e
  have l1 := hV.len
  have l2 := hV2.len
  rw [List.length_map] at l1 l2
  refine catA hS hS2 (Nat.le_of_lt (small1000 (by omega))) fun H' p s h => q H' p s (.tup h ?_)
  rw [List.map_append]
  exact (DpAll.tk (Tk.of s) _ (flat_all_steps l) hV).app (DpAll.tk (Tk.of s) _ (flat_all_steps m) hV2)
end
end XB
set_option linter.all false
/-! cores: weights of rows, powers of rows, round piles that are turns of one another -/
namespace XM
section
variable {α : Type} [DecidableEq α] {O : Ord α}
/-- a weight of pieces, and which pairs of pieces may come together so that it adds -/
structure Wt (α : Type) where
  w : α → Int → Nat
  g : α → Int → Int → Prop
  nz : ∀ a s t, g a s t → s + t ≠ 0
  add : ∀ a s t, g a s t → w a (s + t) = w a s + w a t
  left : ∀ a s t r, g a s t → g a t r → g a (s + t) r
  right : ∀ a s t r, g a s t → g a r s → g a r (s + t)
  le : ∀ a s t, w a (s + t) ≤ w a s + w a t
variable {W : Wt α}
def Wt.sum (W : Wt α) : Row α → Nat
  | [] => 0
  | y :: r => W.w y.1 y.2 + W.sum r
theorem Wt.sum_app {l m : Row α} : W.sum (l ++ m) = W.sum l + W.sum m := by
  induction l with
  | nil => simp [Wt.sum]
  | cons x l ih =>
    rw [List.cons_append, Wt.sum, Wt.sum, ih]
    omega
theorem Wt.sum_rev {l : Row α} : W.sum l.reverse = W.sum l := by
  induction l with
  | nil => rfl
  | cons x l ih =>
    rw [List.reverse_cons, Wt.sum_app, ih, Wt.sum, Wt.sum, Wt.sum]
    omega
theorem Wt.sum_ins {x : α × Int} : ∀ {r : Row α}, W.sum (ins O x r) ≤ W.w x.1 x.2 + W.sum r
  | [] => Nat.le_refl _
  | y :: r => by
    have ih := Wt.sum_ins (x := x) (r := r)
    have hl := W.le x.1 y.2 x.2
    unfold ins
    split
    · rename_i e
      split
      · simp only [Wt.sum]
        omega
      · simp only [Wt.sum]
        rw [e]
        omega
    · split
      · exact Nat.le_refl _
      · split
        · exact Nat.le_refl _
        · simp only [Wt.sum]
          omega
theorem Wt.sum_act : ∀ {l r : Row α}, W.sum (act O l r) ≤ W.sum l + W.sum r
  | [], r => by simp [act, Wt.sum]
  | x :: l, r => by
    have h1 := Wt.sum_act (l := l) (r := ins O x r)
    have h2 := Wt.sum_ins (W := W) (O := O) (x := x) (r := r)
    rw [act_cons]
    simp only [Wt.sum]
    omega
theorem Wt.ins_eq {x : α × Int} : ∀ {r : Row α}, (ins O x r).length = r.length + 1 → W.sum (ins O x r) = W.w x.1 x.2 + W.sum r
  | [], _ => rfl
  | y :: r, h => by
    unfold ins at h ⊢
    by_cases e : y.1 = x.1
    · rw [if_pos e] at h
      by_cases h0 : y.2 + x.2 = 0
      · rw [if_pos h0] at h
        simp only [List.length_cons] at h
        omega
      · rw [if_neg h0] at h
        simp only [List.length_cons] at h
        omega
    · rw [if_neg e] at h ⊢
      by_cases ht : O.tc y.1 x.1 = true
      · rw [if_pos ht] at h ⊢
        rfl
      · rw [if_neg ht] at h ⊢
        by_cases hc : (O.lt y.1 x.1 && top O x.1 r) = true
        · rw [if_pos hc]
          rfl
        · rw [if_neg hc] at h ⊢
          have ih := Wt.ins_eq (x := x) (r := r) (by simpa using h)
          simp only [Wt.sum]
          omega
theorem Wt.act_eq : ∀ {l r : Row α}, (act O l r).length = l.length + r.length → W.sum (act O l r) = W.sum l + W.sum r
  | [], r, _ => by simp [act, Wt.sum]
  | x :: l, r, h => by
    have h1 := act_len (O := O) (l := l) (r := ins O x r)
    have h2 := ins_len (O := O) (x := x) (r := r)
    rw [act_cons] at h ⊢
    simp only [List.length_cons] at h
    have i1 := Wt.act_eq (l := l) (r := ins O x r) (by omega)
    have i2 := Wt.ins_eq (W := W) (O := O) (x := x) (r := r) (by omega)
    simp only [Wt.sum]
    omega
/-- the times of the piece of a name that is met from the left -/
def nearS (O : Ord α) (a : α) : Row α → Option Int
  | [] => none
  | y :: r => if y.1 = a then some y.2 else if O.tc y.1 a then none else nearS O a r
theorem nearS_none {a : α} : ∀ {r : Row α}, nearS O a r = none ↔ near O a r = none
  | [] => ⟨fun _ => rfl, fun _ => rfl⟩
  | y :: r => by
    unfold nearS near
    split
    · simp
    · split
      · simp
      · rw [Option.map_eq_none_iff]
        exact nearS_none
theorem nearS_apart {a : α} : ∀ {m v : Row α}, (∀ y ∈ m, O.tc y.1 a = false) → nearS O a (m ++ v) = nearS O a v
  | [], _, _ => rfl
  | y :: m, v, h => by
    have hy := h y List.mem_cons_self
    rw [List.cons_append, nearS, if_neg (ne_of_apart hy), if_neg (by rw [hy]; decide)]
    exact nearS_apart fun z hz => h z (List.mem_cons_of_mem _ hz)
/-- something is met on the way -/
theorem nearS_hit {a : α} : ∀ {m v : Row α}, (∃ y ∈ m, O.tc y.1 a = true) → nearS O a (m ++ v) = nearS O a m
  | [], _, h => by
    obtain ⟨y, hy, _⟩ := h
    cases hy
  | y :: m, v, h => by
    rw [List.cons_append, nearS, nearS]
    by_cases e : y.1 = a
    · rw [if_pos e, if_pos e]
    · rw [if_neg e, if_neg e]
      by_cases ht : O.tc y.1 a = true
      · rw [if_pos ht, if_pos ht]
      · rw [if_neg ht, if_neg ht]
        obtain ⟨z, hz, hh⟩ := h
        rcases List.mem_cons.mp hz with q | hz
        · rw [q] at hh
          exact absurd hh ht
        · exact nearS_hit ⟨z, hz, hh⟩
/-- pairs that can come together are let -/
def NC (O : Ord α) (W : Wt α) : Row α → Prop
  | [] => True
  | x :: l => (∀ t, nearS O x.1 l = some t → W.g x.1 x.2 t) ∧ NC O W l
theorem nc_pl : ∀ {l : Row α}, pl O l = true → NC O W l
  | [], _ => True.intro
  | x :: l, h => by
    unfold pl at h
    rw [Bool.and_eq_true] at h
    refine ⟨fun t e => ?_, nc_pl h.2⟩
    have : nearS O x.1 l = none := nearS_none.mpr (Option.isNone_iff_eq_none.mp h.1)
    rw [this] at e
    cases e
theorem near_join {a b : α} {s t : Int} {m v : Row α} (hm : ∀ y ∈ m, O.tc y.1 a = false) (hb : b ≠ a) : ∀ {u : Row α}, nearS O b (u ++ (a, s + t) :: (m ++ v)) = nearS O b (u ++ (a, s) :: (m ++ (a, t) :: v))
  | [] => by
    have hb' : ¬ a = b := fun e => hb e.symm
    show (if a = b then some (s + t) else if O.tc a b = true then none else nearS O b (m ++ v)) = (if a = b then some s else if O.tc a b = true then none else nearS O b (m ++ (a, t) :: v))
    rw [if_neg hb', if_neg hb']
    by_cases ht : O.tc a b = true
    · rw [if_pos ht, if_pos ht]
    · rw [if_neg ht, if_neg ht]
      by_cases hh : ∃ y ∈ m, O.tc y.1 b = true
      · rw [nearS_hit hh, nearS_hit hh]
      · have hn : ∀ y ∈ m, O.tc y.1 b = false := fun y hy => by
          cases e : O.tc y.1 b
          · rfl
          · exact absurd ⟨y, hy, e⟩ hh
        rw [nearS_apart hn, nearS_apart hn]
        show _ = (if a = b then some t else if O.tc a b = true then none else nearS O b v)
        rw [if_neg hb', if_neg ht]
  | y :: u => by
    rw [List.cons_append, List.cons_append, nearS, nearS, near_join hm hb]
theorem near_joinA {a : α} {s t : Int} {m v : Row α} : ∀ {u : Row α}, (nearS O a (u ++ (a, s) :: (m ++ (a, t) :: v)) = some s ∧ nearS O a (u ++ (a, s + t) :: (m ++ v)) = some (s + t)) ∨ nearS O a (u ++ (a, s) :: (m ++ (a, t) :: v)) = nearS O a (u ++ (a, s + t) :: (m ++ v))
  | [] => .inl ⟨by rw [List.nil_append, nearS, if_pos rfl], by rw [List.nil_append, nearS, if_pos rfl]⟩
  | y :: u => by
    rw [List.cons_append, List.cons_append, nearS, nearS]
    by_cases e : y.1 = a
    · rw [if_pos e, if_pos e]
      exact .inr rfl
    · rw [if_neg e, if_neg e]
      by_cases ht : O.tc y.1 a = true
      · rw [if_pos ht, if_pos ht]
        exact .inr rfl
      · rw [if_neg ht, if_neg ht]
        exact near_joinA
theorem nc_join0 {a : α} {t : Int} {v : Row α} : ∀ {m : Row α}, (∀ y ∈ m, O.tc y.1 a = false) → NC O W (m ++ (a, t) :: v) → NC O W (m ++ v) ∧ ∀ r, nearS O a v = some r → W.g a t r
  | [], _, h => ⟨h.2, h.1⟩
  | y :: m, hm, h => by
    have hy := hm y List.mem_cons_self
    have ih := nc_join0 (fun z hz => hm z (List.mem_cons_of_mem _ hz)) h.2
    refine ⟨⟨fun r e => h.1 r ?_, ih.1⟩, ih.2⟩
    rw [← e]
    show nearS O y.1 (m ++ (a, t) :: v) = nearS O y.1 (m ++ v)
    by_cases hh : ∃ z ∈ m, O.tc z.1 y.1 = true
    · rw [nearS_hit hh, nearS_hit hh]
    · have hn : ∀ z ∈ m, O.tc z.1 y.1 = false := fun z hz => by
        cases q : O.tc z.1 y.1
        · rfl
        · exact absurd ⟨z, hz, q⟩ hh
      have : O.tc a y.1 = false := apart_symm hy
      rw [nearS_apart hn, nearS_apart hn, nearS, if_neg (ne_of_apart this), if_neg (by rw [this]; decide)]
theorem nc_join {a : α} {s t : Int} {m v : Row α} (hm : ∀ y ∈ m, O.tc y.1 a = false) : ∀ {u : Row α}, NC O W (u ++ (a, s) :: (m ++ (a, t) :: v)) → NC O W (u ++ (a, s + t) :: (m ++ v)) ∧ W.g a s t
  | [], h => by
    have hst : W.g a s t := h.1 t (by
      show nearS O a (m ++ (a, t) :: v) = some t
      rw [nearS_apart hm, nearS, if_pos rfl])
    obtain ⟨h1, h2⟩ := nc_join0 hm h.2
    refine ⟨⟨fun r e => W.left a s t r hst (h2 r ?_), h1⟩, hst⟩
    have e : nearS O a (m ++ v) = some r := e
    rwa [nearS_apart hm] at e
  | y :: u, h => by
    obtain ⟨h1, h2⟩ := nc_join hm h.2
    refine ⟨⟨fun r e => ?_, h1⟩, h2⟩
    have e : nearS O y.1 (u ++ (a, s + t) :: (m ++ v)) = some r := e
    have h0 : ∀ r, nearS O y.1 (u ++ (a, s) :: (m ++ (a, t) :: v)) = some r → W.g y.1 y.2 r := h.1
    by_cases hb : y.1 = a
    · rw [hb] at e h0 ⊢
      rcases near_joinA (O := O) (a := a) (s := s) (t := t) (m := m) (v := v) (u := u) with ⟨q1, q2⟩ | q
      · rw [q2] at e
        cases e
        exact W.right a s t y.2 h2 (h0 s q1)
      · exact h0 r (q.trans e)
    · rw [near_join hm hb] at e
      exact h0 r e
/-- where all that comes together is let, the weight stays -/
theorem Wt.sum_nc : ∀ (n : Nat) (l : Row α), l.length = n → NZ l → NC O W l → W.sum (act O l []) = W.sum l := by
  intro n
  induction n using Nat.strongRecOn with
  | _ n ih =>
    intro l hl hz hn
    cases hm : met O l with
    | none =>
      have e := (pile_iff hz).mpr hm
      have := Wt.act_eq (W := W) (O := O) (l := l) (r := []) (by rw [e]; simp)
      simpa [Wt.sum] using this
    | some ij =>
      obtain ⟨u, a, s, m, t, v, rfl, _, _, h5⟩ := met_some hm
      have hs : s ≠ 0 := hz (a, s) (by simp)
      have ht : t ≠ 0 := hz (a, t) (by simp)
      obtain ⟨g1, g2⟩ := nc_join h5 hn
      have n0 := W.nz a s t g2
      rw [act_meet h5 hs ht hz.left (fun w hw => hz w (by simp [hw])) (show NF O [] from True.intro), if_neg n0]
      have z2 : NZ (u ++ (a, s + t) :: (m ++ v)) := fun x hx => by
        rcases List.mem_append.mp hx with h | h
        · exact hz x (by simp [h])
        · rcases List.mem_cons.mp h with h | h
          · rw [h]
            exact n0
          · rcases List.mem_append.mp h with h | h <;> exact hz x (by simp [h])
      rw [show u ++ ([(a, s + t)] ++ (m ++ v)) = u ++ (a, s + t) :: (m ++ v) from rfl, ih _ (by rw [← hl]; simp) _ rfl z2 g1]
      simp only [Wt.sum_app, Wt.sum]
      rw [W.add a s t g2]
      omega
/-! ### rows so many times -/
def rep (n : Nat) (l : Row α) : Row α := (List.replicate n l).flatten
theorem rep_zero {l : Row α} : rep 0 l = [] := rfl
theorem rep_succ {n : Nat} {l : Row α} : rep (n + 1) l = l ++ rep n l := by
  unfold rep
  rw [List.replicate_succ, List.flatten_cons]
theorem nz_rep {l : Row α} (h : NZ l) : ∀ n : Nat, NZ (rep n l)
  | 0 => fun _ hx => nomatch hx
  | n + 1 => by
    rw [rep_succ]
    exact h.app (nz_rep h n)
theorem Wt.sum_rep {l : Row α} : ∀ n : Nat, W.sum (rep n l) = n * W.sum l
  | 0 => by simp [rep, Wt.sum]
  | n + 1 => by
    rw [rep_succ, Wt.sum_app, Wt.sum_rep n, Nat.succ_mul, Nat.add_comm]
/-- rows that are alike stay so, so many times -/
theorem act_same {l m q : Row α} (zl : NZ l) (zm : NZ m) (h : act O l [] = act O m []) (hq : NF O q) : act O l q = act O m q := by
  rw [← act_self zl hq, h, act_self zm hq]
theorem act_rep {l m : Row α} (zl : NZ l) (zm : NZ m) (h : act O l [] = act O m []) : ∀ (n : Nat) {q : Row α}, NF O q → act O (rep n l) q = act O (rep n m) q
  | 0, q, _ => rfl
  | n + 1, q, hq => by
    rw [rep_succ, rep_succ, act_app, act_app, act_same zl zm h hq]
    exact act_rep zl zm h n (nf_act zm hq)
theorem act_conj {x u : Row α} (zx : NZ x) (zu : NZ u) : ∀ (n : Nat) {q : Row α}, NF O q → act O (rep n (x ++ (u ++ back x))) q = act O (x ++ (rep n u ++ back x)) q
  | 0, q, hq => by
    rw [rep_zero, rep_zero, act_nil, List.nil_append, act_app, act_back zx hq]
  | n + 1, q, hq => by
    have hc : NZ (x ++ (u ++ back x)) := zx.app (zu.app (back_nz zx))
    rw [rep_succ, act_app, act_conj zx zu n (nf_act hc hq), rep_succ]
    simp only [act_app]
    have h1 := nf_act zu (nf_act zx hq)
    have := act_back (O := O) (l := back x) (back_nz zx) h1
    rw [back_back] at this
    rw [this]
theorem Wt.sum_back {l : Row α} (hw : ∀ a t, W.w a (-t) = W.w a t) : W.sum (back l) = W.sum l := by
  unfold back
  rw [Wt.sum_rev]
  induction l with
  | nil => rfl
  | cons x l ih =>
    rw [List.map_cons, Wt.sum, Wt.sum, ih, hw]
/-- if all powers of a row keep its weight, a row that it is a turn of has no less -/
theorem weight_le {u v x y : Row α} (hw : ∀ a t, W.w a (-t) = W.w a t) (zx : NZ x) (zy : NZ y) (zu : NZ u) (zv : NZ v) (hp : ∀ n, W.sum (act O (rep n u) []) = n * W.sum u)
    (h : act O (x ++ (u ++ back x)) [] = act O (y ++ (v ++ back y)) []) : W.sum u ≤ W.sum v := by
  have n0 : NF O ([] : Row α) := True.intro
  have key : ∀ n, n * W.sum u ≤ n * W.sum v + (2 * W.sum x + 2 * W.sum y) := by
    intro n
    have e := act_rep (O := O) (zx.app (zu.app (back_nz zx))) (zy.app (zv.app (back_nz zy))) h n n0
    rw [act_conj zx zu n n0, act_conj zy zv n n0] at e
    have zr := nz_rep zu n
    -- the power of u, by what stands around it taken back
    have e2 : act O (rep n u) [] = act O (back x ++ ((act O (x ++ (rep n u ++ back x)) []).reverse ++ x)) [] := by
      have zc : NZ (x ++ (rep n u ++ back x)) := zx.app (zr.app (back_nz zx))
      have hb := nf_act (O := O) (back_nz zx) n0
      rw [act_app, act_app, act_self zc hb, act_app, act_app]
      have i1 := act_back (O := O) (l := back x) (r := []) (back_nz zx) n0
      rw [back_back] at i1
      rw [i1]
      have i2 := act_back (O := O) (l := back x) (r := act O (rep n u) []) (back_nz zx) (nf_act zr n0)
      rw [back_back] at i2
      exact i2.symm
    have b1 := hp n
    rw [e2, e] at b1
    have b2 := Wt.sum_act (W := W) (O := O) (l := back x ++ ((act O (y ++ (rep n v ++ back y)) []).reverse ++ x)) (r := [])
    have b3 := Wt.sum_act (W := W) (O := O) (l := y ++ (rep n v ++ back y)) (r := [])
    simp only [Wt.sum_app, Wt.sum_rev, Wt.sum_back hw, Wt.sum_rep, Wt.sum] at b2 b3
    omega
  rcases Nat.lt_or_ge (W.sum v) (W.sum u) with hl | hl
  · exfalso
    have k := key (2 * W.sum x + 2 * W.sum y + 1)
    have : (2 * W.sum x + 2 * W.sum y + 1) * (W.sum v + 1) ≤ (2 * W.sum x + 2 * W.sum y + 1) * W.sum u := Nat.mul_le_mul_left _ hl
    rw [Nat.mul_add, Nat.mul_one] at this
    omega
  · exact hl
/-! ### round piles -/
/-- no name has two pieces, one of which can stand first, and the other one last -/
structure Rnd (O : Ord α) (u : Row α) : Prop where
  pl : pl O u = true
  one : ∀ p x l, u = p ++ x :: l → (∀ w ∈ l, O.tc w.1 x.1 = false) → (nearS O x.1 u).isSome = true → ∀ w ∈ p, O.tc w.1 x.1 = false
theorem nc_rep {u : Row α} (hp : pl O u = true) (hR : ∀ p x l, u = p ++ x :: l → (∀ w ∈ l, O.tc w.1 x.1 = false) → ∀ t, nearS O x.1 u = some t → W.g x.1 x.2 t) : ∀ n : Nat, NC O W (rep n u)
  | 0 => True.intro
  | n + 1 => by
    have ih := nc_rep hp hR n
    rw [rep_succ]
    have suf : ∀ (l p : Row α), u = p ++ l → NC O W (l ++ rep n u) := by
      intro l
      induction l with
      | nil => exact fun p _ => ih
      | cons x l il =>
        intro p e
        refine ⟨fun t ht => ?_, il (p ++ [x]) (by rw [e]; simp)⟩
        have ht : nearS O x.1 (l ++ rep n u) = some t := ht
        by_cases hh : ∃ y ∈ l, O.tc y.1 x.1 = true
        · rw [nearS_hit hh] at ht
          have h2 : pl O (x :: l) = true := pl_right (u := p) (by rw [← e]; exact hp)
          unfold XM.pl at h2
          rw [Bool.and_eq_true] at h2
          have := nearS_none.mpr (Option.isNone_iff_eq_none.mp h2.1)
          rw [this] at ht
          cases ht
        · have hn : ∀ y ∈ l, O.tc y.1 x.1 = false := fun y hy => by
            cases q : O.tc y.1 x.1
            · rfl
            · exact absurd ⟨y, hy, q⟩ hh
          rw [nearS_apart hn] at ht
          cases n with
          | zero => cases ht
          | succ n =>
            rw [rep_succ, nearS_hit ⟨x, by rw [e]; simp, O.refl _⟩] at ht
            exact hR p x l e hn t ht
    exact suf u [] rfl
theorem sum_pow {u : Row α} (hz : NZ u) (hp : pl O u = true) (hR : ∀ p x l, u = p ++ x :: l → (∀ w ∈ l, O.tc w.1 x.1 = false) → ∀ t, nearS O x.1 u = some t → W.g x.1 x.2 t) (n : Nat) : W.sum (act O (rep n u) []) = n * W.sum u := by
  rw [Wt.sum_nc _ _ rfl (nz_rep hz n) (nc_rep hp hR n), Wt.sum_rep]
theorem rnd_same {u p l : Row α} {x : α × Int} {t : Int} (h : Rnd O u) (e : u = p ++ x :: l) (hl : ∀ w ∈ l, O.tc w.1 x.1 = false) (ht : nearS O x.1 u = some t) : t = x.2 ∧ ∀ w ∈ p, O.tc w.1 x.1 = false := by
  have hp := h.one p x l e hl (by rw [ht]; rfl)
  refine ⟨?_, hp⟩
  rw [e, nearS_apart hp, nearS, if_pos rfl] at ht
  exact (Option.some.inj ht).symm
theorem sq_pos {t : Int} (h : t ≠ 0) : 0 < t * t := by
  rcases Int.lt_or_gt_of_ne h with h | h
  · exact Int.mul_pos_of_neg_of_neg h h
  · exact Int.mul_pos h h
/-- of one sign -/
def Sg (s t : Int) : Prop := (0 < s ∧ 0 < t) ∨ (s < 0 ∧ t < 0)
/-- how many deeds of the names that are asked for there are -/
def WL (P : α → Bool) : Wt α where
  w := fun a t => if P a = true then t.natAbs else 0
  g := fun _ s t => Sg s t
  nz := fun _ s t h => by rcases h with h | h <;> omega
  add := fun a s t h => by
    split
    · rcases h with h | h <;> omega
    · rfl
  left := fun _ s t r h k => by
    rcases h with h | h <;> rcases k with k | k <;> first | (exact .inl ⟨by omega, by omega⟩) | (exact .inr ⟨by omega, by omega⟩) | (exfalso; omega)
  right := fun _ s t r h k => by
    rcases h with h | h <;> rcases k with k | k <;> first | (exact .inl ⟨by omega, by omega⟩) | (exact .inr ⟨by omega, by omega⟩) | (exfalso; omega)
  le := fun a s t => by split <;> omega
/-- how many pieces of a name there are -/
def WP (b : α) : Wt α where
  w := fun a _ => if a = b then 1 else 0
  g := fun a s t => Sg s t ∧ a ≠ b
  nz := fun _ s t h => by rcases h.1 with h | h <;> omega
  add := fun a s t h => by rw [if_neg h.2]
  left := fun _ s t r h k => ⟨by
    obtain ⟨h, _⟩ := h
    obtain ⟨k, _⟩ := k
    rcases h with h | h <;> rcases k with k | k <;> first | (exact .inl ⟨by omega, by omega⟩) | (exact .inr ⟨by omega, by omega⟩) | (exfalso; omega), h.2⟩
  right := fun _ s t r h k => ⟨by
    obtain ⟨h, _⟩ := h
    obtain ⟨k, _⟩ := k
    rcases h with h | h <;> rcases k with k | k <;> first | (exact .inl ⟨by omega, by omega⟩) | (exact .inr ⟨by omega, by omega⟩) | (exfalso; omega), h.2⟩
  le := fun a s t => by split <;> omega
/-- two rows that are turns of one another, steps ahead of each -/
def Turn (O : Ord α) (u v : Row α) : Prop := ∃ x y, NZ x ∧ NZ y ∧ act O (x ++ (u ++ back x)) [] = act O (y ++ (v ++ back y)) []
theorem Turn.symm {u v : Row α} (h : Turn O u v) : Turn O v u := by
  obtain ⟨x, y, zx, zy, e⟩ := h
  exact ⟨y, x, zy, zx, e.symm⟩
theorem turn_len {u v : Row α} (P : α → Bool) (hu : Rnd O u) (zu : NZ u) (zv : NZ v) (h : Turn O u v) : (WL P).sum u ≤ (WL P).sum v := by
  obtain ⟨x, y, zx, zy, e⟩ := h
  refine weight_le (fun a t => ?_) zx zy zu zv (sum_pow zu hu.pl fun p x l e hl t ht => ?_) e
  · show (if P a = true then (-t).natAbs else 0) = (if P a = true then t.natAbs else 0)
    rw [Int.natAbs_neg]
  · obtain ⟨e1, _⟩ := rnd_same hu e hl ht
    have : x.2 ≠ 0 := zu x (by rw [e]; simp)
    show Sg x.2 t
    rw [e1]
    rcases Int.lt_or_gt_of_ne this with q | q
    · exact .inr ⟨q, q⟩
    · exact .inl ⟨q, q⟩
theorem wp_none {b : α} : ∀ {l : Row α}, (∀ w ∈ l, O.tc w.1 b = false) → (WP b).sum l = 0
  | [], _ => rfl
  | y :: l, h => by
    have hy := ne_of_apart (h y List.mem_cons_self)
    show (if y.1 = b then 1 else 0) + (WP b).sum l = 0
    rw [if_neg hy, wp_none fun w hw => h w (List.mem_cons_of_mem _ hw)]
theorem turn_pc {u v : Row α} (b : α) (hu : Rnd O u) (zu : NZ u) (zv : NZ v) (h : Turn O u v) : (WP b).sum u ≤ (WP b).sum v := by
  by_cases h2 : 2 ≤ (WP b).sum u
  · obtain ⟨x, y, zx, zy, e⟩ := h
    refine weight_le (fun a t => rfl) zx zy zu zv (sum_pow zu hu.pl fun p x l e hl t ht => ?_) e
    obtain ⟨e1, hp⟩ := rnd_same hu e hl ht
    have hx : x.2 ≠ 0 := zu x (by rw [e]; simp)
    refine ⟨?_, fun eb => ?_⟩
    · rw [e1]
      rcases Int.lt_or_gt_of_ne hx with q | q
      · exact .inr ⟨q, q⟩
      · exact .inl ⟨q, q⟩
    · rw [eb] at hp hl
      rw [e, Wt.sum_app, wp_none hp] at h2
      have : (WP b).sum (x :: l) = 1 := by
        show (if x.1 = b then 1 else 0) + (WP b).sum l = 1
        rw [if_pos eb, wp_none hl]
      omega
  · by_cases h0 : (WP b).sum u = 0
    · omega
    · -- one piece: there is one over there, too
      have hl := turn_len (fun a => decide (a = b)) hu zu zv h
      have pos : ∀ {l : Row α}, NZ l → ((WP b).sum l = 0 ↔ (WL fun a => decide (a = b)).sum l = 0) := by
        intro l
        induction l with
        | nil => exact fun _ => ⟨fun _ => rfl, fun _ => rfl⟩
        | cons y l ih =>
          intro hz
          have i := ih fun w hw => hz w (List.mem_cons_of_mem _ hw)
          have hy := hz y List.mem_cons_self
          show (if y.1 = b then 1 else 0) + (WP b).sum l = 0 ↔ (if decide (y.1 = b) = true then y.2.natAbs else 0) + (WL fun a => decide (a = b)).sum l = 0
          by_cases e : y.1 = b
          · rw [if_pos e, if_pos (decide_eq_true e)]
            constructor <;> intro q <;> omega
          · rw [if_neg e, if_neg (by simpa using e)]
            rw [Nat.zero_add, Nat.zero_add]
            exact i
      have k1 : (WL fun a => decide (a = b)).sum u ≠ 0 := fun q => h0 ((pos zu).mpr q)
      have k2 : (WP b).sum v ≠ 0 := fun q => by
        have := (pos zv).mp q
        omega
      omega
theorem wp_count {b : α} : ∀ {l : Row α}, (WP b).sum l = (l.map (·.1)).count b
  | [] => rfl
  | y :: l => by
    show (if y.1 = b then 1 else 0) + (WP b).sum l = _
    rw [wp_count, List.map_cons, List.count_cons]
    by_cases e : y.1 = b
    · rw [if_pos e, if_pos (by simpa using e), Nat.add_comm]
    · rw [if_neg e, if_neg (by simpa using e), Nat.zero_add, Nat.add_zero]
/-- round piles that are turns of one another have as many pieces, of the same names, and the same length -/
theorem turn_same {u v : Row α} (hu : Rnd O u) (hv : Rnd O v) (zu : NZ u) (zv : NZ v) (h : Turn O u v) : u.length = v.length ∧ ((u.map (·.1)).Perm (v.map (·.1))) ∧ (WL fun _ => true).sum u = (WL fun _ => true).sum v := by
  have pm : (u.map (·.1)).Perm (v.map (·.1)) := List.perm_iff_count.mpr fun b => by
    have h1 := turn_pc b hu zu zv h
    have h2 := turn_pc b hv zv zu h.symm
    rw [wp_count, wp_count] at h1 h2
    omega
  have l1 := pm.length_eq
  rw [List.length_map, List.length_map] at l1
  exact ⟨l1, pm, Nat.le_antisymm (turn_len _ hu zu zv h) (turn_len _ hv zv zu h.symm)⟩
end
end XM
set_option linter.all false
/-! distances of rows: the length of what leads from one to another -/
namespace XM
section
variable {α : Type} [DecidableEq α] {O : Ord α}
/-- the length of a row -/
def ln (l : Row α) : Nat := (WL fun _ => true).sum l
theorem ln_app (l m : Row α) : ln (l ++ m) = ln l + ln m := Wt.sum_app
theorem ln_rev (l : Row α) : ln l.reverse = ln l := Wt.sum_rev
theorem ln_back (l : Row α) : ln (back l) = ln l := Wt.sum_back fun a t => by
  show (if (true : Bool) = true then (-t).natAbs else 0) = if (true : Bool) = true then t.natAbs else 0
  rw [Int.natAbs_neg]
theorem ln_act {l : Row α} : ln (act O l []) ≤ ln l := by
  have := Wt.sum_act (O := O) (W := WL fun _ => true) (l := l) (r := [])
  exact this
theorem ln_pile {l : Row α} (hz : NZ l) (h : pl O l = true) : ln (act O l []) = ln l := by
  have e := (pile_iff hz).mpr (met_pl.mpr h)
  have := Wt.act_eq (O := O) (W := WL fun _ => true) (l := l) (r := []) (by rw [e]; rfl)
  exact this
theorem ln_zero {l : Row α} (hz : NZ l) : ln l = 0 ↔ l = [] := by
  cases l with
  | nil => exact ⟨fun _ => rfl, fun _ => rfl⟩
  | cons x r =>
    refine ⟨fun h => ?_, fun h => nomatch h⟩
    have hx := hz x List.mem_cons_self
    have : ln (x :: r) = x.2.natAbs + ln r := rfl
    omega
theorem back_app (l m : Row α) : back (l ++ m) = back m ++ back l := by
  unfold back
  rw [List.map_append, List.reverse_append]
theorem pl_back {l : Row α} (h : pl O l = true) : pl O (back l) = true := by
  unfold back
  exact pl_rev (by rw [pl_map (g := fun x => (x.1, -x.2)) fun _ => rfl]; exact h)
/-- what takes a row back is as long -/
theorem ln_act_back {l : Row α} (hz : NZ l) : ln (act O (back l) []) = ln (act O l []) := by
  have n0 : NF O ([] : Row α) := True.intro
  have hn := nf_act (O := O) hz n0
  have hw : NZ (act O l []).reverse := fun x hx => nf_nz hn x (List.mem_reverse.mp hx)
  have e : act O (act O l []).reverse [] = act O l [] := act_self hz n0
  rw [act_back_eq hz hw e.symm n0, ln_pile (back_nz hw) (pl_back (pl_nf hn)), ln_back, ln_rev]
/-- how far one row is from another -/
def far (O : Ord α) (l m : Row α) : Nat := ln (act O (back l ++ m) [])
theorem far_symm {l m : Row α} (zl : NZ l) (zm : NZ m) : far O l m = far O m l := by
  unfold far
  rw [← ln_act_back ((back_nz zl).app zm), back_app, back_back]
theorem act_bk {l q : Row α} (zl : NZ l) (hq : NF O q) : act O l (act O (back l) q) = q := by
  have := act_back (O := O) (r := q) (back_nz zl) hq
  rwa [back_back] at this
theorem far_tri {l m n : Row α} (zl : NZ l) (zm : NZ m) (zn : NZ n) : far O l n ≤ far O l m + far O m n := by
  have n0 : NF O ([] : Row α) := True.intro
  have z1 := (back_nz zl).app zm
  have z2 := (back_nz zm).app zn
  have f1 := nf_act (O := O) z1 n0
  have e : act O ((act O (back l ++ m) []).reverse ++ (act O (back m ++ n) []).reverse) [] = act O (back l ++ n) [] := by
    rw [act_app, act_self z1 n0, act_self z2 f1]
    rw [act_app, act_app, act_app, act_back zm (nf_act (back_nz zl) n0)]
  unfold far
  rw [← e]
  refine Nat.le_trans ln_act ?_
  rw [ln_app, ln_rev, ln_rev]
  exact Nat.le_refl _
theorem far_zero {l m : Row α} (zl : NZ l) (zm : NZ m) : far O l m = 0 ↔ act O l [] = act O m [] := by
  have n0 : NF O ([] : Row α) := True.intro
  have z1 := (back_nz zl).app zm
  have f1 := nf_act (O := O) z1 n0
  unfold far
  rw [ln_zero (nf_nz f1)]
  have fq := nf_act (O := O) (back_nz zl) n0
  constructor
  · intro h
    rw [act_app] at h
    have h1 : act O (back m) [] = act O (back l) [] := by
      have := act_back (O := O) (r := act O (back l) []) zm fq
      rw [h] at this
      exact this
    have := act_back_eq (back_nz zl) (back_nz zm) h1.symm n0
    rwa [back_back, back_back] at this
  · intro h
    rw [act_app, ← act_same zl zm h fq]
    exact act_bk zl n0
theorem far_self {l : Row α} (zl : NZ l) : far O l l = 0 := (far_zero zl zl).mpr rfl
/-- the same ahead of both -/
theorem far_ahead {x l m : Row α} (zx : NZ x) (zl : NZ l) : far O (x ++ l) (x ++ m) = far O l m := by
  have n0 : NF O ([] : Row α) := True.intro
  unfold far
  have : act O (back (x ++ l) ++ (x ++ m)) [] = act O (back l ++ m) [] := by
    rw [back_app, act_app, act_app, act_app, act_app, act_bk zx (nf_act (back_nz zl) n0)]
  rw [this]
theorem far_nil {m : Row α} : far O [] m = ln (act O m []) := rfl
theorem far_piles {l m : Row α} (zl : NZ l) (zm : NZ m) : far O (act O l []).reverse (act O m []).reverse = far O l m := by
  have n0 : NF O ([] : Row α) := True.intro
  have hl := nf_act (O := O) zl n0
  have zl' : NZ (act O l []).reverse := fun x hx => nf_nz hl x (List.mem_reverse.mp hx)
  unfold far
  rw [act_app, act_app, act_back_eq zl' zl (act_self zl n0) n0, act_self zm (nf_act (back_nz zl) n0)]
theorem pl_tail {x : α × Int} {r : Row α} (h : pl O (x :: r) = true) : pl O r = true := pl_right (u := [x]) h
theorem pl_times {a : α} {s t : Int} {r : Row α} (h : pl O ((a, s) :: r) = true) : pl O ((a, t) :: r) = true := h
/-- a unit of the first piece of what leads from one to the other -/
def sg (t : Int) : Int := if 0 < t then 1 else -1
theorem act_join1 {v q : Row α} {a : α} {s t : Int} (hs : s ≠ 0) (ht : t ≠ 0) (hN : NF O q) : act O ((a, s) :: (a, t) :: v) q = act O ((if s + t = 0 then [] else [(a, s + t)]) ++ v) q := by
  have := act_meet (O := O) (a := a) (s := s) (t := t) (u := []) (m := []) (v := v) (r := q) (fun _ h => nomatch h) hs ht (fun _ h => nomatch h) (fun _ h => nomatch h) hN
  rw [List.nil_append, List.nil_append] at this
  rw [this]
  split <;> rfl
theorem far_part {l m w' : Row α} {a : α} {t : Int} (zl : NZ l) (zm : NZ m) (h : (act O (back l ++ m) []).reverse = (a, t) :: w') : far O l (l ++ [(a, sg t)]) = 1 ∧ far O (l ++ [(a, sg t)]) m + 1 = far O l m := by
  have n0 : NF O ([] : Row α) := True.intro
  have z1 := (back_nz zl).app zm
  have f1 := nf_act (O := O) z1 n0
  have hp := pl_nf f1
  have hz : NZ (act O (back l ++ m) []).reverse := fun x hx => nf_nz f1 x (List.mem_reverse.mp hx)
  rw [h] at hp hz
  have ht : t ≠ 0 := hz (a, t) List.mem_cons_self
  have hs : sg t ≠ 0 := by unfold sg; split <;> decide
  have ze : NZ [(a, sg t)] := fun x hx => by rw [List.mem_singleton.mp hx]; exact hs
  constructor
  · have := far_ahead (O := O) (x := l) (l := []) (m := [(a, sg t)]) zl (fun _ h => nomatch h)
    rw [List.append_nil] at this
    rw [this, far_nil, ln_pile ze (by simp [pl, near])]
    show (sg t).natAbs + 0 = 1
    unfold sg
    by_cases q : 0 < t
    · rw [if_pos q]; rfl
    · rw [if_neg q]; rfl
  · have e0 : ln (act O (back l ++ m) []) = t.natAbs + ln w' := by
      rw [← ln_rev, h]
      rfl
    have e1 : act O (back (l ++ [(a, sg t)]) ++ m) [] = act O ((a, -(sg t)) :: (a, t) :: w') [] := by
      have g1 : act O ((a, -(sg t)) :: (a, t) :: w') [] = act O ((a, t) :: w') (act O [(a, -(sg t))] []) := rfl
      have hq : NF O (act O [(a, -(sg t))] []) := nf_act (fun x hx => by rw [List.mem_singleton.mp hx]; show -(sg t) ≠ 0; omega) n0
      rw [g1, ← h, act_self z1 hq, back_app, List.append_assoc, act_app]
      rfl
    have e2 := act_join1 (O := O) (v := w') (q := []) (a := a) (s := -(sg t)) (t := t) (by omega) ht n0
    unfold far
    rw [e0, e1, e2]
    by_cases q : -(sg t) + t = 0
    · rw [if_pos q, List.nil_append, ln_pile (fun x hx => hz x (List.mem_cons_of_mem _ hx)) (pl_tail hp)]
      have : t.natAbs = 1 := by
        unfold sg at q
        split at q <;> omega
      omega
    · rw [if_neg q]
      have z3 : NZ ((a, -(sg t) + t) :: w') := fun x hx => by
        rcases List.mem_cons.mp hx with e | e
        · rw [e]; exact q
        · exact hz x (List.mem_cons_of_mem _ e)
      show ln (act O ((a, -(sg t) + t) :: w') []) + 1 = _
      rw [ln_pile z3 (pl_times hp)]
      have : ln ((a, -(sg t) + t) :: w') = (-(sg t) + t).natAbs + ln w' := rfl
      rw [this]
      unfold sg at *
      split at * <;> omega
end
end XM
set_option Elab.async false
set_option linter.all false
set_option maxRecDepth 100000
set_option maxHeartbeats 4000000
namespace XB
open PySem PySem.Spec PyProof.Rows L2
theorem len_ln : ∀ l : List (Str × Int), lenOf l = (XM.ln l : Nat)
  | [] => rfl
  | s :: l => by
    have h := len_ln l
    unfold lenOf at h ⊢
    rw [List.map_cons, List.sum_cons, h]
    show (if s.2 < 0 then -s.2 else s.2) + _ = (((if (true : Bool) = true then s.2.natAbs else 0) + XM.ln l : Nat) : Int)
    rw [if_pos rfl]
    split <;> omega
theorem len_far {F : Fld} {l m : List (Str × Int)} : lenOf (XM.act (OF F) (XM.back l ++ m) []).reverse = (XM.far (OF F) l m : Nat) := by
  rw [len_ln, XM.ln_rev]
  rfl
theorem act_len1 {F : Fld} {l : List (Str × Int)} : (XM.act (OF F) l []).reverse.length ≤ l.length := by
  rw [List.length_reverse]
  exact act_len0
section
variable {P : Program} {w : World} {K : PySem.W.Frag} {mg : Str → Option Value} {base : Heap}
def spLeading (K : PySem.W.Frag) (F : Fld) : Sp := fun vs H Q _ => ∃ (t d e : Addr) (l m : List (Str × Int)), vs = [.ref t, .ref d, .ref e] ∧ TouchAt K H t F ∧ F.Ok ∧ Dp K H (.ref d) (dSteps l) ∧ Dp K H (.ref e) (dSteps m) ∧ l.length + m.length ≤ 400 ∧ Names F l ∧ Names F m ∧
  ∀ H' r, Same H H' → Dp K H' (.ref r) (dSteps (XM.act (OF F) (XM.back l ++ m) []).reverse) → Q (.ref r) H'
theorem c_leading (T : Tx K mg) (F : Fld) : Cl P w K mg base CX0 3 "leading" (spLeading K F) := by
  refine cl0 T.d_leading (ps := ["touch", "one", "other"]) (fun _ _ _ _ _ _ us hl => match us, hl with | [_, _, _], _ => rfl) sc_leading (fun vs H Q E h => ?_) (fun fa cdv A outer st H vs Q E hr h => ?_)
  · obtain ⟨t, d, e, l, m, rfl, _⟩ := h
    rfl
  · obtain ⟨t, d, e, l, m, rfl, hT, ok, hL, hM, hl, nl, nm, q⟩ := h
    have nd := sc_leading.nd
    refine ⟨_, (pss_one (ps_ret (pe_k (c_piled T F) hr (by decide) (by rfl) (pa_cons (pv 0) (pa_cons (pe_op (op_catAk (K := K) rfl) (pe_k (c_back T) hr (by decide) (by rfl) (pa_cons (pv 1) pa_nil)) (pv 2)) pa_nil))))), ?_⟩
    refine ⟨_, rfl, _, rfl, d, l, rfl, hL, by omega, fun H1 r s1 h1 => ⟨_, rfl, catD h1 (tS hM s1) (by rw [len_back]; omega) fun H2 p s2 h2 => ?_⟩⟩
    have s12 := s1.trans s2
    obtain ⟨_, xs, ex, hxS, hxD⟩ := h2.steps
    cases ex
    exact ⟨t, p, xs, _, rfl, hT.same s12, ok, hxS, hxD, by rw [List.length_append, len_back]; omega, fun z hz => (List.mem_append.mp hz).elim (names_back nl z) (nm z), fun H3 r3 s3 h3 => q H3 r3 (s12.trans s3) h3⟩
def spDistOf (K : PySem.W.Frag) (F : Fld) : Sp := fun vs H Q _ => ∃ (t d e : Addr) (l m : List (Str × Int)), vs = [.ref t, .ref d, .ref e] ∧ TouchAt K H t F ∧ F.Ok ∧ Dp K H (.ref d) (dSteps l) ∧ Dp K H (.ref e) (dSteps m) ∧ l.length + m.length ≤ 400 ∧ Names F l ∧ Names F m ∧
  ∀ H', Same H H' → Q (.int (XM.far (OF F) l m : Nat)) H'
theorem c_distance_of (T : Tx K mg) (F : Fld) : Cl P w K mg base CX0 4 "distance_of" (spDistOf K F) := by
  refine cl0 T.d_distance_of (ps := ["touch", "one", "other"]) (fun _ _ _ _ _ _ us hl => match us, hl with | [_, _, _], _ => rfl) sc_distance_of (fun vs H Q E h => ?_) (fun fa cdv A outer st H vs Q E hr h => ?_)
  · obtain ⟨t, d, e, l, m, rfl, _⟩ := h
    rfl
  · obtain ⟨t, d, e, l, m, rfl, hT, ok, hL, hM, hl, nl, nm, q⟩ := h
    have nd := sc_distance_of.nd
    refine ⟨_, (pss_one (ps_ret (pe_k (c_length_of T) hr (by decide) (by rfl) (pa_cons (pe_k (c_leading T F) hr (by decide) (by rfl) (pa_cons (pv 0) (pa_cons (pv 1) (pa_cons (pv 2) pa_nil)))) pa_nil)))), ?_⟩
    refine ⟨_, rfl, _, rfl, _, rfl, t, d, e, l, m, rfl, hT, ok, hL, hM, hl, nl, nm, fun H1 r s1 h1 => ?_⟩
    obtain ⟨_, xs, ex, hxS, hxD⟩ := h1.steps
    cases ex
    have := act_len1 (F := F) (l := XM.back l ++ m)
    rw [List.length_append, len_back] at this
    refine ⟨r, xs, _, rfl, hxS, hxD, by omega, fun H2 s2 => ?_⟩
    rw [len_far]
    exact q H2 (s1.trans s2)
end
end XB
set_option Elab.async false
set_option linter.all false
set_option maxRecDepth 100000
set_option maxHeartbeats 4000000
/-! sorted(xs): alike data, in a list or a tuple, of any length; tuples of which the first is empty, too -/
namespace XSo
open PySem PySem.Spec PySem.W PySem.SeqAt PySem.Calls PyProof.Rows
section
variable {prog : Program} {w : World} {A : Around} {s : Shared} {E : Value → Shared → Prop}
theorem call_tuple_lt {Q : Value → Shared → Prop} {l b : Addr} {items items2 : Array Value} {e r : Nat → Bool} (hl : s.heap.IsTuple l items) (hb : s.heap.IsTuple b items2)
    (he : ∀ j (h1 : j < items.size) (h2 : j < items2.size), EqAt A.in1 s items[j] items2[j] (e j)) (hr : ∀ j (h1 : j < items.size) (h2 : j < items2.size), e j = false → RcLt A.in1 s items[j] items2[j] (r j))
    (h : Q (.bool (firstLt e r (decide (items.size < items2.size)) (List.range (min items.size items2.size)))) s) : wpAny (model prog w) A (call (.builtin "tuple.__lt__") [.ref l, .ref b]) Q E s := by
  obtain ⟨⟨cls, dd, data, sl⟩, ho, hc, n, hd⟩ := id hl
  obtain ⟨⟨cls2, dd2, data2, sl2⟩, ho2, hc2, n2, hd2⟩ := id hb
  simp only at hc hd hc2 hd2
  subst hc hd hc2 hd2
  exact call_meets F.slot_tuple_lt ⟨_, ho, rfl⟩ F.entry_tuple_lt (F.args_tuple_lt_2 _ _) (tuple_ltAt l b items items2 n n2 dd dd2 sl sl2 e r) ⟨ho, ho2, he, hr, h⟩
theorem oneLt_tuple {xs ys : List PyData} {a b : Value} {as bs : List Addr} {Q : Bool → Shared → Prop} (ra : Reads s.heap a (.tuple xs) as) (rb : Reads s.heap b (.tuple ys) bs) (hal : alikeAll xs ys = true)
    (hu : A.units + min (PyData.tuple xs).depth (PyData.tuple ys).depth < cLine) (hq : Q (dataLt (.tuple xs) (.tuple ys)) s) : wpAny (model prog w) A (oneLt' true a b) Q E s := by
  cases ra with
  | @tuple l o vs n _ as₁ h1 h2 h3 h4 =>
    cases rb with
    | @tuple l' o' vs' n' _ bs₁ k1 k2 k3 k4 =>
      have n1 : vs.size = xs.length := by simpa using ReadsAll.length _ _ _ h4
      have n2 : vs'.size = ys.length := by simpa using ReadsAll.length _ _ _ k4
      rw [dataLt_tuple, ← firstLt_toks xs ys hal, ← n1, ← n2] at hq
      rw [oneLt'_eq]
      simp only [if_true]
      refine wpAny_bind (wpAny_cRoomFor (room_here hu) ?_)
      refine wpAny_bind (wpAny_callSpecialIfBound?_slot (T := "tuple") ⟨_, h1, h2⟩ F.slot_tuple_lt (call_tuple_lt (e := pairEq xs ys) (r := fun j => dataLt (xs.getD j .none) (ys.getD j .none)) ⟨_, h1, h2, _, h3⟩ ⟨_, k1, k2, _, k3⟩ (fun j j1 j2 => ?_) (fun j j1 j2 hj => ?_) ?_))
      · have := eqAt_alikeAll xs ys A.in1 s vs.toList vs'.toList _ _ h4 k4 hal (room_in hu) j (by simpa using j1) (by simpa using j2)
        simpa using this
      · have := rcLt_alikeAll xs ys A.in1 s vs.toList vs'.toList _ _ h4 k4 hal (room_in hu) j (by simpa using j1) (by simpa using j2) hj
        simpa using this
      · exact wpAny_truthy_bool hq
/-- what sorting asks of a value first -/
def gFirst (h : Heap) : Value → Option Value
  | .ref a => match h.get? a with
    | some o => match o.data with
      | .seq xs _ => xs[0]?
      | _ => none
    | none => none
  | _ => none
theorem first_at {xs : List PyData} {a : Value} {as : List Addr} {Q : Option Value → Shared → Prop} (r : Reads s.heap a (.tuple xs) as) (h : Q (gFirst s.heap a) s) : wpAny (model prog w) A (firstOfTuple' a) Q E s := by
  cases r with
  | @tuple l o vs n _ as₁ h1 h2 h3 h4 =>
    have e : gFirst s.heap (.ref l) = vs[0]? := by
      simp only [gFirst, h1, h3]
    rw [e] at h
    rw [kas_first_eq]
    refine wpAny_bind (wpAny_typeOf (T := "tuple") ⟨o, h1, h2⟩ ?_)
    rw [if_neg (by decide)]
    exact wpAny_bind (listItems_at h1 h3 (wpAny_pure h))
theorem first_nil {a : Value} {as : List Addr} (r : Reads s.heap a (.tuple []) as) : gFirst s.heap a = none := by
  cases r with
  | @tuple l o vs n _ as₁ h1 h2 h3 h4 =>
    have n1 : vs.size = 0 := by simpa using ReadsAll.length _ _ _ h4
    simp only [gFirst, h1, h3]
    exact Array.getElem?_eq_none (by omega)
theorem mapM_firsts : ∀ (l : List Value) {Q : List (Option Value) → Shared → Prop}, (∀ v ∈ l, ∀ (Q' : Option Value → Shared → Prop), Q' (gFirst s.heap v) s → wpAny (model prog w) A (firstOfTuple' v) Q' E s) → Q (l.map (gFirst s.heap)) s → wpAny (model prog w) A (l.mapM firstOfTuple') Q E s
  | [], _, _, h => by rw [List.mapM_nil]; exact wpAny_pure h
  | x :: l, Q, hf, h => by
    rw [List.mapM_cons]
    exact wpAny_bind (hf x (.head _) _ (wpAny_bind (mapM_firsts l (Q := fun bs s' => wpAny (model prog w) A (pure (gFirst s.heap x :: bs)) Q E s') (fun v hv => hf v (.tail _ hv)) (wpAny_pure h))))
theorem kind_mixed {v : Value} {vs : List Value} {Q : SortKind → Shared → Prop} (hT : ∀ u ∈ v :: vs, ∃ xs as, Reads s.heap u (.tuple xs) as) (h0 : gFirst s.heap v = none) (h : Q oneType' s) : wpAny (model prog w) A (keyKind' (v :: vs).toArray) Q E s := by
  rw [keyKind'_eq, List.mapM_toArray, map_eq_pure_bind]
  refine wpAny_bind (wpAny_bind (mapM_firsts _ (fun u hu Q' hq => ?_) (wpAny_pure ?_)))
  · obtain ⟨xs, as, r⟩ := hT u hu
    exact first_at r hq
  · rw [if_neg (by simp [h0]), if_neg (by simp [h0])]
    rw [oneTypeOnly'_eq, List.mapM_toArray, map_eq_pure_bind]
    refine wpAny_bind (wpAny_bind (wpAny_bind (kas_mapM (r := Value.type "tuple") _ (fun u hu Q' hq => ?_) (wpAny_pure ?_))))
    · obtain ⟨xs, as, r⟩ := hT u hu
      exact (looks_reads r).here hq
    · have hall : ((List.map (fun _ => Value.type "tuple") (v :: vs)).toArray.all fun x => x == Value.type "tuple") = true := by
        simp only [List.all_toArray, List.all_map, List.all_eq_true]
        intro _ _
        exact beq_self_eq_true _
      have h0 : (List.map (fun _ => Value.type "tuple") (v :: vs)).toArray[0]? = some (Value.type "tuple") := by simp
      rw [h0]
      simp only [hall, if_true]
      exact wpAny_pure (wpAny_pure h)
/-- tuples of which the first is empty can be sorted -/
theorem sorts_mixed {vs : List Value} {ds : List PyData} (e : EachIs (fun v d => ∃ as, Reads s.heap v d as) vs (.tuple [] :: ds)) (ht : ∀ d ∈ ds, ∃ xs, d = .tuple xs) (hal : AllAlike (.tuple [] :: ds)) (hu : ∀ d, d ∈ PyData.tuple [] :: ds → A.units + d.depth < cLine) :
    SortsAt prog w A s (dataKind s.heap (.tuple [] :: ds)) vs := by
  have ht' : ∀ d ∈ PyData.tuple [] :: ds, ∃ xs, d = .tuple xs := fun d hd => by
    rcases List.mem_cons.mp hd with h | h
    · exact ⟨[], h⟩
    · exact ht d h
  have room : ∀ {d d' : PyData}, d ∈ PyData.tuple [] :: ds → A.units + min d.depth d'.depth < cLine := fun {d d'} hd => Nat.lt_of_le_of_lt (Nat.add_le_add_left (Nat.min_le_left _ _) _) (hu d hd)
  refine ⟨fun v hv => ?_, oneType', ?_, fun h2 E Q hq => ?_⟩
  · obtain ⟨d, hd, as, r⟩ := e.left v hv
    exact ⟨_, dataKind_some hal hd r⟩
  · intro E x y a b Q ha hb hq
    obtain ⟨d, as, hd, ra, rfl⟩ := dataKind_inv ha
    obtain ⟨d', as', hd', rb, rfl⟩ := dataKind_inv hb
    have hdd := hal d hd d' hd'
    have hr := room (d' := d') hd
    obtain ⟨xs, rfl⟩ := ht' d hd
    obtain ⟨ys, rfl⟩ := ht' d' hd'
    rw [keyLt'_oneType]
    exact oneLt_tuple ra rb (by simpa [alike] using hdd) hr hq
  · cases e with
    | cons h t =>
      obtain ⟨as, r⟩ := h
      refine kind_mixed (fun u hu => ?_) (first_nil r) hq
      rcases List.mem_cons.mp hu with q | q
      · rw [q]
        exact ⟨_, _, r⟩
      · obtain ⟨d, hd, as, r⟩ := t.left u q
        obtain ⟨xs, rfl⟩ := ht d hd
        exact ⟨_, _, r⟩
theorem collect_tuple {l : Addr} {vs : List Value} {Q : List Value → Shared → Prop} (hl : s.heap.IsTuple l vs.toArray)
    (h : Q vs { s with heap := (s.heap.push (seqObj "list" #[] 0)).update s.heap.objs.size (Obj.mapSeq (· ++ vs.toArray)) }) (hsz : vs.length ≤ sizeLine) :
    wpAny (model prog w) A (collect (.ref l)) Q E s := by
  obtain ⟨o, ho, hc, n, hd⟩ := id hl
  unfold collect
  refine wpAny_bind (wpAny_runValue (codeAny_builtin entry_proto_collect' ?_))
  show wpAny _ _ (do again (.builtin "list.__iadd__" ⟨[← newList [], .ref l], []⟩)) _ _ s
  refine wpAny_bind (wpAny_newList (wpAny_pure ⟨Code.quiet_builtin _ (by decide +kernel), codeAny_builtin entry_list_iadd' ?_⟩))
  show wpAny _ _ (Builtin.List.listExtendWith (.ref s.heap.objs.size) (.ref l) (.ref s.heap.objs.size)) _ _ { s with heap := s.heap.push (seqObj "list" #[] 0) }
  unfold Builtin.List.listExtendWith
  have ho' : (s.heap.push (seqObj "list" #[] 0)).get? l = some o := Heap.get?_push_of_some _ ho
  refine wpAny_bind (wpAny_typeOf (T := "tuple") ⟨o, ho', hc⟩ ?_)
  have ht : (Value.type "tuple" == Value.type "tuple") = true := by rfl
  rw [if_pos (by rw [ht]; simp)]
  refine wpAny_bind (listItems_at ho' hd ?_)
  refine wpAny_bind (listItems_at (xs := #[]) (n := 0) (Heap.get?_push_size _ rfl) rfl ?_)
  rw [if_neg (by simp)]
  refine wpAny_bind (listUpdate_at (xs := #[]) (n := 0) (Heap.get?_push_size _ rfl) rfl ?_ (Nat.zero_le _) (by show (#[] ++ vs.toArray).size ≤ sizeLine + 1; simp only [Array.size_append, List.size_toArray, List.length_nil]; omega))
  refine wpAny_pure ?_
  show wpAny (model prog w) A (do
      let o ← load s.heap.objs.size
      match o.data with
      | .seq xs _ => pure xs.toList
      | _ => unsupported "internal:collect") Q E { s with heap := (s.heap.push (seqObj "list" #[] 0)).update s.heap.objs.size (Obj.mapSeq (· ++ vs.toArray)) }
  refine wpAny_bind (wpAny_load (get?_update_seq (Heap.get?_push_size _ rfl) _) ?_)
  show wpAny _ _ (pure ((#[] : Array Value) ++ vs.toArray).toList) Q E _
  rw [show ((#[] : Array Value) ++ vs.toArray).toList = vs by simp]
  exact wpAny_pure h
theorem sorted_valsT {κ : PyProof.Rows.KeyKind} {l : Addr} {vs : List Value} {Q : Value → Shared → Prop} (hl : s.heap.IsTuple l vs.toArray) (S : SortsAt prog w A.in1.in1 { s with heap := sortingHeap (copyHeap s.heap vs) (s.heap.objs.size + 1) vs } κ vs) (hL : vs.length ≤ sizeLine)
    (h : Q (.ref (s.heap.objs.size + 1)) { s with heap := sortedAll s.heap vs (sortVals κ false vs vs).toArray }) : wpAny (model prog w) A (call (.builtin "sorted") [.ref l]) Q E s := by
  refine call_function_entry_kw kind_sorted plain_sorted entry_sorted (args_sorted1 _) ?_
  unfold Builtin.«sorted»
  refine wpAny_bind (m := checkCount "sorted" 1 1 _) (wpAny_pure ?_)
  refine wpAny_bind (collect_tuple hl ?_ hL)
  refine wpAny_bind (wpAny_newList ?_ hL)
  have hsz : ((s.heap.push (seqObj "list" #[] 0)).update s.heap.objs.size (Obj.mapSeq (· ++ vs.toArray))).objs.size = s.heap.objs.size + 1 := by
    rw [Heap.size_update, size_push']
  show wpAny _ _ _ _ _ { s with heap := copyHeap s.heap vs }
  rw [hsz]
  refine wpAny_bind (wpAny_holding (wpAny_call_entry_kw slot_list_sort ⟨_, copyHeap_at s.heap vs, rfl⟩ entry_list_sort ?body (args_list_sort _)))
  case body =>
    show wpAny (model prog w) A.in1.in1 (Builtin.«list.sort» ⟨[.ref (s.heap.objs.size + 1)], []⟩) _ _ _
    refine wpAny_mono (list_sort_vals (P := fun f s' => f = .done (.ret .none) ∧ Q (.ref (s.heap.objs.size + 1)) s') (s := { s with heap := copyHeap s.heap vs }) (copyHeap_at s.heap vs) S hL ⟨rfl, h⟩) (fun f s' hf => ?_) fun _ _ e => e
    obtain ⟨rfl, hq⟩ := hf
    exact ⟨_, rfl, wpAny_pure ⟨_, rfl, hq⟩⟩
end
end XSo
namespace XB
open PySem PySem.Spec PyProof.Rows L2
/-- alike data that can be sorted -/
structure SortOkD (ds : List PyData) : Prop where
  al : PySem.W.AllAlike ds
  so : PySem.W.Sortable ds ∨ ∃ ds', ds = .tuple [] :: ds' ∧ ∀ d ∈ ds', ∃ xs, d = .tuple xs
  dp : ∀ d ∈ ds, d.depth ≤ 60
/-- the data in their order -/
def sortD (ds : List PyData) : List PyData := ds.mergeSort (PySem.W.dataLe false id)
def rSortedD (K : PySem.W.Frag) : List V → Hp → VK → Prop := fun vs H Q => ∃ (a : Addr) (ys : List V) (ds : List PyData), vs = [.ref a] ∧ (SqL K H a ys ∨ SqT K H a ys) ∧ DpAll K H ys ds ∧ SortOkD ds ∧
  ∀ p zs, H p = none → DpAll K H zs (sortD ds) → Q (.ref p) (upd H p (.lst zs))
theorem each_zip {K : PySem.W.Frag} {H : Hp} : ∀ {its : List Value} {ys : List V} {ds : List PyData}, Vals ys its → DpAll K H ys ds → PySem.W.EachIs (fun v (b : V × PyData) => RelV b.1 v ∧ Dp K H b.1 b.2) its (ys.zip ds)
  | _, _, _, .nil, .nil => .nil
  | _, _, _, .cons r rs, .cons d dd => .cons ⟨r, d⟩ (each_zip rs dd)
theorem zip_snd {K : PySem.W.Frag} {H : Hp} : ∀ {ys : List V} {ds : List PyData}, DpAll K H ys ds → (ys.zip ds).map Prod.snd = ds
  | _, _, .nil => rfl
  | _, _, .cons d dd => by
    rw [List.zip_cons_cons, List.map_cons, zip_snd dd]
theorem each_back {K : PySem.W.Frag} {H : Hp} : ∀ {out : List Value} {bs : List (V × PyData)}, PySem.W.EachIs (fun v (b : V × PyData) => RelV b.1 v ∧ Dp K H b.1 b.2) out bs → Vals (bs.map Prod.fst) out ∧ DpAll K H (bs.map Prod.fst) (bs.map Prod.snd)
  | _, _, .nil => ⟨.nil, .nil⟩
  | _, _, .cons ⟨r, d⟩ t => ⟨.cons r (each_back t).1, .cons d (each_back t).2⟩
theorem each_zipR {K : PySem.W.Frag} {H : Hp} {R : Value → PyData → Prop} : ∀ {its : List Value} {ys : List V} {ds : List PyData}, DpAll K H ys ds → PySem.W.EachIs R its ds → PySem.W.EachIs (fun v (b : V × PyData) => R v b.2) its (ys.zip ds)
  | _, _, _, .nil, .nil => .nil
  | _, _, _, .cons _ dd, .cons r rs => .cons r (each_zipR dd rs)
theorem cr_sortedD {X : Cx} {K : PySem.W.Frag} (hk : X.K = K) (hu : X.A.units + 65 < cLine) : CallR X (.builtin "sorted") (rSortedD K) := by
  subst hk
  intro pins s σ H vs us Q I r h
  obtain ⟨a, ys, ds, rfl, hs, hD, hok, q⟩ := h
  rw [Vals.ref1 r]
  have main : ∀ its : List Value, Vals ys its → its.length ≤ sizeLine → (∀ {κ : PyProof.Rows.KeyKind} {Q' : Value → Shared → Prop}, PySem.W.SortsAt X.prog X.w X.A.in1.in1 { s with heap := PySem.W.sortingHeap (PySem.W.copyHeap s.heap its) (s.heap.objs.size + 1) its } κ its →
      Q' (.ref (s.heap.objs.size + 1)) { s with heap := PyProof.Rows.sortedAll s.heap its (PySem.W.sortVals κ false its its).toArray } → wpAny (model X.prog X.w) X.A (call (.builtin "sorted") [.ref a]) Q' X.xe s) →
      wpAny (model X.prog X.w) X.A (call (.builtin "sorted") [.ref a]) (EP X pins σ Q) X.xe s := fun its rv hz run => by
    obtain ⟨as, ra⟩ := Dp.readsAll I ds ys its hD rv
    have e0 : PySem.W.EachIs (fun v d => ∃ as, Reads s.heap v d as) its ds := by
      have := PySem.W.readsAll_each (h := s.heap) id (bs := ds) (vs := its) (as := as) (by rw [List.map_id]; exact ra)
      exact this
    have e1 : PySem.W.EachIs (fun v d => ∃ as, Reads (PySem.W.sortingHeap (PySem.W.copyHeap s.heap its) (s.heap.objs.size + 1) its) v d as) its ds := e0.mono fun _ _ ⟨as, r⟩ => ⟨as, PyProof.Rows.Reads.keeps (fun _ _ => PySem.W.sorting_copy_old) r⟩
    have hz1 := zip_snd hD
    have er := each_zipR hD e1
    have hal := hok.al
    rw [← hz1] at hal
    have eo := PySem.W.sortVals_data (enc := Prod.snd) false (each_zip rv hD) er hal
    rw [hz1] at eo
    obtain ⟨hv, hd⟩ := each_back eo
    have hs : ((ys.zip ds).mergeSort (PySem.W.dataLe false Prod.snd)).map Prod.snd = sortD ds := by
      have h := List.map_mergeSort (r := PySem.W.dataLe false Prod.snd) (s := PySem.W.dataLe false id) (f := Prod.snd) (l := ys.zip ds) (fun _ _ _ _ => rfl)
      rw [hz1] at h
      exact h
    rw [hs] at hd
    generalize ((ys.zip ds).mergeSort (PySem.W.dataLe false Prod.snd)).map Prod.fst = zs at hv hd
    have S : PySem.W.SortsAt X.prog X.w X.A.in1.in1 { s with heap := PySem.W.sortingHeap (PySem.W.copyHeap s.heap its) (s.heap.objs.size + 1) its } (PySem.W.dataKind (PySem.W.sortingHeap (PySem.W.copyHeap s.heap its) (s.heap.objs.size + 1) its) ds) its := by
      have hb : ∀ d ∈ ds, X.A.in1.in1.units + d.depth < cLine := fun d hd => by
        have := hok.dp d hd
        show X.A.units + 2 + d.depth < cLine
        omega
      rcases hok.so with q | ⟨ds', rfl, ht⟩
      · exact PySem.W.SortsAt.data (s := { s with heap := PySem.W.sortingHeap (PySem.W.copyHeap s.heap its) (s.heap.objs.size + 1) its }) e1 hok.al q hb
      · exact XSo.sorts_mixed (s := { s with heap := PySem.W.sortingHeap (PySem.W.copyHeap s.heap its) (s.heap.objs.size + 1) its }) e1 ht hok.al hb
    refine run S ?_
    generalize PySem.W.sortVals _ false its its = out at hv ⊢
    obtain ⟨ep, he'⟩ := PyProof.Rows.sortedAll_at s.heap its out.toArray
    have hlen : zs.length ≤ sizeLine := by
      have l1 := hd.len
      have l2 := hD.len
      have l3 := rv.length
      unfold sortD at l1
      rw [List.length_mergeSort] at l1
      omega
    exact ⟨.ref _, upd H (s.heap.objs.size + 1) (.lst zs), I.laid (t' := s.toks) (fun _ _ => PyProof.Rows.sortedAll_old) (Nat.le_succ _) ⟨hlen, out, ep, hv, he'⟩, rfl, q _ zs (I.hok.fresh (Nat.le_succ _)) hd⟩
  rcases hs with hs | hs
  · obtain ⟨its, rv, hl, hz⟩ := I.list hs
    exact main its rv (by rw [← rv.length]; exact hz) fun S h => PySem.W.sorted_vals hl.isList S (by rw [← rv.length]; exact hz) h
  · obtain ⟨its, rv, hl, hz⟩ := I.tuple hs
    exact main its rv (by rw [← rv.length]; exact hz) fun S h => XSo.sorted_valsT hl S (by rw [← rv.length]; exact hz) h
end XB
set_option linter.all false
/-! lower parts of rows, what two have in common, and middles: by lengths alone -/
namespace XM
section
variable {α : Type} [DecidableEq α] {O : Ord α}
/-- the length of the pile of a row -/
def gl (O : Ord α) (l : Row α) : Nat := ln (act O l [])
theorem gl_le {l : Row α} : gl O l ≤ ln l := ln_act
theorem n00 : NF O ([] : Row α) := True.intro
theorem nz0 : NZ ([] : Row α) := fun _ h => nomatch h
theorem nz1 {x : α × Int} (h : x.2 ≠ 0) : NZ [x] := fun y hy => by rw [List.mem_singleton.mp hy]; exact h
theorem nzc {x : α × Int} {l : Row α} (h : x.2 ≠ 0) (z : NZ l) : NZ (x :: l) := fun y hy => (List.mem_cons.mp hy).elim (fun e => by rw [e]; exact h) (z y)
theorem nzt {x : α × Int} {l : Row α} (z : NZ (x :: l)) : NZ l := fun y hy => z y (List.mem_cons_of_mem _ hy)
theorem gl_congr {l m : Row α} (h : act O l [] = act O m []) : gl O l = gl O m := by unfold gl; rw [h]
theorem gl_app {u v : Row α} (zu : NZ u) (zv : NZ v) : gl O (u ++ v) ≤ gl O u + gl O v := by
  have h := far_tri (O := O) (l := back u) (m := []) (n := v) (back_nz zu) nz0 zv
  unfold far at h
  rw [back_back, List.append_nil] at h
  exact h
theorem gl_cons {x : α × Int} {l : Row α} (hx : x.2 ≠ 0) (zl : NZ l) : gl O (x :: l) ≤ x.2.natAbs + gl O l := by
  have h := gl_app (O := O) (nz1 hx) zl
  have h2 : gl O [x] ≤ ln [x] := gl_le
  have e : ln [x] = x.2.natAbs + 0 := rfl
  have e2 : [x] ++ l = x :: l := rfl
  rw [e2] at h
  omega
theorem eq_app {u u' v v' : Row α} (zu' : NZ u') (zv : NZ v) (zv' : NZ v') (h1 : act O u [] = act O u' []) (h2 : act O v [] = act O v' []) : act O (u ++ v) [] = act O (u' ++ v') [] := by
  rw [act_app, act_app, h1, act_same zv zv' h2 (nf_act zu' n00)]
theorem gl_back {l : Row α} (hz : NZ l) : gl O (back l) = gl O l := ln_act_back hz
theorem gl_zero {l : Row α} (zl : NZ l) (h : gl O l = 0) : act O l [] = [] := (ln_zero (nf_nz (nf_act (O := O) zl n00))).mp h
/-- the row of the pile -/
def pile (O : Ord α) (l : Row α) : Row α := (act O l []).reverse
theorem pile_nz {l : Row α} (zl : NZ l) : NZ (pile O l) := fun x hx => nf_nz (nf_act (O := O) zl n00) x (List.mem_reverse.mp hx)
theorem pile_pl {l : Row α} (zl : NZ l) : pl O (pile O l) = true := pl_nf (nf_act zl n00)
theorem pile_act {l : Row α} (zl : NZ l) {q : Row α} (hq : NF O q) : act O (pile O l) q = act O l q := act_self zl hq
theorem pile_ln {l : Row α} : ln (pile O l) = gl O l := ln_rev _
theorem pile_gl {l : Row α} (zl : NZ l) : gl O (pile O l) = ln (pile O l) := by
  rw [pile_ln]
  exact gl_congr (pile_act zl n00)
/-! ### rows in which nothing vanishes -/
abbrev Nc (O : Ord α) (l : Row α) : Prop := NC O (WL fun _ => true) l
theorem nc_red {l : Row α} (zl : NZ l) (h : Nc O l) : gl O l = ln l := Wt.sum_nc _ l rfl zl h
theorem nearS_split {a : α} {t : Int} : ∀ {r : Row α}, nearS O a r = some t → ∃ m v, r = m ++ (a, t) :: v ∧ ∀ w ∈ m, O.tc w.1 a = false
  | [], h => nomatch h
  | y :: r, h => by
    unfold nearS at h
    by_cases e : y.1 = a
    · rw [if_pos e] at h
      refine ⟨[], r, ?_, fun _ h => nomatch h⟩
      rw [← e, ← Option.some.inj h]
      rfl
    · rw [if_neg e] at h
      by_cases ht : O.tc y.1 a = true
      · rw [if_pos ht] at h
        cases h
      · rw [if_neg ht] at h
        obtain ⟨m, v, rfl, hm⟩ := nearS_split h
        exact ⟨y :: m, v, rfl, fun w hw => (List.mem_cons.mp hw).elim (fun e => by rw [e]; exact Bool.eq_false_iff.mpr ht) (hm w)⟩
theorem red_nc : ∀ {l : Row α}, NZ l → gl O l = ln l → Nc O l
  | [], _, _ => True.intro
  | x :: l, zl, h => by
    have hx : x.2 ≠ 0 := zl x List.mem_cons_self
    have zt := nzt zl
    have h1 := gl_cons (O := O) hx zt
    have h2 := gl_le (O := O) (l := l)
    have e : ln (x :: l) = x.2.natAbs + ln l := rfl
    refine ⟨fun t ht => ?_, red_nc zt (by omega)⟩
    obtain ⟨m, v, rfl, hm⟩ := nearS_split ht
    have h0 : t ≠ 0 := zt (x.1, t) (by simp)
    refine Classical.byContradiction fun hn => ?_
    have hn : ¬ Sg x.2 t := hn
    have zm : NZ m := zt.left
    have m1 := act_meet (O := O) (u := []) (m := m) (v := v) (a := x.1) (s := x.2) (t := t) (r := []) hm hx h0 nz0 zm n00
    have m1 : act O (x :: (m ++ (x.1, t) :: v)) [] = act O ((if x.2 + t = 0 then [] else [(x.1, x.2 + t)]) ++ (m ++ v)) [] := m1
    have m2 := gl_congr m1
    have m3 : gl O ((if x.2 + t = 0 then [] else [(x.1, x.2 + t)]) ++ (m ++ v)) ≤ (x.2 + t).natAbs + (ln m + ln v) := by
      refine Nat.le_trans gl_le ?_
      rw [ln_app, ln_app]
      by_cases q : x.2 + t = 0
      · rw [if_pos q, q]
        exact Nat.le_refl _
      · rw [if_neg q]
        exact Nat.le_refl _
    have e2 : ln (m ++ (x.1, t) :: v) = ln m + (t.natAbs + ln v) := ln_app _ _
    have : (x.2 + t).natAbs < x.2.natAbs + t.natAbs := by
      unfold Sg at hn
      omega
    omega
/-! ### units that can stand first -/
def Un (s : Int) : Prop := s = 1 ∨ s = -1
theorem Un.ne {s : Int} (h : Un s) : s ≠ 0 := by rcases h with h | h <;> omega
theorem Un.neg {s : Int} (h : Un s) : Un (-s) := by rcases h with h | h <;> simp [Un, h]
theorem Un.abs {s : Int} (h : Un s) : s.natAbs = 1 := by rcases h with h | h <;> simp [h]
theorem sg_un (t : Int) : Un (sg t) := by
  unfold sg
  split
  · exact .inl rfl
  · exact .inr rfl
def Frt (O : Ord α) (a : α) (s : Int) (l : Row α) : Prop := gl O ((a, -s) :: l) + 1 = gl O l
theorem act_cancel {a : α} {s : Int} {l q : Row α} (hs : s ≠ 0) (hq : NF O q) : act O ((a, s) :: (a, -s) :: l) q = act O l q := by
  rw [act_join1 (O := O) (v := l) hs (by omega) hq, if_pos (by omega)]
  rfl
theorem act_cancel2 {a : α} {s : Int} {l q : Row α} (hs : s ≠ 0) (hq : NF O q) : act O ((a, -s) :: (a, s) :: l) q = act O l q := by
  rw [act_join1 (O := O) (v := l) (by omega) hs hq, if_pos (by omega)]
  rfl
theorem cons_congr {x : α × Int} {l m : Row α} (hx : x.2 ≠ 0) (zl : NZ l) (zm : NZ m) (h : act O l [] = act O m []) : act O (x :: l) [] = act O (x :: m) [] :=
  eq_app (u := [x]) (u' := [x]) (nz1 hx) zl zm rfl h
theorem frt_congr {a : α} {s : Int} {l m : Row α} (hs : Un s) (zl : NZ l) (zm : NZ m) (h : act O l [] = act O m []) : Frt O a s l ↔ Frt O a s m := by
  unfold Frt
  rw [gl_congr h, gl_congr (cons_congr (x := (a, -s)) hs.neg.ne zl zm h)]
/-- one unit ahead changes the length by one -/
theorem unit_low {a : α} {s : Int} {l : Row α} (hs : Un s) (zl : NZ l) : gl O l ≤ gl O ((a, -s) :: l) + 1 := by
  have h := gl_cons (O := O) (x := (a, s)) (l := (a, -s) :: l) hs.ne (nzc hs.neg.ne zl)
  rw [gl_congr (act_cancel hs.ne n00)] at h
  have := hs.abs
  have : (a, s).2.natAbs = 1 := this
  omega
theorem unit_high {a : α} {s : Int} {l : Row α} (hs : Un s) (zl : NZ l) : gl O ((a, s) :: l) ≤ gl O l + 1 := by
  have h := gl_cons (O := O) (x := (a, s)) (l := l) hs.ne zl
  have : (a, s).2.natAbs = 1 := hs.abs
  omega
theorem frt_of {a : α} {s : Int} {l : Row α} (zl : NZ l) (h : gl O l = ln l) (hn : nearS O a l = some s) : Frt O a (sg s) l := by
  obtain ⟨m, v, rfl, hm⟩ := nearS_split hn
  have hs : s ≠ 0 := zl (a, s) (by simp)
  have hu := sg_un s
  have m1 := act_meet (O := O) (u := []) (m := m) (v := v) (a := a) (s := -(sg s)) (t := s) (r := []) hm hu.neg.ne hs nz0 zl.left n00
  have m1 : act O ((a, -(sg s)) :: (m ++ (a, s) :: v)) [] = act O ((if -(sg s) + s = 0 then [] else [(a, -(sg s) + s)]) ++ (m ++ v)) [] := m1
  have m2 := gl_congr m1
  have m3 : gl O ((if -(sg s) + s = 0 then [] else [(a, -(sg s) + s)]) ++ (m ++ v)) ≤ (-(sg s) + s).natAbs + (ln m + ln v) := by
    refine Nat.le_trans gl_le ?_
    rw [ln_app, ln_app]
    by_cases q : -(sg s) + s = 0
    · rw [if_pos q, q]
      exact Nat.le_refl _
    · rw [if_neg q]
      exact Nat.le_refl _
  have e2 : ln (m ++ (a, s) :: v) = ln m + (s.natAbs + ln v) := ln_app _ _
  have e3 : (-(sg s) + s).natAbs + 1 = s.natAbs := by
    unfold sg
    split <;> omega
  have := unit_low (O := O) (a := a) hu zl
  unfold Frt
  omega
theorem frt_iff {a : α} {s : Int} {l : Row α} (zl : NZ l) (h : gl O l = ln l) (hs : Un s) : Frt O a s l ↔ ∃ t, nearS O a l = some t ∧ sg t = s := by
  refine ⟨fun hf => ?_, fun ⟨t, ht, e⟩ => by rw [← e]; exact frt_of zl h ht⟩
  refine Classical.byContradiction fun hn => ?_
  have nc : Nc O ((a, -s) :: l) := ⟨fun t ht => by
    have h0 : t ≠ 0 := by
      obtain ⟨m, v, e, _⟩ := nearS_split ht
      exact zl (a, t) (by rw [e]; simp)
    have hq : sg t ≠ s := fun e => hn ⟨t, ht, e⟩
    show Sg (-s) t
    unfold sg at hq
    unfold Sg
    rcases hs with q | q <;> subst q <;> split at hq <;> omega, red_nc zl h⟩
  have e := nc_red (nzc hs.neg.ne zl) nc
  have e2 : ln ((a, -s) :: l) = (-s).natAbs + ln l := rfl
  have := hs.neg.abs
  unfold Frt at hf
  omega
theorem unit_or {a : α} {s : Int} {l : Row α} (hs : Un s) (zl : NZ l) : Frt O a s l ∨ gl O ((a, -s) :: l) = gl O l + 1 := by
  rcases Classical.em (Frt O a s l) with h | h
  · exact .inl h
  · refine .inr ?_
    have zp := pile_nz (O := O) zl
    have ep := pile_act (O := O) zl (q := []) n00
    have hr := pile_gl (O := O) zl
    have nc : Nc O ((a, -s) :: pile O l) := ⟨fun t ht => by
      have h0 : t ≠ 0 := by
        obtain ⟨m, v, e, _⟩ := nearS_split ht
        exact zp (a, t) (by rw [e]; simp)
      have hq : sg t ≠ s := fun e => h ((frt_congr hs zp zl ep).mp ((frt_iff zp hr hs).mpr ⟨t, ht, e⟩))
      show Sg (-s) t
      unfold sg at hq
      unfold Sg
      rcases hs with q | q <;> subst q <;> split at hq <;> omega, red_nc zp hr⟩
    have e := nc_red (nzc hs.neg.ne zp) nc
    have e2 : ln ((a, -s) :: pile O l) = (-s).natAbs + ln (pile O l) := rfl
    have := hs.neg.abs
    rw [gl_congr (cons_congr (x := (a, -s)) hs.neg.ne zp zl ep), pile_ln] at *
    omega
/-- what is not empty has a unit that can stand first -/
theorem frt_ex {l : Row α} (zl : NZ l) (h : gl O l ≠ 0) : ∃ a s, Un s ∧ Frt O a s l := by
  have zp := pile_nz (O := O) zl
  have ep := pile_act (O := O) zl (q := []) n00
  have hr := pile_gl (O := O) zl
  have hl := pile_ln (O := O) (l := l)
  cases hp : pile O l with
  | nil =>
    rw [hp] at hl
    exact absurd hl.symm h
  | cons x r =>
    refine ⟨x.1, sg x.2, sg_un _, (frt_congr (sg_un _) zp zl ep).mp (frt_of zp hr ?_)⟩
    rw [hp]
    unfold nearS
    rw [if_pos rfl]
theorem frt_sign {a : α} {s t : Int} {l : Row α} (hs : Un s) (ht : Un t) (zl : NZ l) (h1 : Frt O a s l) (h2 : Frt O a t l) : s = t := by
  have zp := pile_nz (O := O) zl
  have ep := pile_act (O := O) zl (q := []) n00
  have hr := pile_gl (O := O) zl
  obtain ⟨u, e1, r1⟩ := (frt_iff zp hr hs).mp ((frt_congr hs zl zp ep.symm).mp h1)
  obtain ⟨v, e2, r2⟩ := (frt_iff zp hr ht).mp ((frt_congr ht zl zp ep.symm).mp h2)
  rw [e1] at e2
  cases e2
  rw [← r1, ← r2]
theorem nearS_out {a b : α} {t : Int} {w B : Row α} (hab : O.tc b a = false) (hB : ∀ y ∈ B, y.1 = b) {m : Row α} : nearS O a (m ++ (B ++ w)) = nearS O a (m ++ (b, t) :: w) := by
  rcases Classical.em (∃ y ∈ m, O.tc y.1 a = true) with h | h
  · rw [nearS_hit h, nearS_hit h]
  · have hm : ∀ y ∈ m, O.tc y.1 a = false := fun y hy => Bool.eq_false_iff.mpr fun q => h ⟨y, hy, q⟩
    rw [nearS_apart hm, nearS_apart hm, nearS_apart fun y hy => by rw [hB y hy]; exact hab]
    exact (nearS_apart (m := [(b, t)]) fun y hy => by rw [List.mem_singleton.mp hy]; exact hab).symm
/-- two units that can stand first are apart, and stay so -/
theorem frt_two {a b : α} {s t : Int} {l : Row α} (hs : Un s) (ht : Un t) (zl : NZ l) (hab : a ≠ b) (h1 : Frt O a s l) (h2 : Frt O b t l) : O.tc a b = false ∧ Frt O a s ((b, -t) :: l) := by
  have zp := pile_nz (O := O) zl
  have ep := pile_act (O := O) zl (q := []) n00
  have hr := pile_gl (O := O) zl
  obtain ⟨u, e1, r1⟩ := (frt_iff zp hr hs).mp ((frt_congr hs zl zp ep.symm).mp h1)
  obtain ⟨v, e2, r2⟩ := (frt_iff zp hr ht).mp ((frt_congr ht zl zp ep.symm).mp h2)
  have hapart : O.tc a b = false := by
    obtain ⟨m, w, em, hm⟩ := nearS_split e1
    rw [em] at e2
    rcases Classical.em (∃ y ∈ m, O.tc y.1 b = true) with h | h
    · rw [nearS_hit h] at e2
      obtain ⟨m1, m2, e3, _⟩ := nearS_split e2
      have := hm (b, v) (by rw [e3]; simp)
      exact apart_symm this
    · rw [nearS_apart fun y hy => Bool.eq_false_iff.mpr fun q => h ⟨y, hy, q⟩] at e2
      unfold nearS at e2
      rw [if_neg hab] at e2
      by_cases q : O.tc a b = true
      · rw [if_pos q] at e2
        cases e2
      · exact Bool.eq_false_iff.mpr q
  refine ⟨hapart, ?_⟩
  obtain ⟨m, w, em, hm⟩ := nearS_split e2
  have hv : v ≠ 0 := zp (b, v) (by rw [em]; simp)
  have zm : NZ m := by
    rw [em] at zp
    exact zp.left
  have zw : NZ w := by
    rw [em] at zp
    exact nzt zp.right
  have m1 := act_meet (O := O) (u := []) (m := m) (v := w) (a := b) (s := -t) (t := v) (r := []) hm ht.neg.ne hv nz0 zm n00
  have m1 : act O ((b, -t) :: (m ++ (b, v) :: w)) [] = act O ((if -t + v = 0 then [] else [(b, -t + v)]) ++ (m ++ w)) [] := m1
  -- the very row, the piece left where it was
  have m2 : act O (m ++ ((if -t + v = 0 then [] else [(b, -t + v)]) ++ w)) [] = act O ((if -t + v = 0 then [] else [(b, -t + v)]) ++ (m ++ w)) [] := by
    by_cases q : -t + v = 0
    · rw [if_pos q]
      rfl
    · rw [if_neg q]
      exact act_move (O := O) (u := []) (p := m) (v := w) (x := (b, -t + v)) hm nz0 zm n00
  have zB : NZ (m ++ ((if -t + v = 0 then [] else [(b, -t + v)]) ++ w)) := zm.app (NZ.app (by
    by_cases q : -t + v = 0
    · rw [if_pos q]
      exact nz0
    · rw [if_neg q]
      exact nz1 q) zw)
  have zc : NZ ((b, -t) :: pile O l) := nzc ht.neg.ne zp
  have e5 : act O (m ++ ((if -t + v = 0 then [] else [(b, -t + v)]) ++ w)) [] = act O ((b, -t) :: l) [] := by
    rw [m2, ← m1, ← em]
    exact cons_congr (x := (b, -t)) ht.neg.ne zp zl ep
  have e6 : ln (m ++ ((if -t + v = 0 then [] else [(b, -t + v)]) ++ w)) + 1 = gl O l := by
    have k1 : ln (pile O l) = ln m + (v.natAbs + ln w) := by rw [em]; exact ln_app _ _
    rw [pile_ln] at k1
    rw [ln_app, ln_app]
    by_cases q : -t + v = 0
    · rw [if_pos q]
      have : ln ([] : Row α) = 0 := rfl
      have := ht.abs
      have e8 : v = t := by omega
      rw [e8] at k1
      omega
    · rw [if_neg q]
      have k2 : ln [(b, -t + v)] = (-t + v).natAbs + 0 := rfl
      have : (-t + v).natAbs + 1 = v.natAbs := by
        rw [← r2] at q ⊢
        unfold sg at q ⊢
        split at q <;> omega
      omega
  have e7 : gl O (m ++ ((if -t + v = 0 then [] else [(b, -t + v)]) ++ w)) = ln (m ++ ((if -t + v = 0 then [] else [(b, -t + v)]) ++ w)) := by
    have := gl_congr e5
    unfold Frt at h2
    omega
  refine (frt_congr hs zB (nzc ht.neg.ne zl) e5).mp ((frt_iff zB e7 hs).mpr ⟨u, ?_, r1⟩)
  rw [nearS_out (t := v) (apart_symm hapart) (by
    intro y hy
    by_cases q : -t + v = 0
    · rw [if_pos q] at hy
      cases hy
    · rw [if_neg q] at hy
      rw [List.mem_singleton.mp hy]), ← em]
  exact e1
/-- a unit that can stand first still can, behind one that is apart -/
theorem frt_cons {a b : α} {s t : Int} {l : Row α} (hs : Un s) (ht : Un t) (zl : NZ l) (hab : O.tc a b = false) (h : Frt O a s l) (hg : gl O ((b, t) :: l) = gl O l + 1) : Frt O a s ((b, t) :: l) := by
  have e : act O ((a, -s) :: (b, t) :: l) [] = act O ((b, t) :: (a, -s) :: l) [] := act_swap (O := O) (u := []) (x := (a, -s)) (y := (b, t)) (v := l) (r := []) hab nz0 n00
  have h1 := unit_high (O := O) (a := b) ht (nzc (x := (a, -s)) hs.neg.ne zl)
  have h2 := unit_low (O := O) (a := a) hs (nzc (x := (b, t)) ht.ne zl)
  have h3 := gl_congr e
  unfold Frt at h ⊢
  omega
end
end XM
set_option linter.all false
/-! the greatest lower part that two rows have in common is the only one; middles -/
namespace XM
section
variable {α : Type} [DecidableEq α] {O : Ord α}
theorem back_cons {x : α × Int} {l : Row α} : back (x :: l) = back l ++ [(x.1, -x.2)] := by
  unfold back
  rw [List.map_cons, List.reverse_cons]
def Low (O : Ord α) (c p : Row α) : Prop := gl O c + gl O (back c ++ p) = gl O p
def Cm (O : Ord α) (c p q : Row α) : Prop := Low O c p ∧ Low O c q ∧ ∀ a s, Un s → Frt O a s (back c ++ p) → Frt O a s (back c ++ q) → False
theorem act_part {c p q : Row α} (zc : NZ c) (hq : NF O q) : act O (c ++ (back c ++ p)) q = act O p q := by
  rw [act_app, act_app, act_back zc hq]
theorem act_part2 {c p q : Row α} (zc : NZ c) (hq : NF O q) : act O (back c ++ (c ++ p)) q = act O p q := by
  rw [act_app, act_app, act_bk zc hq]
theorem act_step {a : α} {s : Int} {c p : Row α} (hs : s ≠ 0) (zc : NZ c) : act O (back ((a, -s) :: c) ++ (a, -s) :: p) [] = act O (back c ++ p) [] := by
  have e : back ((a, -s) :: c) ++ (a, -s) :: p = back c ++ ((a, s) :: (a, -s) :: p) := by
    rw [back_cons, List.append_assoc]
    show back c ++ ((a, -(-s)) :: (a, -s) :: p) = _
    rw [Int.neg_neg]
  rw [e, act_app, act_cancel hs (nf_act (back_nz zc) n00), act_app]
theorem low_part {c p : Row α} (zc : NZ c) (zp : NZ p) : gl O p ≤ gl O c + gl O (back c ++ p) := by
  have h := gl_app (O := O) zc ((back_nz zc).app zp)
  rw [gl_congr (act_part zc n00)] at h
  exact h
theorem low_frt {a : α} {s : Int} {c p : Row α} (hs : Un s) (zc : NZ c) (zp : NZ p) (h : Low O c p) (hf : Frt O a s c) : Frt O a s p := by
  have z1 : NZ ((a, -s) :: c) := nzc hs.neg.ne zc
  have h1 := gl_app (O := O) z1 ((back_nz zc).app zp)
  have e : act O ((a, -s) :: c ++ (back c ++ p)) [] = act O ((a, -s) :: p) [] := by
    show act O (c ++ (back c ++ p)) (ins O (a, -s) []) = act O p (ins O (a, -s) [])
    exact act_part zc (nf_ins (x := (a, -s)) hs.neg.ne n00)
  rw [gl_congr e] at h1
  have h2 := unit_low (O := O) (a := a) hs zp
  unfold Frt Low at *
  omega
theorem low_step {a : α} {s : Int} {c p : Row α} (hs : Un s) (zc : NZ c) (zp : NZ p) (h : Low O c p) (hf : Frt O a s c) : Low O ((a, -s) :: c) ((a, -s) :: p) := by
  have hp := low_frt hs zc zp h hf
  unfold Low
  rw [gl_congr (act_step hs.ne zc)]
  unfold Frt Low at *
  omega
theorem cm_step {a : α} {s : Int} {c p q : Row α} (hs : Un s) (zc : NZ c) (zp : NZ p) (zq : NZ q) (h : Cm O c p q) (hf : Frt O a s c) : Cm O ((a, -s) :: c) ((a, -s) :: p) ((a, -s) :: q) := by
  have z1 : NZ (back ((a, -s) :: c)) := back_nz (nzc hs.neg.ne zc)
  refine ⟨low_step hs zc zp h.1 hf, low_step hs zc zq h.2.1 hf, fun b t ht h1 h2 => h.2.2 b t ht ?_ ?_⟩
  · exact (frt_congr ht (z1.app (nzc hs.neg.ne zp)) ((back_nz zc).app zp) (act_step hs.ne zc)).mp h1
  · exact (frt_congr ht (z1.app (nzc hs.neg.ne zq)) ((back_nz zc).app zq) (act_step hs.ne zc)).mp h2
theorem back_zero {c p : Row α} (zc : NZ c) (zp : NZ p) (h : gl O c = 0) : act O (back c ++ p) [] = act O p [] := by
  have e : act O (back c) [] = [] := gl_zero (back_nz zc) (by rw [gl_back zc]; exact h)
  rw [act_app, e]
/-- a unit that stands first in the whole, and not in a lower part, stands first in what is left -/
theorem frt_left : ∀ (n : Nat) {a : α} {s : Int} {c p : Row α}, gl O c = n → Un s → NZ c → NZ p → Low O c p → Frt O a s p → ¬ Frt O a s c → Frt O a s (back c ++ p)
  | 0, a, s, c, p, hn, hs, zc, zp, h, hp, hc => (frt_congr hs ((back_nz zc).app zp) zp (back_zero zc zp hn)).mpr hp
  | n + 1, a, s, c, p, hn, hs, zc, zp, h, hp, hc => by
    obtain ⟨b, t, ht, hb⟩ := frt_ex (O := O) zc (by omega)
    have hbp := low_frt ht zc zp h hb
    have hab : a ≠ b := fun e => by
      subst e
      have := frt_sign hs ht zp hp hbp
      subst this
      exact hc hb
    obtain ⟨hap, hp1⟩ := frt_two hs ht zp hab hp hbp
    have z1 : NZ ((b, -t) :: c) := nzc ht.neg.ne zc
    have zp1 : NZ ((b, -t) :: p) := nzc ht.neg.ne zp
    have h1 := low_step ht zc zp h hb
    have hn1 : gl O ((b, -t) :: c) = n := by
      unfold Frt at hb
      omega
    have hc1 : ¬ Frt O a s ((b, -t) :: c) := fun hf => by
      have e : act O ((b, t) :: (b, -t) :: c) [] = act O c [] := act_cancel ht.ne n00
      have := frt_cons (O := O) (t := t) hs ht z1 hap hf (by rw [gl_congr e, hn1, hn])
      exact hc ((frt_congr hs (nzc ht.ne z1) zc e).mp this)
    have := frt_left n hn1 hs z1 zp1 h1 hp1 hc1
    exact (frt_congr hs ((back_nz z1).app zp1) ((back_nz zc).app zp) (act_step ht.ne zc)).mp this
theorem cm_uniq : ∀ (n : Nat) {c d p q : Row α}, gl O c = n → NZ c → NZ d → NZ p → NZ q → Cm O c p q → Cm O d p q → act O c [] = act O d []
  | 0, c, d, p, q, hn, zc, zd, zp, zq, h1, h2 => by
    have e := gl_zero zc hn
    rw [e]
    refine Classical.byContradiction fun hd => ?_
    have hd : gl O d ≠ 0 := fun h => hd (gl_zero zd h).symm
    obtain ⟨b, t, ht, hb⟩ := frt_ex (O := O) zd hd
    exact h1.2.2 b t ht ((frt_congr ht ((back_nz zc).app zp) zp (back_zero zc zp hn)).mpr (low_frt ht zd zp h2.1 hb)) ((frt_congr ht ((back_nz zc).app zq) zq (back_zero zc zq hn)).mpr (low_frt ht zd zq h2.2.1 hb))
  | n + 1, c, d, p, q, hn, zc, zd, zp, zq, h1, h2 => by
    obtain ⟨a, s, hs, ha⟩ := frt_ex (O := O) zc (by omega)
    have hp := low_frt hs zc zp h1.1 ha
    have hq := low_frt hs zc zq h1.2.1 ha
    rcases Classical.em (Frt O a s d) with hd | hd
    · have z1 : NZ ((a, -s) :: c) := nzc hs.neg.ne zc
      have z2 : NZ ((a, -s) :: d) := nzc hs.neg.ne zd
      have := cm_uniq n (by unfold Frt at ha; omega) z1 z2 (nzc (x := (a, -s)) hs.neg.ne zp) (nzc (x := (a, -s)) hs.neg.ne zq) (cm_step hs zc zp zq h1 ha) (cm_step hs zd zp zq h2 hd)
      have e := cons_congr (x := (a, s)) hs.ne z1 z2 this
      rwa [act_cancel hs.ne n00, act_cancel hs.ne n00] at e
    · exact absurd (frt_left _ rfl hs zd zq h2.2.1 hq hd) fun hq' => h2.2.2 a s hs (frt_left _ rfl hs zd zp h2.1 hp hd) hq'
/-- what leads from one to another, if no unit stands first in both -/
theorem cm_back : ∀ (n : Nat) {p q : Row α}, gl O p = n → NZ p → NZ q → (∀ a s, Un s → Frt O a s p → Frt O a s q → False) → gl O (back p ++ q) = gl O p + gl O q
  | 0, p, q, hn, zp, zq, h => by
    rw [gl_congr (back_zero zp zq hn), hn, Nat.zero_add]
  | n + 1, p, q, hn, zp, zq, h => by
    obtain ⟨a, s, hs, ha⟩ := frt_ex (O := O) zp (by omega)
    have hq : ¬ Frt O a s q := fun hq => h a s hs ha hq
    have hq1 := (unit_or hs zq).resolve_left hq
    have z1 : NZ ((a, -s) :: p) := nzc hs.neg.ne zp
    have z2 : NZ ((a, -s) :: q) := nzc hs.neg.ne zq
    have g1 : gl O ((a, -s) :: p) = n := by
      unfold Frt at ha
      omega
    have ep : act O ((a, s) :: (a, -s) :: p) [] = act O p [] := act_cancel hs.ne n00
    have eq : act O ((a, s) :: (a, -s) :: q) [] = act O q [] := act_cancel hs.ne n00
    have fq : Frt O a (-s) ((a, -s) :: q) := by
      unfold Frt
      rw [Int.neg_neg, gl_congr eq]
      omega
    have := cm_back n g1 z1 z2 fun b t ht h1 h2 => by
      by_cases hab : b = a
      · subst hab
        have e := frt_sign ht hs.neg z2 h2 fq
        subst e
        unfold Frt at h1
        rw [Int.neg_neg, gl_congr ep] at h1
        omega
      · obtain ⟨hap, k⟩ := frt_two ht hs.neg z2 hab h2 fq
        rw [Int.neg_neg] at k
        have kq := (frt_congr ht (nzc hs.ne z2) zq eq).mp k
        have kp := frt_cons (O := O) (t := s) ht hs z1 hap h1 (by rw [gl_congr ep]; omega)
        exact h b t ht ((frt_congr ht (nzc hs.ne z1) zp ep).mp kp) kq
    rw [gl_congr (act_step hs.ne zp)] at this
    omega
theorem act_over {c p q : Row α} (zc : NZ c) (zp : NZ p) (zq : NZ q) : act O (back (back c ++ p) ++ (back c ++ q)) [] = act O (back p ++ q) [] := by
  rw [back_app, back_back, List.append_assoc, act_app, act_part zc (nf_act (back_nz zp) n00), act_app]
theorem cm_far {c p q : Row α} (zc : NZ c) (zp : NZ p) (zq : NZ q) (h : Cm O c p q) : gl O (back p ++ q) = gl O (back c ++ p) + gl O (back c ++ q) := by
  rw [← gl_congr (act_over zc zp zq)]
  exact cm_back _ rfl ((back_nz zc).app zp) ((back_nz zc).app zq) h.2.2
theorem cm_of {c p q : Row α} (zc : NZ c) (zp : NZ p) (zq : NZ q) (h1 : Low O c p) (h2 : Low O c q) (h3 : gl O (back p ++ q) = gl O (back c ++ p) + gl O (back c ++ q)) : Cm O c p q := by
  refine ⟨h1, h2, fun a s hs fp fq => ?_⟩
  have z1 := (back_nz zc).app zp
  have z2 := (back_nz zc).app zq
  have e := act_step (O := O) (a := a) (s := s) (p := back c ++ q) hs.ne z1
  have k := gl_app (O := O) (back_nz (nzc (x := (a, -s)) hs.neg.ne z1)) (nzc (x := (a, -s)) hs.neg.ne z2)
  rw [gl_congr e, gl_congr (act_over zc zp zq), gl_back (nzc (x := (a, -s)) hs.neg.ne z1)] at k
  unfold Frt at fp fq
  omega
/-! ### middles -/
structure Med (O : Ord α) (x y z m : Row α) : Prop where
  xy : far O x m + far O m y = far O x y
  xz : far O x m + far O m z = far O x z
  yz : far O y m + far O m z = far O y z
theorem far_gl {l m : Row α} : far O l m = gl O (back l ++ m) := rfl
theorem act_via {x m y : Row α} (zx : NZ x) (zm : NZ m) : act O (back (back x ++ m) ++ (back x ++ y)) [] = act O (back m ++ y) [] := by
  rw [back_app, back_back, List.append_assoc, act_app, act_part zx (nf_act (back_nz zm) n00), act_app]
theorem med_cm {x y z m : Row α} (zx : NZ x) (zy : NZ y) (zz : NZ z) (zm : NZ m) : Med O x y z m ↔ Cm O (back x ++ m) (back x ++ y) (back x ++ z) := by
  have zc := (back_nz zx).app zm
  have zp := (back_nz zx).app zy
  have zq := (back_nz zx).app zz
  have ey := gl_congr (act_via (O := O) (y := y) zx zm)
  have ez := gl_congr (act_via (O := O) (y := z) zx zm)
  have eyz := gl_congr (act_via (O := O) (y := z) zx zy)
  have es := far_symm (O := O) zy zm
  simp only [far_gl] at es
  constructor
  · intro h
    obtain ⟨h1, h2, h3⟩ := h
    simp only [far_gl] at h1 h2 h3
    refine cm_of zc zp zq ?_ ?_ ?_
    · unfold Low
      rw [ey]
      exact h1
    · unfold Low
      rw [ez]
      exact h2
    · rw [ey, ez, eyz, ← es]
      exact h3.symm
  · intro h
    have h3 := cm_far zc zp zq h
    obtain ⟨h1, h2, _⟩ := h
    unfold Low at h1 h2
    rw [ey] at h1 h3
    rw [ez] at h2 h3
    rw [eyz] at h3
    exact ⟨h1, h2, by simp only [far_gl]; omega⟩
/-- there is one middle alone -/
theorem med_uniq {x y z m n : Row α} (zx : NZ x) (zy : NZ y) (zz : NZ z) (zm : NZ m) (zn : NZ n) (h1 : Med O x y z m) (h2 : Med O x y z n) : act O m [] = act O n [] := by
  have e := cm_uniq _ rfl ((back_nz zx).app zm) ((back_nz zx).app zn) ((back_nz zx).app zy) ((back_nz zx).app zz) ((med_cm zx zy zz zm).mp h1) ((med_cm zx zy zz zn).mp h2)
  have k := eq_app (O := O) (u := x) (u' := x) zx ((back_nz zx).app zm) ((back_nz zx).app zn) rfl e
  rwa [act_part zx n00, act_part zx n00] at k
theorem med_of {x y z c : Row α} (zx : NZ x) (zy : NZ y) (zz : NZ z) (zc : NZ c) (h : Cm O c (back x ++ y) (back x ++ z)) : Med O x y z (x ++ c) := by
  refine (med_cm zx zy zz (zx.app zc)).mpr ?_
  have e : act O (back x ++ (x ++ c)) [] = act O c [] := act_part2 zx n00
  have zp := (back_nz zx).app zy
  have zq := (back_nz zx).app zz
  have zb := (back_nz zx).app (zx.app zc)
  have eb : ∀ {w : Row α}, act O (back (back x ++ (x ++ c)) ++ w) [] = act O (back c ++ w) [] := fun {w} => by
    rw [act_app, act_back_eq zb zc e n00, act_app]
  refine ⟨?_, ?_, fun a s hs f1 f2 => h.2.2 a s hs ?_ ?_⟩
  · unfold Low
    rw [gl_congr e, gl_congr eb]
    exact h.1
  · unfold Low
    rw [gl_congr e, gl_congr eb]
    exact h.2.1
  · exact (frt_congr hs ((back_nz zb).app zp) ((back_nz zc).app zp) eb).mp f1
  · exact (frt_congr hs ((back_nz zb).app zq) ((back_nz zc).app zq) eb).mp f2
theorem med_swap {x y z m : Row α} (zx : NZ x) (zy : NZ y) (zz : NZ z) (zm : NZ m) (h : Med O x y z m) : Med O y x z m := by
  obtain ⟨h1, h2, h3⟩ := h
  have a := far_symm (O := O) zx zm
  have b := far_symm (O := O) zm zy
  have c := far_symm (O := O) zx zy
  exact ⟨by omega, h3, h2⟩
theorem med_last {x y z m : Row α} (zx : NZ x) (zy : NZ y) (zz : NZ z) (zm : NZ m) (h : Med O x y z m) : Med O x z y m := by
  obtain ⟨h1, h2, h3⟩ := h
  have a := far_symm (O := O) zy zm
  have b := far_symm (O := O) zm zz
  have c := far_symm (O := O) zy zz
  exact ⟨h2, h1, by omega⟩
theorem med_same {x z : Row α} (zx : NZ x) (zz : NZ z) : Med O x x z x := by
  have h := far_self (O := O) zx
  exact ⟨by omega, by omega, by omega⟩
end
end XM
set_option linter.all false
/-! the greatest lower part that two piles have in common, found in one pass -/
namespace XM
section
variable {α : Type} [DecidableEq α] {O : Ord α}
/-- the lesser of two by size, if they have one sign -/
def shr (s t : Int) : Int := max 0 (min s t) + min 0 (max s t)
theorem shr_sg {s t : Int} (h : Sg s t) : shr s t ≠ 0 ∧ sg (shr s t) = sg s ∧ ((shr s t = s) ∨ (shr s t = t ∧ (s - shr s t).natAbs + (shr s t).natAbs = s.natAbs ∧ sg (s - shr s t) = sg s ∧ s - shr s t ≠ 0)) ∧ (t - shr s t).natAbs + (shr s t).natAbs = t.natAbs := by
  unfold Sg at h
  unfold shr sg
  rcases h with ⟨h1, h2⟩ | ⟨h1, h2⟩
  · have e1 : min 0 (max s t) = 0 := by omega
    have e2 : max 0 (min s t) = min s t := by omega
    rw [e1, e2]
    refine ⟨by omega, ?_, ?_, by omega⟩
    · rw [if_pos (by omega), if_pos h1]
    · by_cases q : s ≤ t
      · exact .inl (by omega)
      · refine .inr ⟨by omega, by omega, ?_, by omega⟩
        rw [if_pos (by omega), if_pos h1]
  · have e1 : max 0 (min s t) = 0 := by omega
    have e2 : min 0 (max s t) = max s t := by omega
    rw [e1, e2]
    refine ⟨by omega, ?_, ?_, by omega⟩
    · rw [if_neg (by omega), if_neg (by omega)]
    · by_cases q : t ≤ s
      · exact .inl (by omega)
      · refine .inr ⟨by omega, by omega, ?_, by omega⟩
        rw [if_neg (by omega), if_neg (by omega)]
theorem shr_zero {s t : Int} (h : ¬ Sg s t) : shr s t = 0 := by
  unfold Sg at h
  unfold shr
  omega
theorem sg_same {s t : Int} (hs : s ≠ 0) (ht : t ≠ 0) : Sg s t ↔ sg s = sg t := by
  unfold Sg sg
  constructor
  · intro h
    rcases h with h | h
    · rw [if_pos h.1, if_pos h.2]
    · rw [if_neg (by omega), if_neg (by omega)]
  · intro h
    split at h <;> split at h <;> omega
abbrev Cst (α : Type) := Row α × Row α × Row α
/-- how much of a piece is in common -/
def cpart (O : Ord α) (r rest : Row α) (x : α × Int) : Int := if r.any (fun w => O.tc w.1 x.1) then 0 else shr x.2 ((nearS O x.1 rest).getD 0)
def cstep (O : Ord α) (st : Cst α) (x : α × Int) : Cst α :=
  (if cpart O st.2.1 st.2.2 x ≠ 0 then st.1 ++ [(x.1, cpart O st.2.1 st.2.2 x)] else st.1,
   if cpart O st.2.1 st.2.2 x ≠ x.2 then st.2.1 ++ [(x.1, x.2 - cpart O st.2.1 st.2.2 x)] else st.2.1,
   if cpart O st.2.1 st.2.2 x ≠ 0 then (act O ((x.1, -cpart O st.2.1 st.2.2 x) :: st.2.2) []).reverse else st.2.2)
def cgo (O : Ord α) (other : Row α) (one : Row α) : Cst α := one.foldl (cstep O) ([], [], other)
def cmn (O : Ord α) (one other : Row α) : Row α := (cgo O other one).1
structure CI (O : Ord α) (one other todo : Row α) (st : Cst α) : Prop where
  zc : NZ st.1
  zr : NZ st.2.1
  zt : NZ st.2.2
  e1 : act O (st.1 ++ (st.2.1 ++ todo)) [] = act O one []
  l1 : ln st.1 + (ln st.2.1 + ln todo) = gl O one
  e2 : act O (back st.1 ++ other) [] = act O st.2.2 []
  l2 : ln st.1 + ln st.2.2 = gl O other
  p2 : pl O st.2.2 = true
  no : ∀ a s t, nearS O a st.2.1 = some s → nearS O a st.2.2 = some t → ¬ Sg s t
theorem nearS_mem {a : α} {s : Int} {r : Row α} (h : nearS O a r = some s) : (a, s) ∈ r := by
  obtain ⟨m, v, e, _⟩ := nearS_split h
  rw [e]
  simp
theorem nearS_snoc {b : α} {x : α × Int} {s : Int} {r : Row α} (h : nearS O b (r ++ [x]) = some s) : nearS O b r = some s ∨ (b = x.1 ∧ s = x.2 ∧ ∀ w ∈ r, O.tc w.1 x.1 = false) := by
  rcases Classical.em (∃ y ∈ r, O.tc y.1 b = true) with q | q
  · rw [nearS_hit q] at h
    exact .inl h
  · have hr : ∀ y ∈ r, O.tc y.1 b = false := fun y hy => Bool.eq_false_iff.mpr fun z => q ⟨y, hy, z⟩
    rw [nearS_apart hr] at h
    unfold nearS at h
    by_cases e : x.1 = b
    · rw [if_pos e] at h
      exact .inr ⟨e.symm, (Option.some.inj h).symm, fun w hw => by rw [e]; exact hr w hw⟩
    · rw [if_neg e] at h
      split at h <;> cases h
theorem pl_red {l : Row α} (zl : NZ l) (h : pl O l = true) : gl O l = ln l := ln_pile zl h
theorem pl_split {m v : Row α} {a : α} {u : Int} (h : pl O (m ++ (a, u) :: v) = true) : nearS O a v = none := by
  have h1 := pl_right h
  have : (near O a v).isNone = true := by
    unfold pl at h1
    rw [Bool.and_eq_true] at h1
    first | exact h1.1 | (have := h1.1; simpa using this)
  exact nearS_none.mpr (Option.isNone_iff_eq_none.mp this)
theorem ci_step {one other todo : Row α} {st : Cst α} {x : α × Int} (hx : x.2 ≠ 0) (zo : NZ other) (h : CI O one other (x :: todo) st) : CI O one other todo (cstep O st x) := by
  obtain ⟨c, r, rest⟩ := st
  obtain ⟨a, t⟩ := x
  obtain ⟨zc, zr, zt, e1, l1, e2, l2, p2, no⟩ := h
  have zc : NZ c := zc
  have zr : NZ r := zr
  have zt : NZ rest := zt
  have e1 : act O (c ++ (r ++ (a, t) :: todo)) [] = act O one [] := e1
  have l1 : ln c + (ln r + ln ((a, t) :: todo)) = gl O one := l1
  have e2 : act O (back c ++ other) [] = act O rest [] := e2
  have l2 : ln c + ln rest = gl O other := l2
  have p2 : pl O rest = true := p2
  have no : ∀ b s t, nearS O b r = some s → nearS O b rest = some t → ¬ Sg s t := no
  have hx : t ≠ 0 := hx
  have hln : ln ((a, t) :: todo) = t.natAbs + ln todo := rfl
  unfold cstep
  show CI O one other todo (if cpart O r rest (a, t) ≠ 0 then c ++ [(a, cpart O r rest (a, t))] else c, if cpart O r rest (a, t) ≠ t then r ++ [(a, t - cpart O r rest (a, t))] else r, if cpart O r rest (a, t) ≠ 0 then (act O ((a, -cpart O r rest (a, t)) :: rest) []).reverse else rest)
  -- nothing is shared
  have none_ : cpart O r rest (a, t) = 0 → (∀ u, nearS O a rest = some u → (∀ w ∈ r, O.tc w.1 a = false) → ¬ Sg t u) → CI O one other todo (if cpart O r rest (a, t) ≠ 0 then c ++ [(a, cpart O r rest (a, t))] else c, if cpart O r rest (a, t) ≠ t then r ++ [(a, t - cpart O r rest (a, t))] else r, if cpart O r rest (a, t) ≠ 0 then (act O ((a, -cpart O r rest (a, t)) :: rest) []).reverse else rest) := fun h0 hn => by
    rw [h0, if_neg (by simp), if_pos (by omega), if_neg (by simp), Int.sub_zero]
    refine ⟨zc, zr.app (nz1 hx), zt, ?_, ?_, e2, l2, p2, fun b s u h1 h2 => ?_⟩
    · show act O (c ++ ((r ++ [(a, t)]) ++ todo)) [] = _
      rw [List.append_assoc]
      exact e1
    · show ln c + (ln (r ++ [(a, t)]) + ln todo) = _
      rw [ln_app]
      have : ln [(a, t)] = t.natAbs + 0 := rfl
      omega
    · rcases nearS_snoc h1 with k | ⟨rfl, rfl, k⟩
      · exact no b s u k h2
      · exact hn u h2 k
  by_cases hb : (r.any fun w => O.tc w.1 a) = true
  · have h0 : cpart O r rest (a, t) = 0 := by
      unfold cpart
      rw [if_pos hb]
    refine none_ h0 fun u _ hr => ?_
    obtain ⟨w, hw, k⟩ := List.any_eq_true.mp hb
    rw [hr w hw] at k
    cases k
  have hra : ∀ w ∈ r, O.tc w.1 a = false := fun w hw => Bool.eq_false_iff.mpr fun k => hb (List.any_eq_true.mpr ⟨w, hw, k⟩)
  have hp : cpart O r rest (a, t) = shr t ((nearS O a rest).getD 0) := by
    unfold cpart
    rw [if_neg hb]
  cases hu : nearS O a rest with
  | none =>
    refine none_ (by rw [hp, hu]; exact shr_zero fun k => by unfold Sg at k; simp at k) fun u q _ => by rw [hu] at q; cases q
  | some u =>
  by_cases hsg : Sg t u
  case neg =>
    refine none_ (by rw [hp, hu]; exact shr_zero hsg) fun u' q _ => by
      rw [hu] at q
      cases q
      exact hsg
  obtain ⟨q1, q2, q3, q4⟩ := shr_sg hsg
  have hp : cpart O r rest (a, t) = shr t u := by
    rw [hp, hu]
    rfl
  clear none_
  rw [hp]
  generalize shr t u = part at hp q1 q2 q3 q4 ⊢
  rw [if_pos q1, if_pos q1]
  have zB : NZ (if part ≠ t then [(a, t - part)] else []) := by
    by_cases k : part ≠ t
    · rw [if_pos k]
      exact nz1 (by show t - part ≠ 0; omega)
    · rw [if_neg k]
      exact nz0
  have er : (if part ≠ t then r ++ [(a, t - part)] else r) = r ++ (if part ≠ t then [(a, t - part)] else []) := by
    by_cases k : part ≠ t
    · rw [if_pos k, if_pos k]
    · rw [if_neg k, if_neg k, List.append_nil]
  rw [er]
  -- the rest, with the shared part gone
  obtain ⟨m, v, em, hm⟩ := nearS_split hu
  have hu0 : u ≠ 0 := zt (a, u) (by rw [em]; simp)
  have zm : NZ m := by
    rw [em] at zt
    exact zt.left
  have zv : NZ v := by
    rw [em] at zt
    exact nzt zt.right
  have np : -part ≠ 0 := by omega
  have zR : NZ (if -part + u = 0 then [] else [(a, -part + u)]) := by
    by_cases k : -part + u = 0
    · rw [if_pos k]
      exact nz0
    · rw [if_neg k]
      exact nz1 k
  have z1 : NZ ((a, -part) :: rest) := nzc np zt
  have m1 : act O ((a, -part) :: (m ++ (a, u) :: v)) [] = act O ((if -part + u = 0 then [] else [(a, -part + u)]) ++ (m ++ v)) [] := act_meet (O := O) (u := []) (m := m) (v := v) (a := a) (s := -part) (t := u) (r := []) hm np hu0 nz0 zm n00
  have m2 : act O (m ++ ((if -part + u = 0 then [] else [(a, -part + u)]) ++ v)) [] = act O ((if -part + u = 0 then [] else [(a, -part + u)]) ++ (m ++ v)) [] := by
    by_cases k : -part + u = 0
    · rw [if_pos k]
      rfl
    · rw [if_neg k]
      exact act_move (O := O) (u := []) (p := m) (v := v) (x := (a, -part + u)) hm nz0 zm n00
  have zR' : NZ (m ++ ((if -part + u = 0 then [] else [(a, -part + u)]) ++ v)) := zm.app (zR.app zv)
  have eR : act O (m ++ ((if -part + u = 0 then [] else [(a, -part + u)]) ++ v)) [] = act O ((a, -part) :: rest) [] := by
    rw [m2, ← m1, ← em]
  have lR : ln (m ++ ((if -part + u = 0 then [] else [(a, -part + u)]) ++ v)) + part.natAbs = ln rest := by
    rw [em, ln_app, ln_app, ln_app]
    have : ln ((a, u) :: v) = u.natAbs + ln v := rfl
    by_cases k : -part + u = 0
    · rw [if_pos k]
      have : ln ([] : Row α) = 0 := rfl
      omega
    · rw [if_neg k]
      have : ln [(a, -part + u)] = (-part + u).natAbs + 0 := rfl
      omega
  have gR : gl O (m ++ ((if -part + u = 0 then [] else [(a, -part + u)]) ++ v)) = ln (m ++ ((if -part + u = 0 then [] else [(a, -part + u)]) ++ v)) := by
    have k1 := gl_le (O := O) (l := m ++ ((if -part + u = 0 then [] else [(a, -part + u)]) ++ v))
    have k2 := gl_cons (O := O) (x := (a, part)) (l := (a, -part) :: rest) q1 z1
    rw [gl_congr (act_cancel q1 n00), pl_red zt p2, ← gl_congr eR] at k2
    have k2 : ln rest ≤ part.natAbs + gl O (m ++ ((if -part + u = 0 then [] else [(a, -part + u)]) ++ v)) := k2
    omega
  have zN : NZ (pile O ((a, -part) :: rest)) := pile_nz z1
  have pN : pl O (pile O ((a, -part) :: rest)) = true := pile_pl z1
  have eN : act O (pile O ((a, -part) :: rest)) [] = act O ((a, -part) :: rest) [] := pile_act z1 n00
  have lN : ln (pile O ((a, -part) :: rest)) + part.natAbs = ln rest := by
    rw [pile_ln, ← gl_congr eR, gR]
    exact lR
  show CI O one other todo (c ++ [(a, part)], r ++ (if part ≠ t then [(a, t - part)] else []), pile O ((a, -part) :: rest))
  have lq : part.natAbs + ln (if part ≠ t then [(a, t - part)] else []) = t.natAbs := by
    by_cases k : part ≠ t
    · rw [if_pos k]
      have : ln [(a, t - part)] = (t - part).natAbs + 0 := rfl
      rcases q3 with q3 | q3
      · exact absurd q3 k
      · omega
    · rw [if_neg k]
      have : ln ([] : Row α) = 0 := rfl
      have : part = t := Classical.not_not.mp k
      omega
  -- the sign of what is met in the rest
  have sgn : ∀ b w, nearS O b (pile O ((a, -part) :: rest)) = some w → ∃ w', nearS O b (m ++ ((if -part + u = 0 then [] else [(a, -part + u)]) ++ v)) = some w' ∧ sg w' = sg w := fun b w hw =>
    (frt_iff zR' gR (sg_un w)).mp ((frt_congr (sg_un w) zN zR' (eN.trans eR.symm)).mp (frt_of zN (pl_red zN pN) hw))
  refine ⟨zc.app (nz1 q1), zr.app zB, zN, ?_, ?_, ?_, ?_, pN, fun b s w h1 h2 => ?_⟩
  · show act O ((c ++ [(a, part)]) ++ ((r ++ (if part ≠ t then [(a, t - part)] else [])) ++ todo)) [] = _
    rw [← e1, List.append_assoc, List.append_assoc, act_app, act_app (l := c)]
    have hN : NF O (act O c []) := nf_act zc n00
    have k1 := act_move (O := O) (u := []) (p := r) (v := todo) (x := (a, t)) (r := act O c []) hra nz0 zr hN
    rw [List.nil_append, List.nil_append] at k1
    rw [k1]
    show act O ((a, part) :: (r ++ ((if part ≠ t then [(a, t - part)] else []) ++ todo))) (act O c []) = act O ((a, t) :: (r ++ todo)) (act O c [])
    by_cases k : part ≠ t
    · rw [if_pos k]
      have k2 := act_move (O := O) (u := [(a, part)]) (p := r) (v := todo) (x := (a, t - part)) (r := act O c []) hra (nz1 q1) zr hN
      have k2 : act O ((a, part) :: (r ++ (a, t - part) :: todo)) (act O c []) = act O ((a, part) :: (a, t - part) :: (r ++ todo)) (act O c []) := k2
      show act O ((a, part) :: (r ++ (a, t - part) :: todo)) (act O c []) = _
      rw [k2, act_join1 (O := O) (v := r ++ todo) q1 (by omega) hN, if_neg (by omega), show part + (t - part) = t by omega]
      rfl
    · rw [if_neg k, Classical.not_not.mp k]
      rfl
  · show ln (c ++ [(a, part)]) + (ln (r ++ (if part ≠ t then [(a, t - part)] else [])) + ln todo) = _
    rw [ln_app, ln_app]
    have : ln [(a, part)] = part.natAbs + 0 := rfl
    omega
  · show act O (back (c ++ [(a, part)]) ++ other) [] = act O (pile O ((a, -part) :: rest)) []
    rw [eN, back_app, List.append_assoc]
    show act O ((a, -part) :: (back c ++ other)) [] = act O ((a, -part) :: rest) []
    exact cons_congr (x := (a, -part)) np ((back_nz zc).app zo) zt e2
  · show ln (c ++ [(a, part)]) + ln (pile O ((a, -part) :: rest)) = _
    rw [ln_app]
    have : ln [(a, part)] = part.natAbs + 0 := rfl
    omega
  · have h1 : nearS O b (r ++ (if part ≠ t then [(a, t - part)] else [])) = some s := h1
    have h2 : nearS O b (pile O ((a, -part) :: rest)) = some w := h2
    have hw0 : w ≠ 0 := zN (b, w) (nearS_mem h2)
    obtain ⟨w', k1, k2⟩ := sgn b w h2
    have hw1 : w' ≠ 0 := zR' (b, w') (nearS_mem k1)
    have old : nearS O b r = some s → ¬ Sg s w := fun hs => by
      have hs0 : s ≠ 0 := zr (b, s) (nearS_mem hs)
      have hab : O.tc a b = false := apart_symm (hra (b, s) (nearS_mem hs))
      rw [nearS_out (t := u) hab (by
        intro y hy
        by_cases q : -part + u = 0
        · rw [if_pos q] at hy
          cases hy
        · rw [if_neg q] at hy
          rw [List.mem_singleton.mp hy]), ← em] at k1
      have := no b s w' hs k1
      rw [sg_same hs0 hw1] at this
      rw [sg_same hs0 hw0, ← k2]
      exact this
    by_cases k : part ≠ t
    · rw [if_pos k] at h1
      rcases nearS_snoc h1 with h1 | ⟨eb, _, _⟩
      · exact old h1
      · have eb : b = a := eb
        subst eb
        have epu : part = u := (q3.resolve_left k).1
        rw [if_pos (by omega), List.nil_append, nearS_apart hm, pl_split (by rw [← em]; exact p2)] at k1
        cases k1
    · rw [if_neg k, List.append_nil] at h1
      exact old h1
theorem ci_fold {one other : Row α} (zo : NZ other) : ∀ (todo : Row α) {more : Row α} {st : Cst α}, NZ todo → CI O one other (todo ++ more) st → CI O one other more (todo.foldl (cstep O) st)
  | [], _, _, _, h => h
  | x :: todo, more, st, z, h => ci_fold zo todo (nzt z) (ci_step (z x List.mem_cons_self) zo h)
theorem ci_start {one other : Row α} (zo : NZ other) (h1 : gl O one = ln one) (h2 : pl O other = true) : CI O one other one ([], [], other) :=
  ⟨nz0, nz0, zo, rfl, by show 0 + (0 + ln one) = _; omega, rfl, by show 0 + ln other = _; rw [Nat.zero_add, pl_red zo h2], h2, fun _ _ _ h => nomatch h⟩
/-- at each place of the pass -/
theorem ci_at {one other : Row α} (z1 : NZ one) (zo : NZ other) (h1 : gl O one = ln one) (h2 : pl O other = true) (i : Nat) : CI O one other (one.drop i) ((one.take i).foldl (cstep O) ([], [], other)) :=
  ci_fold zo _ (fun x hx => z1 x (List.mem_of_mem_take hx)) (by rw [List.take_append_drop]; exact ci_start zo h1 h2)
theorem cgo_ci {one other : Row α} (z1 : NZ one) (zo : NZ other) (h1 : gl O one = ln one) (h2 : pl O other = true) : CI O one other [] (cgo O other one) := by
  have := ci_at z1 zo h1 h2 one.length
  rwa [List.drop_length, List.take_length] at this
theorem cmn_cm {one other : Row α} (z1 : NZ one) (zo : NZ other) (h1 : gl O one = ln one) (h2 : pl O other = true) : Cm O (cmn O one other) one other := by
  have h := cgo_ci (O := O) z1 zo h1 h2
  show Cm O (cgo O other one).1 one other
  generalize cgo O other one = st at h
  obtain ⟨zc, zr, zt, e1, l1, e2, l2, p2, no⟩ := h
  rw [List.append_nil] at e1
  have l1 : ln st.1 + (ln st.2.1 + 0) = gl O one := l1
  have er : act O (back st.1 ++ one) [] = act O st.2.1 [] := by
    have k : act O (back st.1 ++ (st.1 ++ st.2.1)) [] = act O st.2.1 [] := act_part2 zc n00
    rw [← k]
    exact eq_app (O := O) (u := back st.1) (u' := back st.1) (back_nz zc) z1 (zc.app zr) rfl e1.symm
  have g1 := gl_app (O := O) zc zr
  rw [gl_congr e1] at g1
  have g2 := gl_le (O := O) (l := st.1)
  have g3 := gl_le (O := O) (l := st.2.1)
  have hc : gl O st.1 = ln st.1 := by omega
  have hr : gl O st.2.1 = ln st.2.1 := by omega
  have ht := pl_red zt p2
  refine ⟨?_, ?_, fun a s hs f1 f2 => ?_⟩
  · unfold Low
    rw [gl_congr er]
    omega
  · unfold Low
    rw [gl_congr e2]
    omega
  · obtain ⟨t, k1, k2⟩ := (frt_iff zr hr hs).mp ((frt_congr hs ((back_nz zc).app z1) zr er).mp f1)
    obtain ⟨u, k3, k4⟩ := (frt_iff zt ht hs).mp ((frt_congr hs ((back_nz zc).app zo) zt e2).mp f2)
    exact no a t u k1 k3 ((sg_same (zr (a, t) (nearS_mem k1)) (zt (a, u) (nearS_mem k3))).mpr (k2.trans k4.symm))
theorem cm_congr {c p q p' q' : Row α} (zc : NZ c) (zp : NZ p) (zq : NZ q) (zp' : NZ p') (zq' : NZ q') (ep : act O p [] = act O p' []) (eq : act O q [] = act O q' []) (h : Cm O c p q) : Cm O c p' q' := by
  have zb := back_nz zc
  have kp := eq_app (O := O) (u := back c) (u' := back c) zb zp zp' rfl ep
  have kq := eq_app (O := O) (u := back c) (u' := back c) zb zq zq' rfl eq
  obtain ⟨h1, h2, h3⟩ := h
  refine ⟨?_, ?_, fun a s hs f1 f2 => h3 a s hs ((frt_congr hs (zb.app zp) (zb.app zp') kp).mpr f1) ((frt_congr hs (zb.app zq) (zb.app zq') kq).mpr f2)⟩
  · unfold Low at h1 ⊢
    rwa [← gl_congr kp, ← gl_congr ep]
  · unfold Low at h2 ⊢
    rwa [← gl_congr kq, ← gl_congr eq]
theorem far_congr {l l' m m' : Row α} (zl : NZ l) (zl' : NZ l') (zm : NZ m) (zm' : NZ m') (h1 : act O l [] = act O l' []) (h2 : act O m [] = act O m' []) : far O l m = far O l' m' := by
  show gl O (back l ++ m) = gl O (back l' ++ m')
  refine gl_congr (eq_app (back_nz zl') zm zm' ?_ h2)
  exact act_back_eq zl zl' h1 n00
theorem med_congr {x y z m x' y' z' m' : Row α} (zx : NZ x) (zy : NZ y) (zz : NZ z) (zm : NZ m) (zx' : NZ x') (zy' : NZ y') (zz' : NZ z') (zm' : NZ m') (ex : act O x [] = act O x' []) (ey : act O y [] = act O y' []) (ez : act O z [] = act O z' []) (em : act O m [] = act O m' []) (h : Med O x y z m) : Med O x' y' z' m' := by
  obtain ⟨h1, h2, h3⟩ := h
  rw [far_congr zx zx' zm zm' ex em, far_congr zm zm' zy zy' em ey, far_congr zx zx' zy zy' ex ey] at h1
  rw [far_congr zx zx' zm zm' ex em, far_congr zm zm' zz zz' em ez, far_congr zx zx' zz zz' ex ez] at h2
  rw [far_congr zy zy' zm zm' ey em, far_congr zm zm' zz zz' em ez, far_congr zy zy' zz zz' ey ez] at h3
  exact ⟨h1, h2, h3⟩
/-- the middle as it is reckoned: of three piles -/
def mid (O : Ord α) (x y z : Row α) : Row α := pile O (x ++ cmn O (pile O (back x ++ y)) (pile O (back x ++ z)))
theorem cmn_nz {x y : Row α} (zx : NZ x) (zy : NZ y) (h1 : gl O x = ln x) (h2 : pl O y = true) : NZ (cmn O x y) := (cgo_ci (O := O) zx zy h1 h2).zc
theorem mid_med {x y z : Row α} (zx : NZ x) (zy : NZ y) (zz : NZ z) : NZ (mid O x y z) ∧ Med O x y z (mid O x y z) := by
  have zp := (back_nz zx).app zy
  have zq := (back_nz zx).app zz
  have zP := pile_nz (O := O) zp
  have zQ := pile_nz (O := O) zq
  have zc := cmn_nz (O := O) zP zQ (pile_gl zp) (pile_pl zq)
  have h := cm_congr zc zP zQ zp zq (pile_act zp n00) (pile_act zq n00) (cmn_cm (O := O) zP zQ (pile_gl zp) (pile_pl zq))
  have zm := zx.app zc
  refine ⟨pile_nz zm, ?_⟩
  exact med_congr zx zy zz zm zx zy zz (pile_nz zm) rfl rfl rfl (pile_act zm n00).symm (med_of zx zy zz zc h)
/-- in whatever order the three are told -/
theorem mid_eq {x y z m : Row α} (zx : NZ x) (zy : NZ y) (zz : NZ z) (zm : NZ m) (h : Med O x y z m) : mid O x y z = pile O m := by
  obtain ⟨z1, h1⟩ := mid_med (O := O) zx zy zz
  have zp := (back_nz zx).app zy
  have zq := (back_nz zx).app zz
  have zc := cmn_nz (O := O) (pile_nz (O := O) zp) (pile_nz (O := O) zq) (pile_gl zp) (pile_pl zq)
  have e := med_uniq zx zy zz z1 zm h1 h
  unfold mid at e ⊢
  rw [pile_act (zx.app zc) n00] at e
  unfold pile at e ⊢
  rw [e]
end
end XM
set_option Elab.async false
set_option linter.all false
set_option maxRecDepth 100000
set_option maxHeartbeats 4000000
namespace XB
open PySem PySem.Spec PyProof.Rows L2
theorem dstep_of {K : PySem.W.Frag} {H H' : Hp} {p : Addr} (s : Str × Int) (e : H p = some (.tup [.str s.1, .int s.2])) (k : Same H H') : Dp K H' (.ref p) (dStep s) := Dp.of_step ((Tk.of k).sqT (SqT.of e))
theorem nearS_at {F : Fld} (ok : F.Ok) {a : Str} {l : List (Str × Int)} {i : Nat} {s : Str × Int} (k : l[i]? = some s) (hs : s.1 ∈ F.names) (hn : (touchL F a).contains s.1 = false) : XM.nearS (OF F) a (l.drop i) = XM.nearS (OF F) a (l.drop (i + 1)) := by
  have hlt := (List.getElem?_eq_some_iff.mp k).1
  have e : l.drop i = s :: l.drop (i + 1) := by
    rw [List.drop_eq_getElem_cons hlt, (List.getElem?_eq_some_iff.mp k).2]
  rw [mem_touch ok hs] at hn
  rw [e, XM.nearS, if_neg (XM.ne_of_apart hn), if_neg (by rw [hn]; exact Bool.false_ne_true)]
theorem nearS_here {F : Fld} (ok : F.Ok) {a : Str} {l : List (Str × Int)} {i : Nat} {s : Str × Int} (k : l[i]? = some s) (hs : s.1 ∈ F.names) (hn : (touchL F a).contains s.1 = true) : (XM.nearS (OF F) a (l.drop i)).getD 0 = if s.1 = a then s.2 else 0 := by
  have hlt := (List.getElem?_eq_some_iff.mp k).1
  have e : l.drop i = s :: l.drop (i + 1) := by
    rw [List.drop_eq_getElem_cons hlt, (List.getElem?_eq_some_iff.mp k).2]
  rw [mem_touch ok hs] at hn
  rw [e, XM.nearS]
  by_cases q : s.1 = a
  · rw [if_pos q, if_pos q]
    rfl
  · rw [if_neg q, if_neg q, if_pos hn]
    rfl
section
variable {P : Program} {w : World} {K : PySem.W.Frag} {mg : Str → Option Value} {base : Heap}
def spFrontTimes (K : PySem.W.Frag) (F : Fld) : Sp := fun vs H Q _ => ∃ (t d : Addr) (a : Str) (l : List (Str × Int)), vs = [.ref t, .ref d, .str a] ∧ TouchAt K H t F ∧ F.Ok ∧ Dp K H (.ref d) (dSteps l) ∧ Names F l ∧ a ∈ F.names ∧ Q (.int ((XM.nearS (OF F) a l).getD 0)) H
theorem c_front_times (T : Tx K mg) (F : Fld) : Cl P w K mg base CX0 1 "front_times" (spFrontTimes K F) := by
  refine cl0 T.d_front_times (ps := ["touch", "pieces", "name"]) (fun _ _ _ _ _ _ us hl => match us, hl with | [_, _, _], _ => rfl) sc_front_times (fun vs H Q E h => ?_) (fun f cdv A outer st H vs Q E hr h => ?_)
  · obtain ⟨t, d, a, l, rfl, _⟩ := h
    rfl
  · obtain ⟨t, d, a, l, rfl, hT, ok, hL, hN, ha, q⟩ := h
    have nd := sc_front_times.nd
    have hu : (A.deeper (envOfC "front_times" (defScope s_front_times) st.heap.objs.size f cdv)).units + 1 < cLine := by
      have := hr.un
      omega
    refine ⟨_, (pss_cons (ps_for PassesOwn.never rfl (pi_tup (pv 1)) (pg_tup rfl (pgs_cons (pg_name (i := 3) nd rfl (.inl rfl)) (pgs_cons (pg_name (i := 4) nd rfl (.inl rfl)) pgs_nil)))
    (pss_one (ps_if (pt_cmpR (opk_in_seq (K := K) rfl) (pv 3) (pe_dget hu (pv 0) (pv 2) (fun _ _ => rfl)) (by rfl)) (pss_one (ps_ret (pe_ifExp (pt_cmpR op_eq (pv 3) (pv 2) (nomark _)) (pv 4) pe_int))) pss_nil)))
    (pss_one (ps_ret pe_int))), ?_⟩
    obtain ⟨_, xs, e, hS, hD⟩ := hL.steps
    cases e
    have lx := hD.len
    rw [List.length_map] at lx
    obtain ⟨kvs, e1, g⟩ := id hT
    obtain ⟨r, e2, e3⟩ := g a ha
    have dg : DGet H t (.str a) (some (.ref r)) := by
      have := DGet.k (k := .inr a) e1
      rwa [e2] at this
    refine ⟨_, rfl, d, rfl, ⟨_, hS⟩, ?_⟩
    refine for_it (walk_tup (xs := xs)) (fun i σ H2 => ∃ (y3 y4 : Option V), σ = [some (.ref t), some (.ref d), some (.str a), y3, y4] ∧ H2 = H ∧ XM.nearS (OF F) a (l.drop i) = XM.nearS (OF F) a l)
      ⟨none, none, rfl, rfl, rfl⟩ (fun i σ H2 _ ⟨_, _, _, e', _⟩ => by rw [e']; exact hS) (fun i x σ H2 H3 hi ⟨y3, y4, eσ, s2, en⟩ hy => ?_) (fun σ H2 ⟨y3, y4, eσ, s2, en⟩ => ?_)
    · obtain ⟨rfl, hx⟩ := hy
      subst eσ
      subst s2
      obtain ⟨dd, g1, p1⟩ := hD.get hx
      rw [List.getElem?_map] at g1
      obtain ⟨s, k1, rfl⟩ := Option.map_eq_some_iff.mp g1
      obtain ⟨b, rfl, cb⟩ := p1.step
      have ms := hN s (List.mem_of_getElem? k1)
      refine ⟨b, _, rfl, cb, rfl, _, _, rfl, _, _, rfl, rfl, ?_⟩
      refine ⟨_, rfl, _, rfl, _, rfl, t, .ref r, rfl, dg, r, _, rfl, .inr e3, rfl, flat_strs _, ?_⟩
      rw [inV_strs]
      refine ⟨_, rfl, ite2 (fun h => ?_) (fun h => ?_)⟩
      · have h : (touchL F a).contains s.1 = true := h
        have k := nearS_here ok k1 ms h
        rw [en] at k
        rw [k] at q
        refine ⟨_, rfl, _, rfl, rfl, _, rfl, ite2 (fun e => ?_) (fun e => ?_)⟩
        · have e : s.1 = a := by
            have := of_decide_eq_true e
            injection this
          rw [if_pos e] at q
          exact ⟨_, rfl, q⟩
        · have e : ¬ s.1 = a := fun z => e (by rw [z]; exact decide_eq_true rfl)
          rw [if_neg e] at q
          exact q
      · have h : (touchL F a).contains s.1 = false := Bool.eq_false_iff.mpr h
        exact ⟨_, _, rfl, rfl, by rw [← nearS_at ok k1 ms h]; exact en⟩
    · subst eσ
      subst s2
      rw [lx, List.drop_length] at en
      rw [← en] at q
      exact q
def spSharedTimes : Sp := fun vs H Q _ => ∃ (s t : Int), vs = [.int s, .int t] ∧ Q (.int (XM.shr s t)) H
theorem c_shared_times (T : Tx K mg) : Cl P w K mg base CX0 1 "shared_times" spSharedTimes := by
  refine cl0 T.d_shared_times (ps := ["one", "other"]) (fun _ _ _ _ _ _ us hl => match us, hl with | [_, _], _ => rfl) sc_shared_times (fun vs H Q E h => ?_) (fun f cdv A outer st H vs Q E hr h => ?_)
  · obtain ⟨s, t, rfl, _⟩ := h
    rfl
  · obtain ⟨s, t, rfl, q⟩ := h
    have nd := sc_shared_times.nd
    refine ⟨_, (pss_one (ps_ret (pe_op op_add (pe_callB (call_max2 rfl) (by rfl) T.b_max (by decide +kernel) (pa_cons pe_int (pa_cons (pe_callB (call_min2 rfl) (by rfl) T.b_min (by decide +kernel) (pa_cons (pv 0) (pa_cons (pv 1) pa_nil))) pa_nil))) (pe_callB (call_min2 rfl) (by rfl) T.b_min (by decide +kernel) (pa_cons pe_int (pa_cons (pe_callB (call_max2 rfl) (by rfl) T.b_max (by decide +kernel) (pa_cons (pv 0) (pa_cons (pv 1) pa_nil))) pa_nil)))))), ?_⟩
    refine ⟨_, rfl, _, rfl, _, _, rfl, _, _, rfl, _, rfl, _, rfl, _, _, rfl, _, _, rfl, _, _, rfl, rfl, ?_⟩
    have e : ∀ z, z = XM.shr s t → Q (.int z) H := fun z h => by rw [h]; exact q
    refine e _ ?_
    unfold XM.shr
    repeat' split
    all_goals omega
/-- what stands at each place of the pass -/
structure CB (F : Fld) (l m : List (Str × Int)) (i : Nat) (st : XM.Cst Str) : Prop where
  e : st = (l.take i).foldl (XM.cstep (OF F)) ([], [], m)
  nc : Names F st.1
  nr : Names F st.2.1
  nt : Names F st.2.2
  lc : st.1.length ≤ i
  lt : st.2.2.length ≤ m.length + i
theorem CB.step {F : Fld} {l m : List (Str × Int)} {i : Nat} {st : XM.Cst Str} {x : Str × Int} (h : CB F l m i st) (k : l[i]? = some x) (hx : x.1 ∈ F.names) : CB F l m (i + 1) (XM.cstep (OF F) st x) := by
  obtain ⟨e, nc, nr, nt, lc, lt⟩ := h
  have snoc : ∀ {r : List (Str × Int)} {z : Int}, Names F r → Names F (r ++ [(x.1, z)]) := fun hr s hs => (List.mem_append.mp hs).elim (hr s) fun q => by rw [List.mem_singleton.mp q]; exact hx
  refine ⟨by rw [take_snoc k, List.foldl_append, ← e]; rfl, ?_, ?_, ?_, ?_, ?_⟩
  · unfold XM.cstep
    show Names F (if _ then _ else _)
    split
    · exact snoc nc
    · exact nc
  · unfold XM.cstep
    show Names F (if _ then _ else _)
    split
    · exact snoc nr
    · exact nr
  · unfold XM.cstep
    show Names F (if _ then _ else _)
    split
    · exact names_rev (names_act (r := []) (fun s hs => (List.mem_cons.mp hs).elim (fun q => by rw [q]; exact hx) (nt s)) fun _ h => nomatch h)
    · exact nt
  · unfold XM.cstep
    show List.length (if _ then _ else _) ≤ _
    split
    · rw [List.length_append, List.length_singleton]
      omega
    · omega
  · unfold XM.cstep
    show List.length (if _ then _ else _) ≤ _
    split
    · refine Nat.le_trans act_len1 ?_
      rw [List.length_cons]
      omega
    · omega
theorem Bars.put {H : Hp} {B D : Addr} {f : Str → Bool} {n : Nat} {o : HO} (h : Bars H B f n) (hne : B ≠ D) : Bars (upd H D o) B f n := by
  obtain ⟨kv, f1, f2, f3⟩ := h
  exact ⟨kv, by rw [upd_ne hne]; exact f1, f2, f3⟩
theorem Bars.same {H H' : Hp} {B : Addr} {f : Str → Bool} {n : Nat} (h : Bars H B f n) (s : Same H H') : Bars H' B f n := by
  obtain ⟨kv, f1, f2, f3⟩ := h
  exact ⟨kv, s _ _ f1, f2, f3⟩
theorem bars_r {F : Fld} (ok : F.Ok) {n : Str} (hn : n ∈ F.names) (r : List (Str × Int)) : (r.any fun w => (touchL F w.1).contains n) = r.any fun w => (OF F).tc w.1 n := by
  have := barred_all ok hn r
  rw [List.all_eq_not_any_not] at this
  simpa using this
def spCommon (K : PySem.W.Frag) (F : Fld) : Sp := fun vs H Q _ => ∃ (t d e : Addr) (l m : List (Str × Int)), vs = [.ref t, .ref d, .ref e] ∧ TouchAt K H t F ∧ F.Ok ∧ Dp K H (.ref d) (dSteps l) ∧ Dp K H (.ref e) (dSteps m) ∧ l.length ≤ 150 ∧ m.length ≤ 150 ∧ Names F l ∧ Names F m ∧
  ∀ H' r, Same H H' → Dp K H' (.ref r) (dSteps (XM.cmn (OF F) l m)) → Q (.ref r) H'
theorem c_common_of (T : Tx K mg) (F : Fld) : Cl P w K mg base CX0 3 "common_of" (spCommon K F) := by
  refine cl0 T.d_common_of (ps := ["touch", "one", "other"]) (fun _ _ _ _ _ _ us hl => match us, hl with | [_, _, _], _ => rfl) sc_common_of (fun vs H Q E h => ?_) (fun f cdv A outer st H vs Q E hr h => ?_)
  · obtain ⟨t, d, e, l, m, rfl, _⟩ := h
    rfl
  · obtain ⟨t, d, e, l, m, rfl, hT, ok, hL, hM, ll, lm, nl, nm, q⟩ := h
    have nd := sc_common_of.nd
    have hu : (A.deeper (envOfC "common_of" (defScope s_common_of) st.heap.objs.size f cdv)).units + 1 < cLine := by
      have := hr.un
      omega
    refine ⟨_, (pss_cons (ps_set (i := 3) nd rfl (.inl rfl) (pe_lst pa_nil))
    (pss_cons (ps_set (i := 4) nd rfl (.inl rfl) pe_dnewK)
    (pss_cons (ps_set (i := 5) nd rfl (.inl rfl) (pv 2))
    (pss_cons (ps_for PassesOwn.never rfl (pi_tup (pv 1)) (pg_tup rfl (pgs_cons (pg_name (i := 6) nd rfl (.inl rfl)) (pgs_cons (pg_name (i := 7) nd rfl (.inl rfl)) pgs_nil)))
    (pss_cons (ps_set (i := 8) nd rfl (.inl rfl) (pe_ifExp (pt_cmp (pc_din hu (pv 6) (pv 4))) pe_int (pe_k (c_shared_times T) hr (by decide) (by rfl) (pa_cons (pv 7) (pa_cons (pe_k (c_front_times T F) hr (by decide) (by rfl) (pa_cons (pv 0) (pa_cons (pv 5) (pa_cons (pv 6) pa_nil)))) pa_nil)))))
    (C8.pss_cut (ps_if (pt_cmpR op_ne (pv 8) pe_int (nomark _)) (pss_cons (ps_expr (pe_bm PySem.F.plainAttrs_list PySem.F.slot_list_append PySem.F.type_list_append mt_append (pv 3) (pa_cons (pe_tup (pa_cons (pv 6) (pa_cons (pv 8) pa_nil))) pa_nil)))
    (pss_one (ps_set (i := 5) nd rfl (.inl rfl) (pe_k (c_piled T F) hr (by decide) (by rfl) (pa_cons (pv 0) (pa_cons (pe_op (op_catAk (K := K) rfl) (pe_tup (pa_cons (pe_tup (pa_cons (pv 6) (pa_cons (pe_un un_neg (pv 8)) pa_nil))) pa_nil)) (pv 5)) pa_nil)))))) pss_nil)
    (pss_one (ps_if (pt_cmpR op_ne (pv 8) (pv 7) (nomark _)) (pss_one (ps_for PassesOwn.never rfl (pi_tup (pe_dget hu (pv 0) (pv 6) (fun _ _ => rfl))) (pg_name (i := 9) nd rfl (.inl rfl))
    (pss_one (ps_dput hu (pv 4) (pv 9) pe_bl rfl)))) pss_nil)))))
    (pss_one (ps_ret (pe_tupleOf (by rfl) T.b_tuple (pv 3)))))))), ?_⟩
    obtain ⟨_, xs, ed, hS, hD⟩ := hL.steps
    cases ed
    have lx := hD.len
    rw [List.length_map] at lx
    refine ⟨Nat.zero_le _, fun D hD0 => fun B hB0 => ⟨_, rfl, ?_⟩⟩
    have s0 : Same H (upd (upd H D (.lst [])) B (.dK [])) := (same_upd hD0).trans (same_upd hB0)
    have hHB : H B = none := by
      cases eb : H B with
      | none => rfl
      | some o =>
        rw [same_upd hD0 B o eb] at hB0
        cases hB0
    have nDB : D ≠ B := fun z => by
      rw [← z, upd_same] at hB0
      cases hB0
    have eD0 : Row1 K (upd (upd H D (.lst [])) B (.dK [])) D [] := ⟨[], by rw [upd_ne nDB]; exact upd_same, .nil⟩
    have eB0 : Bars (upd (upd H D (.lst [])) B (.dK [])) B (fun _ => false) 0 := ⟨[], upd_same, Nat.le_refl _, fun _ => rfl⟩
    generalize upd (upd H D (.lst [])) B (.dK []) = H0 at s0 eD0 eB0 ⊢
    refine ⟨_, rfl, d, rfl, ⟨_, (Tk.of s0).sqT hS⟩, ?_⟩
    refine for_it (walk_tup (xs := xs)) (fun i σ H2 => ∃ (p : Addr) (y6 y7 y8 y9 : Option V) (st : XM.Cst Str), σ = [some (.ref t), some (.ref d), some (.ref e), some (.ref D), some (.ref B), some (.ref p), y6, y7, y8, y9] ∧ Same H H2 ∧ Row1 K H2 D st.1 ∧ Bars H2 B (fun n => st.2.1.any fun w => (touchL F w.1).contains n) (6 * i) ∧ Dp K H2 (.ref p) (dSteps st.2.2) ∧ CB F l m i st)
      ⟨e, none, none, none, none, ([], [], m), rfl, s0, eD0, eB0, tS hM s0, rfl, (fun _ h => nomatch h), (fun _ h => nomatch h), nm, Nat.le_refl _, Nat.le_refl _⟩ (fun i σ H2 _ ⟨_, _, _, _, _, _, _, s', _⟩ => (Tk.of s').sqT hS) (fun i x σ H2 H3 hi ⟨p, y6, y7, y8, y9, st, eσ, s2, eD, eB, hp, cb⟩ hy => ?_) (fun σ H2 ⟨p, y6, y7, y8, y9, st, eσ, s2, eD, eB, hp, cb⟩ => ?_)
    · obtain ⟨rfl, hx⟩ := hy
      subst eσ
      obtain ⟨dd, g1, p1⟩ := hD.get hx
      rw [List.getElem?_map] at g1
      obtain ⟨s, k1, rfl⟩ := Option.map_eq_some_iff.mp g1
      obtain ⟨b, rfl, cs⟩ := p1.step
      have cs := (Tk.of s2).sqT cs
      have ms := nl s (List.mem_of_getElem? k1)
      have cb' := cb.step k1 ms
      refine ⟨b, _, rfl, cs, rfl, _, _, rfl, _, _, rfl, rfl, ?_⟩
      show tIf _ _ _ _ _ _
      refine by_q (fun v H' => v = .int (XM.cpart (OF F) st.2.1 st.2.2 s) ∧ H' = H3) (fun Qx hQ => ?_) (fun v H' ⟨ev, eH⟩ => ?_)
      · obtain ⟨kvs, e1, e2, e3⟩ := eB
        refine ⟨_, rfl, _, rfl, B, _, rfl, DGet.k (k := .inr s.1) e1, _, rfl, ?_⟩
        rw [show (valV kvs (.inr s.1)).isSome = st.2.1.any (fun w => (OF F).tc w.1 s.1) from (e3 s.1).trans (bars_r ok ms _)]
        unfold XM.cpart at hQ
        cases hc : (st.2.1.any fun w => (OF F).tc w.1 s.1)
        · rw [if_neg (by rw [hc]; exact Bool.false_ne_true)] at hQ
          exact iteF ⟨_, rfl, _, rfl, _, rfl, _, rfl, t, p, s.1, st.2.2, rfl, hT.same s2, ok, hp, cb.nt, ms, _, _, rfl, hQ _ _ ⟨rfl, rfl⟩⟩
        · rw [if_pos hc] at hQ
          exact iteT (hQ _ _ ⟨rfl, rfl⟩)
      · subst ev
        subst eH
        obtain ⟨ys, eY, hY⟩ := eD
        have lY := hY.len
        rw [List.length_map] at lY
        have lc := cb.lc
        have lt := cb.lt
        refine ⟨fun σ H5 => ∃ (p' : Addr), σ = [some (.ref t), some (.ref d), some (.ref e), some (.ref D), some (.ref B), some (.ref p'), some (.str s.1), some (.int s.2), some (.int (XM.cpart (OF F) st.2.1 st.2.2 s)), y9] ∧ Same H H5 ∧ Row1 K H5 D (XM.cstep (OF F) st s).1 ∧ Bars H5 B (fun n => st.2.1.any fun w => (touchL F w.1).contains n) (6 * i) ∧ Dp K H5 (.ref p') (dSteps (XM.cstep (OF F) st s).2.2), ?_, ?_⟩
        · have c1 : (XM.cstep (OF F) st s).1 = if XM.cpart (OF F) st.2.1 st.2.2 s ≠ 0 then st.1 ++ [(s.1, XM.cpart (OF F) st.2.1 st.2.2 s)] else st.1 := rfl
          have c3 : (XM.cstep (OF F) st s).2.2 = if XM.cpart (OF F) st.2.1 st.2.2 s ≠ 0 then (XM.act (OF F) ((s.1, -XM.cpart (OF F) st.2.1 st.2.2 s) :: st.2.2) []).reverse else st.2.2 := rfl
          rw [c1, c3]
          generalize XM.cpart (OF F) st.2.1 st.2.2 s = part
          refine ⟨_, rfl, rfl, _, rfl, ite2 (fun h => ?_) (fun h => ?_)⟩
          · have h : part ≠ 0 := fun z => by
              rw [z] at h
              revert h
              decide
            rw [if_pos h, if_pos h]
            refine ⟨_, rfl, Or.inl ⟨rfl, _, SqL.of eY⟩, _, rfl, _, rfl, two_sz, fun z1 m1 => upd_gen m1 fun J1 j1 f1 => ⟨D, _, _, rfl, rfl, j1 _ _ eY, small1000 (by omega), ?_⟩⟩
            have eY1 := j1 _ _ eY
            have tP : Tk J1 (upd J1 D (.lst (ys ++ [.ref z1]))) := Tk.refl.lst eY1
            have sP : Same H (upd J1 D (.lst (ys ++ [.ref z1]))) := same_put (s2.trans j1) hD0
            have bP := (eB.same j1).put (o := .lst (ys ++ [.ref z1])) nDB.symm
            have rP : Row1 K (upd J1 D (.lst (ys ++ [.ref z1]))) D (st.1 ++ [(s.1, part)]) := ⟨ys ++ [.ref z1], upd_same, by
              rw [List.map_append]
              exact (DpAll.tk ((Tk.of j1).trans tP) _ (flat_all_steps _) hY).app (.cons (Dp.of_step (s := (s.1, part)) (tP.sqT (SqT.of f1))) .nil)⟩
            have hpP := Dp.tk ((Tk.of j1).trans tP) _ (flat_steps _) hp
            have eP : upd J1 D (.lst (ys ++ [.ref z1])) D = some (.lst (ys ++ [.ref z1])) := upd_same
            generalize upd J1 D (.lst (ys ++ [.ref z1])) = J2 at sP bP rP hpP eP ⊢
            refine ⟨_, rfl, _, rfl, _, rfl, _, rfl, two_sz, fun z2 m2 => upd_gen m2 fun J3 j3 f3 => ⟨one_sz, fun z3 m3 => upd_gen m3 fun J4 j4 f4 => ⟨_, rfl, ?_⟩⟩⟩
            have h1 : Dp K J4 (.ref z3) (dSteps [(s.1, -part)]) := .tup (SqT.of f4) (.cons (dstep_of (s.1, -part) f3 j4) .nil)
            refine catD h1 (Dp.sm (j3.trans j4) _ hpP) (by rw [List.length_singleton]; omega) fun J5 p5 j5 h5 => ?_
            obtain ⟨_, zs, ez, hzS, hzD⟩ := h5.steps
            cases ez
            have j35 := (j3.trans j4).trans j5
            refine ⟨t, p5, zs, (s.1, -part) :: st.2.2, rfl, hT.same (sP.trans j35), ok, hzS, hzD, by rw [List.length_cons]; omega, fun z hz => (List.mem_cons.mp hz).elim (fun q => by rw [q]; exact ms) (cb.nt z), fun J6 p6 j6 h6 => ?_⟩
            have j36 := j35.trans j6
            obtain ⟨ws, eW, hW⟩ := rP
            exact ⟨p6, rfl, sP.trans j36, ⟨ws, j36 _ _ eW, DpAll.sm j36 _ hW⟩, bP.same j36, h6⟩
          · have h : part = 0 := Classical.byContradiction fun z => h (by
              rw [decide_eq_false fun q => z (by injection q)]
              rfl)
            rw [if_neg (fun q => q h), if_neg (fun q => q h)]
            exact ⟨p, rfl, s2, ⟨ys, eY, hY⟩, eB, hp⟩
        · rintro σ H5 ⟨p', rfl, s5, r5, b5, h5⟩
          have c2 : (XM.cstep (OF F) st s).2.1 = if XM.cpart (OF F) st.2.1 st.2.2 s ≠ s.2 then st.2.1 ++ [(s.1, s.2 - XM.cpart (OF F) st.2.1 st.2.2 s)] else st.2.1 := rfl
          generalize XM.cpart (OF F) st.2.1 st.2.2 s = part at c2 ⊢
          refine ⟨_, rfl, _, rfl, rfl, _, rfl, ite2 (fun h => ?_) (fun h => ?_)⟩
          · have h : part ≠ s.2 := fun z => by
              rw [z, decide_eq_true rfl] at h
              cases h
            rw [if_pos h] at c2
            obtain ⟨kvs, e1, g⟩ := hT.same s5
            obtain ⟨r, e2, e3⟩ := g s.1 ms
            have dg : DGet H5 t (.str s.1) (some (.ref r)) := by
              have := DGet.k (k := .inr s.1) e1
              rwa [e2] at this
            have htl : (touchL F s.1).length ≤ 6 := Nat.le_trans (List.length_filter_le _ _) ok.n6
            refine ⟨_, rfl, _, rfl, t, .ref r, rfl, dg, r, rfl, ⟨_, e3⟩, ?_⟩
            refine for_it (walk_tup (xs := (touchL F s.1).map V.str)) (fun j σ H6 => ∃ (y9 : Option V), σ = [some (.ref t), some (.ref d), some (.ref e), some (.ref D), some (.ref B), some (.ref p'), some (.str s.1), some (.int s.2), some (.int part), y9] ∧ Tk H5 H6 ∧ Same H H6 ∧ Row1 K H6 D (XM.cstep (OF F) st s).1 ∧ Dp K H6 (.ref p') (dSteps (XM.cstep (OF F) st s).2.2) ∧ Bars H6 B (fun n => (st.2.1.any fun w => (touchL F w.1).contains n) || ((touchL F s.1).take j).contains n) (6 * i + j))
              ⟨y9, rfl, Tk.refl, s5, r5, h5, ?_⟩ (fun j σ H6 _ ⟨_, _, k6, _⟩ => k6.sqT e3) (fun j x σ H6 H7 hj ⟨y9, eσ, k6, s6, r6, h6, b6⟩ hy => ?_) (fun σ H6 ⟨y9, eσ, k6, s6, r6, h6, b6⟩ => ?_)
            · obtain ⟨kv, f1, f2, f3⟩ := b5
              exact ⟨kv, f1, f2, fun n => by rw [f3]; simp⟩
            · obtain ⟨rfl, hx⟩ := hy
              subst eσ
              obtain ⟨o, ho, rfl⟩ := str_at hx
              obtain ⟨kv, f1, f2, f3⟩ := b6
              rw [List.length_map] at hj
              refine ⟨_, rfl, _, rfl, B, _, rfl, DPut.k (k := .inr o) f1 (small1000 (by omega)), ?_⟩
              have kk := Tk.refl.mut (o := .dK (putK kv (.inr o) (.bl true))) f1 (fun _ q => nomatch q) (fun _ _ q => nomatch q)
              obtain ⟨ws, eW, hW⟩ := r6
              refine ⟨_, rfl, k6.trans kk, same_put s6 hHB, ⟨ws, by rw [upd_ne nDB]; exact eW, DpAll.tk kk _ (flat_all_steps _) hW⟩, Dp.tk kk _ (flat_steps _) h6, putK kv (.inr o) (.bl true), upd_same, ?_, fun n => ?_⟩
              · have := length_putK kv (.inr o) (.bl true)
                omega
              · rw [valV_put, take_snoc ho]
                by_cases q : n = o
                · subst q
                  rw [if_pos rfl]
                  simp
                · rw [if_neg (fun z => q (Sum.inr.inj z)), f3]
                  simp [q]
            · subst eσ
              obtain ⟨kv, f1, f2, f3⟩ := b6
              refine ⟨p', _, _, _, _, _, rfl, s6, r6, ⟨kv, f1, ?_, fun n => ?_⟩, h6, cb'⟩
              · rw [List.length_map] at f2
                omega
              · rw [f3, List.length_map, List.take_length, c2]
                show (_ || _) = List.any (_ ++ _) _
                rw [List.any_append]
                simp
          · have h : part = s.2 := Classical.byContradiction fun z => h (by
              rw [decide_eq_false fun q => z (by injection q)]
              rfl)
            rw [if_neg (fun q => q h)] at c2
            refine ⟨p', _, _, _, _, _, rfl, s5, r5, ?_, h5, cb'⟩
            rw [c2]
            obtain ⟨kv, f1, f2, f3⟩ := b5
            exact ⟨kv, f1, by omega, f3⟩
    · subst eσ
      obtain ⟨ys, e1, hY⟩ := eD
      have lY := hY.len
      rw [List.length_map] at lY
      refine ⟨_, rfl, .inl ⟨D, ys, rfl, SqL.of e1, fun r nr => upd_gen nr fun H4 s4 e4 => q H4 r (s2.trans s4) ?_⟩⟩
      have ec := cb.e
      rw [lx, List.take_length] at ec
      have : XM.cmn (OF F) l m = st.1 := by rw [ec]; rfl
      rw [this]
      exact .tup (SqT.of e4) (DpAll.tk (Tk.of s4) _ (flat_all_steps _) hY)
end
end XB
set_option Elab.async false
set_option linter.all false
set_option maxRecDepth 100000
set_option maxHeartbeats 4000000
namespace XB
open PySem PySem.Spec PyProof.Rows L2
theorem cb_at {F : Fld} {l m : List (Str × Int)} (nl : Names F l) (nm : Names F m) : ∀ i, i ≤ l.length → CB F l m i ((l.take i).foldl (XM.cstep (OF F)) ([], [], m))
  | 0, _ => ⟨rfl, (fun _ h => nomatch h), (fun _ h => nomatch h), nm, Nat.le_refl _, Nat.le_refl _⟩
  | i + 1, h => by
    have k : l[i]? = some l[i] := List.getElem?_eq_getElem h
    have c := (cb_at nl nm i (by omega)).step k (nl _ (List.getElem_mem h))
    have e := c.e
    rw [← e]
    exact c
theorem cmn_cb {F : Fld} {l m : List (Str × Int)} (nl : Names F l) (nm : Names F m) : Names F (XM.cmn (OF F) l m) ∧ (XM.cmn (OF F) l m).length ≤ l.length := by
  have c := cb_at nl nm l.length (Nat.le_refl _)
  rw [List.take_length] at c
  exact ⟨c.nc, c.lc⟩
theorem names_pile {F : Fld} {l : List (Str × Int)} (h : Names F l) : Names F (XM.pile (OF F) l) := names_rev (names_act (r := []) h fun _ h => nomatch h)
theorem len_pile {F : Fld} {l : List (Str × Int)} : (XM.pile (OF F) l).length ≤ l.length := act_len1
theorem Names.app {F : Fld} {l m : List (Str × Int)} (h : Names F l) (g : Names F m) : Names F (l ++ m) := fun s hs => (List.mem_append.mp hs).elim (h s) (g s)
/-- the middle: its names, its length -/
theorem mid_bounds {F : Fld} {x y z : List (Str × Int)} (nx : Names F x) (ny : Names F y) (nz : Names F z) : Names F (XM.mid (OF F) x y z) ∧ (XM.mid (OF F) x y z).length ≤ 2 * x.length + y.length := by
  have n1 : Names F (XM.pile (OF F) (XM.back x ++ y)) := names_pile (Names.app (names_back nx) ny)
  have n2 : Names F (XM.pile (OF F) (XM.back x ++ z)) := names_pile (Names.app (names_back nx) nz)
  obtain ⟨c1, c2⟩ := cmn_cb n1 n2
  refine ⟨names_pile (Names.app nx c1), ?_⟩
  have h1 : (XM.mid (OF F) x y z).length ≤ _ := len_pile
  have h2 := len_pile (F := F) (l := XM.back x ++ y)
  rw [List.length_append, len_back] at h2
  rw [List.length_append] at h1
  omega
section
variable {P : Program} {w : World} {K : PySem.W.Frag} {mg : Str → Option Value} {base : Heap}
def FS3 (K : PySem.W.Frag) (F : Fld) (l m n : List (Str × Int)) (vs : List V) (H : Hp) : Prop := ∃ (a d e f : Addr), vs = [.ref a, .ref d, .ref e, .ref f] ∧ Dp K H (.ref a) (dField F) ∧ F.Ok ∧ Dp K H (.ref d) (dSteps l) ∧ GoodScript F l ∧ Dp K H (.ref e) (dSteps m) ∧ GoodScript F m ∧ Dp K H (.ref f) (dSteps n) ∧ GoodScript F n
def spMiddlePile (K : PySem.W.Frag) (F : Fld) : Sp := fun vs H Q _ => ∃ (t d e f : Addr) (l m n : List (Str × Int)), vs = [.ref t, .ref d, .ref e, .ref f] ∧ TouchAt K H t F ∧ F.Ok ∧ Dp K H (.ref d) (dSteps l) ∧ Dp K H (.ref e) (dSteps m) ∧ Dp K H (.ref f) (dSteps n) ∧ l.length ≤ 60 ∧ m.length ≤ 60 ∧ n.length ≤ 60 ∧ Names F l ∧ Names F m ∧ Names F n ∧
  ∀ H' r, Same H H' → Dp K H' (.ref r) (dSteps (XM.mid (OF F) l m n)) → Q (.ref r) H'
theorem c_middle_pile (T : Tx K mg) (F : Fld) : Cl P w K mg base CX0 4 "middle_pile" (spMiddlePile K F) := by
  refine cl0 T.d_middle_pile (ps := ["touch", "one", "two", "three"]) (fun _ _ _ _ _ _ us hl => match us, hl with | [_, _, _, _], _ => rfl) sc_middle_pile (fun vs H Q E h => ?_) (fun fa cdv A outer st H vs Q E hr h => ?_)
  · obtain ⟨t, d, e, f, l, m, n, rfl, _⟩ := h
    rfl
  · obtain ⟨t, d, e, f, l, m, n, rfl, hT, ok, hL, hM, hN, l1, l2, l3, n1, n2, n3, q⟩ := h
    have nd := sc_middle_pile.nd
    refine ⟨_, (pss_one (ps_ret (pe_k (c_piled T F) hr (by decide) (by rfl) (pa_cons (pv 0) (pa_cons (pe_op (op_catAk (K := K) rfl) (pv 1) (pe_k (c_common_of T F) hr (by decide) (by rfl) (pa_cons (pv 0) (pa_cons (pe_k (c_leading T F) hr (by decide) (by rfl) (pa_cons (pv 0) (pa_cons (pv 1) (pa_cons (pv 2) pa_nil)))) (pa_cons (pe_k (c_leading T F) hr (by decide) (by rfl) (pa_cons (pv 0) (pa_cons (pv 1) (pa_cons (pv 3) pa_nil)))) pa_nil))))) pa_nil))))), ?_⟩
    refine ⟨_, rfl, _, rfl, _, rfl, _, rfl, _, rfl, _, rfl, t, d, e, l, m, rfl, hT, ok, hL, hM, by omega, n1, n2, fun H1 r1 s1 h1 => ?_⟩
    refine ⟨_, rfl, _, rfl, _, rfl, t, d, f, l, n, rfl, hT.same s1, ok, tS hL s1, tS hN s1, by omega, n1, n3, fun H2 r2 s2 h2 => ?_⟩
    have s12 := s1.trans s2
    have b1 := len_pile (F := F) (l := XM.back l ++ m)
    have b2 := len_pile (F := F) (l := XM.back l ++ n)
    rw [List.length_append, len_back] at b1 b2
    have m1 : Names F (XM.pile (OF F) (XM.back l ++ m)) := names_pile (Names.app (names_back n1) n2)
    have m2 : Names F (XM.pile (OF F) (XM.back l ++ n)) := names_pile (Names.app (names_back n1) n3)
    refine ⟨t, r1, r2, _, _, rfl, hT.same s12, ok, tS h1 s2, h2, (by omega : (XM.pile (OF F) (XM.back l ++ m)).length ≤ 150), (by omega : (XM.pile (OF F) (XM.back l ++ n)).length ≤ 150), m1, m2, fun H3 r3 s3 h3 => ?_⟩
    obtain ⟨c1, c2⟩ := cmn_cb m1 m2
    have s13 := s12.trans s3
    refine catD (tS hL s13) h3 (by have : (XM.cmn (OF F) (XM.pile (OF F) (XM.back l ++ m)) (XM.pile (OF F) (XM.back l ++ n))).length ≤ 120 := by omega
                                   exact Nat.le_trans (Nat.add_le_add l1 this) (by decide)) fun H4 r4 s4 h4 => ?_
    obtain ⟨_, xs, ex, hxS, hxD⟩ := h4.steps
    cases ex
    exact ⟨t, r4, xs, _, rfl, hT.same (s13.trans s4), ok, hxS, hxD, by
      rw [List.length_append]
      have : (XM.cmn (OF F) (XM.pile (OF F) (XM.back l ++ m)) (XM.pile (OF F) (XM.back l ++ n))).length ≤ 120 := by omega
      exact Nat.le_trans (Nat.add_le_add l1 this) (by decide), Names.app n1 c1, fun H5 r5 s5 h5 => q H5 r5 ((s13.trans s4).trans s5) h5⟩
def spMiddle (K : PySem.W.Frag) (F : Fld) : Sp := fun vs H Q _ => ∃ l m n, FS3 K F l m n vs H ∧ ∀ H' r, Same H H' → Dp K H' (.ref r) (dSteps (XM.mid (OF F) (XM.pile (OF F) l) (XM.pile (OF F) m) (XM.pile (OF F) n))) → Q (.ref r) H'
end
end XB
set_option Elab.async false
set_option linter.all false
set_option maxRecDepth 100000
set_option maxHeartbeats 4000000
namespace XB
open PySem PySem.Spec PyProof.Rows L2
/-! Piles made of pieces -/
/-- an expression that is never come to -/
theorem pe_no {X : Cx} {e : Expr} : PE X e (fun _ _ _ => False) := ⟨fun _ _ _ _ _ _ h => h.elim⟩
/-- a Pile of a field, with its steps -/
def PV (K : PySem.W.Frag) (mg : Str → Option Value) (H : Hp) (a : Addr) (F : Fld) (u : List (Str × Int)) : Prop := ∃ f s, PileAt mg H a (.ref f) (.ref s) ∧ Dp K H (.ref f) (dField F) ∧ Dp K H (.ref s) (dSteps u)
section
variable {P : Program} {w : World} {K : PySem.W.Frag} {mg : Str → Option Value} {base : Heap}
def spPcInit (mg : Str → Option Value) : Sp := fun vs H Q _ => ∃ (a dx C : Addr) (v : V), vs = [.ref a, v] ∧ mg "Pieces" = some (.ref C) ∧ H a = some (.ins C dx []) ∧ Q .non (upd H a (.ins C dx [("made", v)]))
theorem c_Pieces_init (T : Tx K mg) : MCl P w K mg base (L2.CX P w) 1 "Pieces" "__init__" (spPcInit mg) := by
  refine mclX T.m_Pieces___init__ (ps := ["self", "made"]) (fun _ _ _ _ _ _ us hl => match us, hl with | [_, _], _ => rfl) sc_Pieces___init__ (fun vs H Q E h => ?_) (fun f cdv A outer st H vs Q E hr h => ?_)
  · obtain ⟨a, dx, C, v, rfl, _⟩ := h
    rfl
  · obtain ⟨a, dx, C, v, rfl, hC, hi, q⟩ := h
    exact ⟨_, pss_one (ps_fld (pv 0) (pv 1) rfl), _, rfl, _, rfl, a, C, dx, [], rfl, hi, oc_cls T.o_Pieces hC, T.n_Pieces_made C hC, (by decide), q⟩
def spInitP (K : PySem.W.Frag) (mg : Str → Option Value) : Sp := fun vs H Q _ => ∃ (F : Fld) (a dx f p s C : Addr) (u : List (Str × Int)), vs = [.ref a, .ref f, .ref p] ∧ mg "Pile" = some (.ref C) ∧ H a = some (.ins C dx []) ∧ Dp K H (.ref f) (dField F) ∧ Ins mg "Pieces" H p [("made", .ref s)] ∧ Dp K H (.ref s) (dSteps u) ∧
  ∀ H', Same (fun b => if b = a then none else H b) H' → PV K mg H' a F u → Q .non H'
theorem c_Pile_initP (T : Tx K mg) : MCl P w K mg base (L2.CX P w) 2 "Pile" "__init__" (spInitP K mg) := by
  refine mclX T.m_Pile___init__ (ps := ["self", "field", "deeds"]) (fun _ _ _ _ _ _ us hl => match us, hl with | [_, _, _], _ => rfl) sc_Pile___init__ (fun vs H Q E h => ?_) (fun f cdv A outer st H vs Q E hr h => ?_)
  · obtain ⟨F, a, dx, f, p, s, C, u, rfl, _⟩ := h
    rfl
  · obtain ⟨F, a, dx, fa, p, s, C, u, rfl, hC, hi, hF, hp, hs, q⟩ := h
    obtain ⟨D, dp, hD, hip⟩ := id hp
    refine ⟨_, pss_cons (ps_fld (pv 0) (pe_ifExp (pt_val (pe_callB call_isi (by rfl) T.b_isinstance (by decide +kernel) (pa_cons (pv 2) (pa_cons (pe_glob (v := .ref D) (by rfl) hD rfl) pa_nil)))) (pe_fld (pv 2) rfl) pe_no) rfl) (pss_one (ps_fld (pv 0) (pv 1) rfl)), ?_⟩
    refine ⟨_, rfl, .ref p, .ref D, _, _, _, rfl, .own D, tyx_ins T.o_Pieces hD hp, T.i_Pieces_Pieces D D hD hD, _, rfl, iteT ⟨_, rfl, p, D, dp, _, .ref s, rfl, hip, oc_cls T.o_Pieces hD, T.n_Pieces_made D hD, rfl, ?_⟩⟩
    refine ⟨_, rfl, a, C, dx, [], rfl, hi, oc_cls T.o_Pile hC, T.n_Pile__steps C hC, (by decide), ?_⟩
    refine ⟨_, rfl, _, rfl, a, C, dx, _, rfl, upd_same, oc_cls T.o_Pile hC, T.n_Pile__field C hC, (show 1 < 1000 by decide), ?_⟩
    have t1 : Tk H (upd H a (.ins C dx (putF "_steps" (.ref s) []))) := Tk.refl.mut hi (fun _ q => nomatch q) (fun _ _ q => nomatch q)
    have t2 : Tk H (upd (upd H a (.ins C dx (putF "_steps" (.ref s) []))) a (.ins C dx (putF "_field" (.ref fa) (putF "_steps" (.ref s) [])))) := t1.mut (p := a) upd_same (fun _ q => nomatch q) (fun _ _ q => nomatch q)
    refine q _ (fun b o e => ?_) ⟨fa, s, ⟨_, ⟨C, dx, hC, upd_same⟩, rfl, rfl, fun m m1 m2 => by
      show ([(("_steps" : Str), V.ref s), (("_field" : Str), V.ref fa)] : List (Str × V)).lookup m = none
      rw [List.lookup_cons, m2, List.lookup_cons, m1]
      rfl⟩, Dp.tk t2 _ (flat_field F) hF, Dp.tk t2 _ (flat_steps u) hs⟩
    have e : (if b = a then none else H b) = some o := e
    by_cases h : b = a
    · rw [if_pos h] at e
      cases e
    · rw [if_neg h] at e
      rw [upd_ne h, upd_ne h]
      exact e
/-- a least pile is made a Pile -/
def spMade (K : PySem.W.Frag) (mg : Str → Option Value) : Sp := fun vs H Q _ => ∃ (F : Fld) (f s : Addr) (u : List (Str × Int)), vs = [.ref f, .ref s] ∧ Dp K H (.ref f) (dField F) ∧ Dp K H (.ref s) (dSteps u) ∧ u.length ≤ 200 ∧ ∀ H' a, Same H H' → PV K mg H' a F u → Q (.ref a) H'
theorem c_made_pile (T : Tx K mg) : Cl P w K mg base CX0 4 "made_pile" (spMade K mg) := by
  refine cl0 T.d_made_pile (ps := ["field", "pieces"]) (fun _ _ _ _ _ _ us hl => match us, hl with | [_, _], _ => rfl) sc_made_pile (fun vs H Q E h => ?_) (fun f cdv A outer st H vs Q E hr h => ?_)
  · obtain ⟨F, f, s, u, rfl, _⟩ := h
    rfl
  · obtain ⟨F, fa, s, u, rfl, hF, hs, hl, q⟩ := h
    have nd := sc_made_pile.nd
    obtain ⟨cMP, h_MOST_PIECES⟩ := T.g_MOST_PIECES
    refine ⟨_, (pss_cons (ps_if (pt_cmpR op_gt (pe_lenS (by rfl) T.b_len (pv 1)) (pe_glob (v := .int 200) (by rfl) h_MOST_PIECES ⟨_, rfl⟩) (nomark _)) pss_never pss_nil)
    (pss_one (ps_ret (pe_mkO T.o_Pile (c_Pile_initP T) hr (by decide) (by rfl) (E := E0) passL (pa_cons (pv 0) (pa_cons (pe_mkO T.o_Pieces (c_Pieces_init T) hr (by decide) (by rfl) (E := E0) passL (pa_cons (pv 1) pa_nil)) pa_nil)))))), ?_⟩
    --@
    obtain ⟨_, xs, e, hS, hV⟩ := hs.steps
    cases e
    have lx := hV.len
    rw [List.length_map] at lx
    refine ⟨_, rfl, s, xs, rfl, .inr hS, _, _, rfl, rfl, _, rfl, ?_⟩
    refine ite2 (fun z => absurd (of_decide_eq_true z) (by omega)) (fun _ => ⟨_, rfl, _, rfl, ?_⟩)
    refine fun D hD p dp np ndp ne => ⟨p, dp, D, .ref s, rfl, hD, upd_same, rfl, fun C hC a dx na nda ne2 => ?_⟩
    have n1 : (upd H dp (.own p)) p = none := by
      rw [upd_ne ne.symm]
      exact np
    have s1 : Same H (upd (upd H dp (.own p)) p (.ins D dp [])) := (same_upd ndp).trans (same_upd n1)
    have s2 : Same H (upd (upd (upd H dp (.own p)) p (.ins D dp [])) p (.ins D dp [("made", .ref s)])) := same_put s1 np
    have e2 : (upd (upd (upd H dp (.own p)) p (.ins D dp [])) p (.ins D dp [("made", .ref s)])) p = some (.ins D dp [("made", .ref s)]) := upd_same
    generalize upd (upd (upd H dp (.own p)) p (.ins D dp [])) p (.ins D dp [("made", .ref s)]) = H2 at na nda s2 e2 ⊢
    have n2 : (upd H2 dx (.own a)) a = none := by
      rw [upd_ne ne2.symm]
      exact na
    have s3 : Same H2 (upd (upd H2 dx (.own a)) a (.ins C dx [])) := (same_upd nda).trans (same_upd n2)
    have s03 := s2.trans s3
    refine ⟨F, a, dx, fa, p, s, C, u, rfl, hC, upd_same, Dp.sm s03 _ hF, ⟨D, dp, hD, s3 _ _ e2⟩, Dp.sm s03 _ hs, fun H' sm hA => ⟨rfl, q H' a (fun b o e => sm b o ?_) hA⟩⟩
    have nb : b ≠ a := ne_of_none (s2 _ _ e) na
    show (if b = a then none else _) = some o
    rw [if_neg nb]
    exact s03 b o e
end
end XB
set_option Elab.async false
set_option linter.all false
set_option maxRecDepth 100000
set_option maxHeartbeats 4000000
namespace XB
open PySem PySem.Spec PyProof.Rows L2
/-! product, taking back -/
theorem PV.same {K : PySem.W.Frag} {mg : Str → Option Value} {H H' : Hp} {a : Addr} {F : Fld} {u : List (Str × Int)} (h : PV K mg H a F u) (s : Same H H') : PV K mg H' a F u := by
  obtain ⟨f, t, ⟨fs, ⟨C, dx, hC, hi⟩, r⟩, hF, hu⟩ := h
  exact ⟨f, t, ⟨fs, ⟨C, dx, hC, s _ _ hi⟩, r⟩, Dp.sm s _ hF, Dp.sm s _ hu⟩
section
variable {P : Program} {w : World} {K : PySem.W.Frag} {mg : Str → Option Value} {base : Heap}
def spInv (K : PySem.W.Frag) (mg : Str → Option Value) (F : Fld) : Sp := fun vs H Q _ => ∃ (a : Addr) (u : List (Str × Int)), vs = [.ref a] ∧ PV K mg H a F u ∧ F.Ok ∧ Names F u ∧ u.length ≤ 200 ∧
  ∀ H' c, Same H H' → PV K mg H' c F (XM.act (OF F) (XM.back u) []).reverse → Q (.ref c) H'
theorem c_Pile_invert (T : Tx K mg) (F : Fld) : MCl P w K mg base (L2.CX P w) 5 "Pile" "__invert__" (spInv K mg F) := by
  refine mclX T.m_Pile___invert__ (ps := ["self"]) (fun _ _ _ _ _ _ us hl => match us, hl with | [_], _ => rfl) sc_Pile___invert__ (fun vs H Q E h => ?_) (fun f cdv A outer st H vs Q E hr h => ?_)
  · obtain ⟨a, u, rfl, _⟩ := h
    rfl
  · obtain ⟨a, u, rfl, hP, ok, nu, lu, q⟩ := h
    refine ⟨_, (pss_one (ps_ret (pe_k (c_made_pile T) hr (by decide) (by rfl) (pa_cons (pe_fld (pv 0) rfl) (pa_cons (pe_k (c_piled T F) hr (by decide) (by rfl) (pa_cons (pe_k (c_touch_table T) hr (by decide) (by rfl) (pa_cons (pe_fld (pv 0) rfl) pa_nil)) (pa_cons (pe_k (c_back T) hr (by decide) (by rfl) (pa_cons (pe_fld (pv 0) rfl) pa_nil)) pa_nil))) pa_nil))))), ?_⟩
    --@
    obtain ⟨f1, s1, ⟨fs, ⟨C, dx, hm, hi⟩, l1, l2, _⟩, hF, hu⟩ := id hP
    have fld : ∀ {H' : Hp}, Same H H' → H' a = some (.ins C dx fs) := fun s => s _ _ hi
    refine ⟨_, rfl, a, C, dx, fs, .ref f1, rfl, hi, oc_cls T.o_Pile hm, T.n_Pile__field C hm, l1, ?_⟩
    refine ⟨_, rfl, a, C, dx, fs, .ref f1, rfl, hi, oc_cls T.o_Pile hm, T.n_Pile__field C hm, l1, f1, F, rfl, hF, ok, fun H1 t t1 nt hT => ?_⟩
    refine ⟨_, rfl, a, C, dx, fs, .ref s1, rfl, fld t1, oc_cls T.o_Pile hm, T.n_Pile__steps C hm, l2, s1, u, rfl, Dp.sm t1 _ hu, by omega, fun H2 r t2 hr2 => ?_⟩
    obtain ⟨_, xs, e, hS, hV⟩ := hr2.steps
    cases e
    refine ⟨t, r, xs, XM.back u, rfl, hT.same t2, ok, hS, hV, ?_, ?_, fun H3 r3 t3 hd3 => ?_⟩
    · rw [len_back]
      omega
    · exact names_back nu
    · have t13 := t1.trans (t2.trans t3)
      have la := act_len1 (F := F) (l := XM.back u)
      rw [len_back] at la
      exact ⟨F, f1, r3, _, rfl, Dp.sm t13 _ hF, hd3, by omega, fun H4 c t4 hP4 => q H4 c (t13.trans t4) hP4⟩
def spMulP (K : PySem.W.Frag) (mg : Str → Option Value) (F : Fld) : Sp := fun vs H Q _ => ∃ (a b : Addr) (u v : List (Str × Int)), vs = [.ref a, .ref b] ∧ PV K mg H a F u ∧ PV K mg H b F v ∧ F.Ok ∧ Names F u ∧ Names F v ∧ u.length + v.length ≤ 200 ∧
  ∀ H' c, Same H H' → PV K mg H' c F (XM.act (OF F) (u ++ v) []).reverse → Q (.ref c) H'
theorem c_Pile_mul (T : Tx K mg) (F : Fld) : MCl P w K mg base (L2.CX P w) 5 "Pile" "__mul__" (spMulP K mg F) := by
  refine mclX T.m_Pile___mul__ (ps := ["self", "other"]) (fun _ _ _ _ _ _ us hl => match us, hl with | [_, _], _ => rfl) sc_Pile___mul__ (fun vs H Q E h => ?_) (fun f cdv A outer st H vs Q E hr h => ?_)
  · obtain ⟨a, b, u, v, rfl, _⟩ := h
    rfl
  · obtain ⟨a, b, u, v, rfl, hP, hR, ok, nu, nv, lu, q⟩ := h
    have tk : Takes (cxOf (L2.CX P w) P w K mg base ["self", "other"] "Pile.__mul__" (defScope s_Pile___mul__) f cdv A outer st H E) fun cls d _ H => E cls d H := takes_of rfl rfl rfl rfl
    obtain ⟨D, hD⟩ : ∃ D, mg "Pile" = some (.ref D) := by
      obtain ⟨D, hD, _⟩ := T.o_Pile.ex
      exact ⟨D, hD⟩
    refine ⟨_, (pss_cons (ps_if (pt_not (pt_val (pe_callB call_isi (by rfl) T.b_isinstance (by decide +kernel) (pa_cons (pv 1) (pa_cons (pe_glob (v := .ref D) (by rfl) hD rfl) pa_nil))))) pss_never pss_nil)
    (pss_cons (ps_expr (pe_kX (c_need_like T) hr (by decide) tk (by rfl) (pa_cons (pv 0) (pa_cons (pv 1) pa_nil))))
    (pss_one (ps_ret (pe_k (c_made_pile T) hr (by decide) (by rfl) (pa_cons (pe_fld (pv 0) rfl) (pa_cons (pe_k (c_piled T F) hr (by decide) (by rfl) (pa_cons (pe_k (c_touch_table T) hr (by decide) (by rfl) (pa_cons (pe_fld (pv 0) rfl) pa_nil)) (pa_cons (pe_op (op_catAk (K := K) rfl) (pe_fld (pv 0) rfl) (pe_fld (pv 1) rfl)) pa_nil))) pa_nil))))))), ?_⟩
    --@
    obtain ⟨f1, s1, hPA, hF, hu⟩ := id hP
    obtain ⟨f2, s2, hRA, hG, hv⟩ := id hR
    obtain ⟨fs, ⟨C, dx, hm, hi⟩, l1, l2, _⟩ := id hPA
    obtain ⟨gs, ⟨C2, dy, hm2, hj⟩, k1, k2, _⟩ := id hRA
    have sh := (fld_fok ok).sh
    refine ⟨_, rfl, .ref b, .ref D, _, _, _, rfl, .own D, tyx_ins T.o_Pile hD ⟨C2, dy, hm2, hj⟩, T.i_Pile_Pile D D hD hD, _, rfl, iteF ⟨_, rfl, _, rfl, a, b, .ref f1, .ref s1, .ref f2, .ref s2, dField F, dField F, rfl, hPA, hRA, hF, hG, sh, sh, .inl ⟨PySem.SeqAt.eqv_refl _ ?_, ?_⟩⟩⟩
    · exact (fld_okd ok).lay
    refine ⟨_, rfl, a, C, dx, fs, .ref f1, rfl, hi, oc_cls T.o_Pile hm, T.n_Pile__field C hm, l1, ?_⟩
    refine ⟨_, rfl, a, C, dx, fs, .ref f1, rfl, hi, oc_cls T.o_Pile hm, T.n_Pile__field C hm, l1, f1, F, rfl, hF, ok, fun H1 t t1 nt hT => ?_⟩
    refine ⟨_, rfl, a, C, dx, fs, .ref s1, rfl, t1 _ _ hi, oc_cls T.o_Pile hm, T.n_Pile__steps C hm, l2, _, rfl, b, C2, dy, gs, .ref s2, rfl, t1 _ _ hj, oc_cls T.o_Pile hm2, T.n_Pile__steps C2 hm2, k2, ?_⟩
    obtain ⟨_, xs, e, hS, hV⟩ := hu.steps
    cases e
    obtain ⟨_, ys, e, hS2, hV2⟩ := hv.steps
    cases e
    have lx := hV.len
    have ly := hV2.len
    rw [List.length_map] at lx ly
    refine catA ((Tk.of t1).sqT hS) ((Tk.of t1).sqT hS2) (Nat.le_of_lt (small1000 (by omega))) fun H2 r t2 hS3 => ?_
    refine ⟨t, r, xs ++ ys, u ++ v, rfl, hT.same t2, ok, hS3, ?_, by rw [List.length_append]; omega, ?_, fun H3 r3 t3 hd3 => ?_⟩
    · rw [List.map_append]
      exact (DpAll.sm (t1.trans t2) _ hV).app (DpAll.sm (t1.trans t2) _ hV2)
    · exact fun s hs => (List.mem_append.mp hs).elim (nu s) (nv s)
    · have t13 := t1.trans (t2.trans t3)
      have la := act_len1 (F := F) (l := u ++ v)
      rw [List.length_append] at la
      exact ⟨F, f1, r3, _, rfl, Dp.sm t13 _ hF, hd3, by omega, fun H4 c t4 hP4 => q H4 c (t13.trans t4) hP4⟩
end
end XB
set_option Elab.async false
set_option linter.all false
set_option maxRecDepth 100000
set_option maxHeartbeats 4000000
namespace XB
open PySem PySem.Spec PyProof.Rows L2
/-! the greatest common lower part, the middle -/
section
variable {P : Program} {w : World} {K : PySem.W.Frag} {mg : Str → Option Value} {base : Heap}
def spAndP (K : PySem.W.Frag) (mg : Str → Option Value) (F : Fld) : Sp := fun vs H Q _ => ∃ (a b : Addr) (u v : List (Str × Int)), vs = [.ref a, .ref b] ∧ PV K mg H a F u ∧ PV K mg H b F v ∧ F.Ok ∧ Names F u ∧ Names F v ∧ u.length ≤ 150 ∧ v.length ≤ 150 ∧ (XM.cmn (OF F) u v).length ≤ 200 ∧
  ∀ H' c, Same H H' → PV K mg H' c F (XM.cmn (OF F) u v) → Q (.ref c) H'
theorem c_Pile_and (T : Tx K mg) (F : Fld) : MCl P w K mg base (L2.CX P w) 5 "Pile" "__and__" (spAndP K mg F) := by
  refine mclX T.m_Pile___and__ (ps := ["self", "other"]) (fun _ _ _ _ _ _ us hl => match us, hl with | [_, _], _ => rfl) sc_Pile___and__ (fun vs H Q E h => ?_) (fun f cdv A outer st H vs Q E hr h => ?_)
  · obtain ⟨a, b, u, v, rfl, _⟩ := h
    rfl
  · obtain ⟨a, b, u, v, rfl, hP, hR, ok, nu, nv, lu, lv, lc, q⟩ := h
    have tk : Takes (cxOf (L2.CX P w) P w K mg base ["self", "other"] "Pile.__and__" (defScope s_Pile___and__) f cdv A outer st H E) fun cls d _ H => E cls d H := takes_of rfl rfl rfl rfl
    obtain ⟨D, hD⟩ : ∃ D, mg "Pile" = some (.ref D) := by
      obtain ⟨D, hD, _⟩ := T.o_Pile.ex
      exact ⟨D, hD⟩
    refine ⟨_, (pss_cons (ps_if (pt_not (pt_val (pe_callB call_isi (by rfl) T.b_isinstance (by decide +kernel) (pa_cons (pv 1) (pa_cons (pe_glob (v := .ref D) (by rfl) hD rfl) pa_nil))))) pss_never pss_nil)
    (pss_cons (ps_expr (pe_kX (c_need_like T) hr (by decide) tk (by rfl) (pa_cons (pv 0) (pa_cons (pv 1) pa_nil))))
    (pss_one (ps_ret (pe_k (c_made_pile T) hr (by decide) (by rfl) (pa_cons (pe_fld (pv 0) rfl) (pa_cons (pe_k (c_common_of T F) hr (by decide) (by rfl) (pa_cons (pe_k (c_touch_table T) hr (by decide) (by rfl) (pa_cons (pe_fld (pv 0) rfl) pa_nil)) (pa_cons (pe_fld (pv 0) rfl) (pa_cons (pe_fld (pv 1) rfl) pa_nil)))) pa_nil))))))), ?_⟩
    --@
    obtain ⟨f1, s1, hPA, hF, hu⟩ := id hP
    obtain ⟨f2, s2, hRA, hG, hv⟩ := id hR
    obtain ⟨fs, ⟨C, dx, hm, hi⟩, l1, l2, _⟩ := id hPA
    obtain ⟨gs, ⟨C2, dy, hm2, hj⟩, k1, k2, _⟩ := id hRA
    have sh := (fld_fok ok).sh
    refine ⟨_, rfl, .ref b, .ref D, _, _, _, rfl, .own D, tyx_ins T.o_Pile hD ⟨C2, dy, hm2, hj⟩, T.i_Pile_Pile D D hD hD, _, rfl, iteF ⟨_, rfl, _, rfl, a, b, .ref f1, .ref s1, .ref f2, .ref s2, dField F, dField F, rfl, hPA, hRA, hF, hG, sh, sh, .inl ⟨PySem.SeqAt.eqv_refl _ (fld_okd ok).lay, ?_⟩⟩⟩
    refine ⟨_, rfl, a, C, dx, fs, .ref f1, rfl, hi, oc_cls T.o_Pile hm, T.n_Pile__field C hm, l1, ?_⟩
    refine ⟨_, rfl, a, C, dx, fs, .ref f1, rfl, hi, oc_cls T.o_Pile hm, T.n_Pile__field C hm, l1, f1, F, rfl, hF, ok, fun H1 t t1 nt hT => ?_⟩
    refine ⟨_, rfl, a, C, dx, fs, .ref s1, rfl, t1 _ _ hi, oc_cls T.o_Pile hm, T.n_Pile__steps C hm, l2, _, rfl, b, C2, dy, gs, .ref s2, rfl, t1 _ _ hj, oc_cls T.o_Pile hm2, T.n_Pile__steps C2 hm2, k2, ?_⟩
    refine ⟨t, s1, s2, u, v, rfl, hT, ok, Dp.sm t1 _ hu, Dp.sm t1 _ hv, lu, lv, nu, nv, fun H3 r3 t3 hd3 => ?_⟩
    have t13 := t1.trans t3
    exact ⟨F, f1, r3, _, rfl, Dp.sm t13 _ hF, hd3, lc, fun H4 c t4 hP4 => q H4 c (t13.trans t4) hP4⟩
end
end XB
set_option Elab.async false
set_option linter.all false
set_option maxRecDepth 100000
set_option maxHeartbeats 4000000
namespace XB
open PySem PySem.Spec PyProof.Rows L2
/-! distance and middle of Piles -/
section
variable {P : Program} {w : World} {K : PySem.W.Frag} {mg : Str → Option Value} {base : Heap}
def spDistP (K : PySem.W.Frag) (mg : Str → Option Value) (F : Fld) : Sp := fun vs H Q _ => ∃ (a b : Addr) (u v : List (Str × Int)), vs = [.ref a, .ref b] ∧ PV K mg H a F u ∧ PV K mg H b F v ∧ F.Ok ∧ Names F u ∧ Names F v ∧ u.length + v.length ≤ 400 ∧
  ∀ H', Same H H' → Q (.int (XM.far (OF F) u v : Nat)) H'
theorem c_Pile_distance (T : Tx K mg) (F : Fld) : MCl P w K mg base (L2.CX P w) 5 "Pile" "distance" (spDistP K mg F) := by
  refine mclX T.m_Pile_distance (ps := ["self", "other"]) (fun _ _ _ _ _ _ us hl => match us, hl with | [_, _], _ => rfl) sc_Pile_distance (fun vs H Q E h => ?_) (fun f cdv A outer st H vs Q E hr h => ?_)
  · obtain ⟨a, b, u, v, rfl, _⟩ := h
    rfl
  · obtain ⟨a, b, u, v, rfl, hP, hR, ok, nu, nv, lu, q⟩ := h
    have tk : Takes (cxOf (L2.CX P w) P w K mg base ["self", "other"] "Pile.distance" (defScope s_Pile_distance) f cdv A outer st H E) fun cls d _ H => E cls d H := takes_of rfl rfl rfl rfl
    refine ⟨_, (pss_cons (ps_expr (pe_kX (c_need_like T) hr (by decide) tk (by rfl) (pa_cons (pv 0) (pa_cons (pv 1) pa_nil))))
    (pss_one (ps_ret (pe_k (c_distance_of T F) hr (by decide) (by rfl) (pa_cons (pe_k (c_touch_table T) hr (by decide) (by rfl) (pa_cons (pe_fld (pv 0) rfl) pa_nil)) (pa_cons (pe_fld (pv 0) rfl) (pa_cons (pe_ptO T.o_Pile (c_Pile_steps T) (pv 1) hr (by decide) (E := E0) passL rfl) pa_nil))))))), ?_⟩
    --@
    obtain ⟨f1, s1, hPA, hF, hu⟩ := id hP
    obtain ⟨f2, s2, hRA, hG, hv⟩ := id hR
    obtain ⟨fs, ⟨C, dx, hm, hi⟩, l1, l2, _⟩ := id hPA
    have sh := (fld_fok ok).sh
    refine ⟨_, rfl, _, rfl, a, b, .ref f1, .ref s1, .ref f2, .ref s2, dField F, dField F, rfl, hPA, hRA, hF, hG, sh, sh, .inl ⟨PySem.SeqAt.eqv_refl _ (fld_okd ok).lay, ?_⟩⟩
    refine ⟨_, rfl, a, C, dx, fs, .ref f1, rfl, hi, oc_cls T.o_Pile hm, T.n_Pile__field C hm, l1, f1, F, rfl, hF, ok, fun H1 t t1 nt hT => ?_⟩
    obtain ⟨f3, s3, hRA1, hG1, hv1⟩ := id (hR.same t1)
    obtain ⟨gs, hj, _⟩ := id hRA1
    refine ⟨_, rfl, a, C, dx, fs, .ref s1, rfl, t1 _ _ hi, oc_cls T.o_Pile hm, T.n_Pile__steps C hm, l2, _, rfl, b, gs, rfl, hj, b, .ref f3, .ref s3, rfl, hRA1, ?_⟩
    exact ⟨t, s1, s3, u, v, rfl, hT, ok, Dp.sm t1 _ hu, hv1, lu, nu, nv, fun H3 t3 => q H3 (t1.trans t3)⟩
def spMiddleP (K : PySem.W.Frag) (mg : Str → Option Value) (F : Fld) : Sp := fun vs H Q _ => ∃ (a b d : Addr) (u v x : List (Str × Int)), vs = [.ref a, .ref b, .ref d] ∧ PV K mg H a F u ∧ PV K mg H b F v ∧ PV K mg H d F x ∧ F.Ok ∧ Names F u ∧ Names F v ∧ Names F x ∧ u.length ≤ 60 ∧ v.length ≤ 60 ∧ x.length ≤ 60 ∧ (XM.mid (OF F) u v x).length ≤ 200 ∧
  ∀ H' c, Same H H' → PV K mg H' c F (XM.mid (OF F) u v x) → Q (.ref c) H'
theorem c_Pile_middle (T : Tx K mg) (F : Fld) : MCl P w K mg base (L2.CX P w) 6 "Pile" "middle" (spMiddleP K mg F) := by
  refine mclX T.m_Pile_middle (ps := ["self", "other", "third"]) (fun _ _ _ _ _ _ us hl => match us, hl with | [_, _, _], _ => rfl) sc_Pile_middle (fun vs H Q E h => ?_) (fun f cdv A outer st H vs Q E hr h => ?_)
  · obtain ⟨a, b, d, u, v, x, rfl, _⟩ := h
    rfl
  · obtain ⟨a, b, d, u, v, x, rfl, hP, hR, hS, ok, nu, nv, nx, lu, lv, lx, lm, q⟩ := h
    have tk : Takes (cxOf (L2.CX P w) P w K mg base ["self", "other", "third"] "Pile.middle" (defScope s_Pile_middle) f cdv A outer st H E) fun cls d _ H => E cls d H := takes_of rfl rfl rfl rfl
    refine ⟨_, (pss_cons (ps_expr (pe_kX (c_need_like T) hr (by decide) tk (by rfl) (pa_cons (pv 0) (pa_cons (pv 1) pa_nil))))
    (pss_cons (ps_expr (pe_kX (c_need_like T) hr (by decide) tk (by rfl) (pa_cons (pv 0) (pa_cons (pv 2) pa_nil))))
    (pss_one (ps_ret (pe_k (c_made_pile T) hr (by decide) (by rfl) (pa_cons (pe_fld (pv 0) rfl) (pa_cons (pe_k (c_middle_pile T F) hr (by decide) (by rfl) (pa_cons (pe_k (c_touch_table T) hr (by decide) (by rfl) (pa_cons (pe_fld (pv 0) rfl) pa_nil)) (pa_cons (pe_fld (pv 0) rfl) (pa_cons (pe_ptO T.o_Pile (c_Pile_steps T) (pv 1) hr (by decide) (E := E0) passL rfl) (pa_cons (pe_ptO T.o_Pile (c_Pile_steps T) (pv 2) hr (by decide) (E := E0) passL rfl) pa_nil))))) pa_nil))))))), ?_⟩
    --@
    obtain ⟨f1, s1, hPA, hF, hu⟩ := id hP
    obtain ⟨f2, s2, hRA, hG, hv⟩ := id hR
    obtain ⟨f4, s4, hSA, hI, hx⟩ := id hS
    obtain ⟨fs, ⟨C, dx, hm, hi⟩, l1, l2, _⟩ := id hPA
    have sh := (fld_fok ok).sh
    have lay := (fld_okd ok).lay
    refine ⟨_, rfl, _, rfl, a, b, .ref f1, .ref s1, .ref f2, .ref s2, dField F, dField F, rfl, hPA, hRA, hF, hG, sh, sh, .inl ⟨PySem.SeqAt.eqv_refl _ lay, ?_⟩⟩
    refine ⟨_, rfl, _, rfl, a, d, .ref f1, .ref s1, .ref f4, .ref s4, dField F, dField F, rfl, hPA, hSA, hF, hI, sh, sh, .inl ⟨PySem.SeqAt.eqv_refl _ lay, ?_⟩⟩
    refine ⟨_, rfl, a, C, dx, fs, .ref f1, rfl, hi, oc_cls T.o_Pile hm, T.n_Pile__field C hm, l1, ?_⟩
    refine ⟨_, rfl, a, C, dx, fs, .ref f1, rfl, hi, oc_cls T.o_Pile hm, T.n_Pile__field C hm, l1, f1, F, rfl, hF, ok, fun H1 t t1 nt hT => ?_⟩
    obtain ⟨f3, s3, hRA1, hG1, hv1⟩ := id (hR.same t1)
    obtain ⟨gs, hj, _⟩ := id hRA1
    obtain ⟨f5, s5, hSA1, hI1, hx1⟩ := id (hS.same t1)
    obtain ⟨ks, hk, _⟩ := id hSA1
    refine ⟨_, rfl, a, C, dx, fs, .ref s1, rfl, t1 _ _ hi, oc_cls T.o_Pile hm, T.n_Pile__steps C hm, l2, _, rfl, b, gs, rfl, hj, b, .ref f3, .ref s3, rfl, hRA1, _, rfl, d, ks, rfl, hk, d, .ref f5, .ref s5, rfl, hSA1, ?_⟩
    refine ⟨t, s1, s3, s5, u, v, x, rfl, hT, ok, Dp.sm t1 _ hu, hv1, hx1, lu, lv, lx, nu, nv, nx, fun H3 r3 t3 hd3 => ?_⟩
    have t13 := t1.trans t3
    exact ⟨F, f1, r3, _, rfl, Dp.sm t13 _ hF, hd3, lm, fun H4 c t4 hP4 => q H4 c (t13.trans t4) hP4⟩
end
end XB
set_option Elab.async false
set_option linter.all false
set_option maxRecDepth 100000
set_option maxHeartbeats 4000000
namespace XB
open PySem PySem.Spec PyProof.Rows L2
/-! equal Piles -/
section
variable {P : Program} {w : World} {K : PySem.W.Frag} {mg : Str → Option Value} {base : Heap}
def spEqP (K : PySem.W.Frag) (mg : Str → Option Value) : Sp := fun vs H Q _ => ∃ (a : Addr) (x : V) (F : Fld) (u : List (Str × Int)), vs = [.ref a, x] ∧ PV K mg H a F u ∧ F.Ok ∧ SeqAt.shaped (dSteps u) = true ∧
  ((∃ (b : Addr) (G : Fld) (v : List (Str × Int)), x = .ref b ∧ PV K mg H b G v ∧ G.Ok ∧ SeqAt.shaped (dSteps v) = true ∧ Q (.bl (PyData.eqv (dField F) (dField G) && PyData.eqv (dSteps u) (dSteps v))) H) ∨ (∃ d, Dp K H x d ∧ Q (.bl false) H))
theorem c_Pile_eq (T : Tx K mg) : MCl P w K mg base (L2.CX P w) 1 "Pile" "__eq__" (spEqP K mg) := by
  refine mclX T.m_Pile___eq__ (ps := ["self", "other"]) (fun _ _ _ _ _ _ us hl => match us, hl with | [_, _], _ => rfl) sc_Pile___eq__ (fun vs H Q E h => ?_) (fun f cdv A outer st H vs Q E hr h => ?_)
  · obtain ⟨a, x, F, u, rfl, _⟩ := h
    rfl
  · obtain ⟨a, x, F, u, rfl, hP, ok, sh, q⟩ := h
    obtain ⟨D, hD⟩ : ∃ D, mg "Pile" = some (.ref D) := by
      obtain ⟨D, hD, _⟩ := T.o_Pile.ex
      exact ⟨D, hD⟩
    refine ⟨_, (pss_one (ps_ret (pe_and (pe_callB call_isi (by rfl) T.b_isinstance (by decide +kernel) (pa_cons (pv 1) (pa_cons (pe_glob (v := .ref D) (by rfl) hD rfl) pa_nil))) (pe_and (pe_cmpR (op_eqD hr.units) (pe_fld (pv 0) rfl) (pe_fld (pv 1) rfl) (nomark _)) (pe_one (pe_cmpR (op_eqD hr.units) (pe_fld (pv 0) rfl) (pe_fld (pv 1) rfl) (nomark _))))))), ?_⟩
    --@
    obtain ⟨f1, s1, hPA, hF, hu⟩ := id hP
    obtain ⟨fs, ⟨C, dx, hm, hi⟩, l1, l2, _⟩ := id hPA
    rcases q with ⟨b, G, v, rfl, hR, ok2, sh2, q⟩ | ⟨d, hd, q⟩
    · obtain ⟨f2, s2, hRA, hG, hv⟩ := id hR
      obtain ⟨gs, ⟨C2, dy, hm2, hj⟩, k1, k2, _⟩ := id hRA
      refine ⟨_, rfl, .ref b, .ref D, _, _, _, rfl, .own D, tyx_ins T.o_Pile hD ⟨C2, dy, hm2, hj⟩, T.i_Pile_Pile D D hD hD, _, rfl, iteT ?_⟩
      refine ⟨_, rfl, a, C, dx, fs, .ref f1, rfl, hi, oc_cls T.o_Pile hm, T.n_Pile__field C hm, l1, _, rfl, b, C2, dy, gs, .ref f2, rfl, hj, oc_cls T.o_Pile hm2, T.n_Pile__field C2 hm2, k1, _, _, hF, hG, (fld_fok ok).sh, (fld_fok ok2).sh, _, rfl, ?_⟩
      cases he : PyData.eqv (dField F) (dField G) with
      | false =>
        rw [he] at q
        exact iteF q
      | true =>
        rw [he, Bool.true_and] at q
        exact iteT ⟨_, rfl, a, C, dx, fs, .ref s1, rfl, hi, oc_cls T.o_Pile hm, T.n_Pile__steps C hm, l2, _, rfl, b, C2, dy, gs, .ref s2, rfl, hj, oc_cls T.o_Pile hm2, T.n_Pile__steps C2 hm2, k2, _, _, hu, hv, sh, sh2, q⟩
    · refine ⟨_, rfl, x, .ref D, _, _, _, rfl, .own D, tyx_data hd, T.k_Pile D hD _ (by cases d <;> simp [tyD]), _, rfl, iteF ?_⟩
      exact q
end
end XB
set_option Elab.async false
set_option linter.all false
set_option maxRecDepth 100000
set_option maxHeartbeats 4000000
/-! list.extend of a tuple -/
namespace PySem.AutoSeq1
theorem list_extend_tupleW (l : Addr) (items : Array Value) (n : Nat) (b : Addr) (items2 : Array Value) (n2 : Nat) (od : Option Addr) (slo : Array (Option Value)) (hs0 : ¬(!items.isEmpty && Builtin.List.listTooLong (items.size + items2.size)) = true) (hs1 : items.size ≤ sizeLine) (hs2 : items.size + items2.size ≤ sizeLine + 1) :
    Meets (Builtin.«list.extend» ⟨[.ref l, .ref b], []⟩) (fun _ R s => s.heap.get? l = some { cls := .type "list", dict := none, data := .seq items n, slots := #[] } ∧ s.heap.get? b = some { cls := .type "tuple", dict := od, data := .seq items2 n2, slots := slo } ∧ R (.ok (.ret Value.none)) { s with heap := s.heap.update l (Obj.mapSeq fun x => x ++ items2), toks := s.toks }) :=
  .of_wp fun prog w A R s h => by
    obtain ⟨hp, g, d, tk, os⟩ := s; obtain ⟨hl, hb, h⟩ := h; have f1 := idx_int; have f2 := sub_tuple_tuple; have f3 := sub_list_list; have f4 := sub_tuple_list; have f5 := sub_list_tuple;
    have hz' : (items ++ items2).size ≤ sizeLine + 1 := by rw [Array.size_append]; exact hs2
    wp_walk using (wpAny_updateSeq hl rfl (hz := hs1) (_hz' := hz')), wpAny_loadPart' hl, wpAny_loadPart' hb; exact ⟨_, rfl, h⟩
end PySem.AutoSeq1
namespace XB
open PySem PySem.Spec PyProof.Rows L2
section
variable {X : Cx}
def rExtendT (K : PySem.W.Frag) : V → List V → Hp → VK → Prop := fun x vs H Q => ∃ l b xs zs, x = .ref l ∧ vs = [.ref b] ∧ H l = some (.lst xs) ∧ SqT K H b zs ∧ xs.length + zs.length ≤ sizeLine ∧ Q .non (upd H l (.lst (xs ++ zs)))
theorem mt_extendT {K : PySem.W.Frag} (hK : X.K = K) : MtM X "list.extend" (rExtendT K) := by
  subst hK
  intro pins s σ H x vs v us Q I rx rv h
  obtain ⟨l, b, xs, zs, rfl, rfl, hH, hB, hz, q⟩ := h
  cases rx
  obtain ⟨u, rfl, ru⟩ := rv.one
  cases ru
  obtain ⟨z, its, n, r, hl, e⟩ := I.lstM hH
  obtain ⟨its2, r2, ⟨⟨oc, od, dat, slo⟩, hob, ecl, nn, eda⟩, hsz⟩ := I.tuple hB
  simp only at ecl eda
  subst ecl eda
  have hl2 := r2.length
  have hsz : its.toArray.size + its2.toArray.size ≤ sizeLine := by rw [List.size_toArray, List.size_toArray]; omega
  have hlong : ¬ (!its.toArray.isEmpty && Builtin.List.listTooLong (its.toArray.size + its2.toArray.size)) = true := by
    rw [notLongL hsz, Bool.and_false]
    exact Bool.false_ne_true
  refine call_meets PySem.F.slot_list_extend ⟨_, e, rfl⟩ PySem.F.entry_list_extend (PySem.F.args_list_extend_2 _ _)
    (PySem.AutoSeq1.list_extend_tupleW l its.toArray n b its2.toArray nn od slo hlong (by rw [List.size_toArray]; omega) (by omega)) ⟨e, hob, ?_⟩
  refine ⟨.non, _, I.lset (its' := its ++ its2) hH e (by simp) (r.append r2) ?_, rfl, q⟩
  rw [List.length_append]
  omega
end
section
variable {X : Cx} {K : PySem.W.Frag}
theorem op_notInDTk (hk : X.K = K) (hu : X.A.units + 65 < cLine) : OpR X (compareOp .NotIn) (fun x y H Q => ∃ d ds, Dp K H x d ∧ Dp K H y (.tuple ds) ∧ SeqAt.shaped d = true ∧ SeqAt.shaped (.tuple ds) = true ∧ Q (.bl (!ds.any fun z => PyData.eqv z d)) H) := by
  subst hk
  intro pins s σ H x y v u Q I rx ry h
  obtain ⟨d, ds, hd, he, sd, se, q⟩ := h
  obtain ⟨as, r1⟩ := Dp.reads I d x v hd rx
  obtain ⟨bs, r2⟩ := Dp.reads I (.tuple ds) y u he ry
  exact SeqAt.notIn_tuple_reads r2 r1 (SeqAt.canLay_of_shaped se) (SeqAt.canLay_of_shaped sd) (room_in_shaped sd hu) ⟨.bl _, H, I, rfl, q⟩
theorem op_inDk (hk : X.K = K) (hu : X.A.units + 65 < cLine) : OpR X (compareOp .In) (rInD K) := by
  subst hk
  exact op_inD hu
theorem op_notInDk (hk : X.K = K) (hu : X.A.units + 65 < cLine) : OpR X (compareOp .NotIn) (rNotInD K) := by
  subst hk
  exact op_notInD hu
end
end XB
set_option Elab.async false
set_option linter.all false
set_option maxRecDepth 100000
set_option maxHeartbeats 4000000
namespace XB
open PySem PySem.Spec PyProof.Rows L2
/-! a Pile's length, its pieces, its names -/
section
variable {P : Program} {w : World} {K : PySem.W.Frag} {mg : Str → Option Value} {base : Heap}
def spPLength (K : PySem.W.Frag) (mg : Str → Option Value) : Sp := fun vs H Q _ => ∃ (a : Addr) (F : Fld) (u : List (Str × Int)), vs = [.ref a] ∧ PV K mg H a F u ∧ u.length ≤ 500 ∧ ∀ H', Same H H' → Q (.int (lenOf u)) H'
theorem c_Pile_length (T : Tx K mg) : PCl P w K mg base (L2.CX P w) 2 "Pile" "length" (spPLength K mg) := by
  refine pclX T.p_Pile_length (ps := ["self"]) (fun _ _ _ _ _ _ us hl => match us, hl with | [_], _ => rfl) sc_Pile_length (fun vs H Q E h => ?_) (fun f cdv A outer st H vs Q E hr h => ?_)
  · obtain ⟨a, F, u, rfl, _⟩ := h
    rfl
  · obtain ⟨a, F, u, rfl, hP, lu, q⟩ := h
    refine ⟨_, (pss_one (ps_ret (pe_k (c_length_of T) hr (by decide) (by rfl) (pa_cons (pe_fld (pv 0) rfl) pa_nil)))), ?_⟩
    --@
    obtain ⟨f1, s1, ⟨fs, ⟨C, dx, hm, hi⟩, l1, l2, _⟩, hF, hu⟩ := id hP
    obtain ⟨_, xs, e, hS, hV⟩ := hu.steps
    cases e
    exact ⟨_, rfl, a, C, dx, fs, .ref _, rfl, hi, oc_cls T.o_Pile hm, T.n_Pile__steps C hm, l2, _, xs, u, rfl, hS, hV, lu, q⟩
def spPItem (K : PySem.W.Frag) (mg : Str → Option Value) : Sp := fun vs H Q _ => ∃ (a : Addr) (F : Fld) (u : List (Str × Int)) (i : Nat) (p : Str × Int), vs = [.ref a, .int (i : Int)] ∧ PV K mg H a F u ∧ u[i]? = some p ∧ u.length ≤ 500 ∧ ∀ r, Dp K H (.ref r) (dStep p) → Q (.ref r) H
theorem c_Pile_item (T : Tx K mg) : MCl P w K mg base (L2.CX P w) 3 "Pile" "__getitem__" (spPItem K mg) := by
  refine mclX T.m_Pile___getitem__ (ps := ["self", "at"]) (fun _ _ _ _ _ _ us hl => match us, hl with | [_, _], _ => rfl) sc_Pile___getitem__ (fun vs H Q E h => ?_) (fun f cdv A outer st H vs Q E hr h => ?_)
  · obtain ⟨a, F, u, i, p, rfl, _⟩ := h
    rfl
  · obtain ⟨a, F, u, i, p, rfl, hP, hp, lu, q⟩ := h
    refine ⟨_, (pss_cons (ps_if (PW.pt (pw_or (pt_not (pt_val (pe_k (c_is_wholeD T) hr (by decide) (by rfl) (pa_cons (pv 1) pa_nil)))) (pw_or1 (pt_not (pt_chain op_le op_lt pe_int (pv 1) (pe_lenS (by rfl) T.b_len (pe_fld (pv 0) rfl))))))) pss_never pss_nil)
    (pss_one (ps_ret (pe_ix (ixk_tup (K := K) rfl) (pe_fld (pv 0) rfl) (pv 1) (fun _ _ => rfl))))), ?_⟩
    --@
    obtain ⟨f1, s1, ⟨fs, ⟨C, dx, hm, hi⟩, l1, l2, _⟩, hF, hu⟩ := id hP
    obtain ⟨_, xs, e, hS, hV⟩ := hu.steps
    cases e
    have lx := hV.len
    rw [List.length_map] at lx
    have hlt := (List.getElem?_eq_some_iff.mp hp).1
    refine ⟨_, rfl, .int (i : Int), .int (i : Int), rfl, .int _, _, rfl, iteF ⟨_, rfl, _, _, rfl, rfl, _, rfl, ?_⟩⟩
    rw [decide_eq_true (show (0 : Int) ≤ (i : Int) by omega)]
    refine iteT ⟨_, rfl, a, C, dx, fs, .ref _, rfl, hi, oc_cls T.o_Pile hm, T.n_Pile__steps C hm, l2, _, xs, rfl, .inr hS, _, _, rfl, rfl, _, rfl, ?_⟩
    rw [show decide ((i : Int) < (xs.length : Int)) = true from decide_eq_true (by omega)]
    obtain ⟨r, gi, pi⟩ : ∃ r, xs[i]? = some (.ref r) ∧ Dp K H (.ref r) (dStep p) := by
      have hx : xs[i]? = some xs[i] := List.getElem?_eq_getElem (by omega)
      obtain ⟨d, g1, p1⟩ := hV.get hx
      rw [List.getElem?_map, hp] at g1
      cases g1
      obtain ⟨r, er, _⟩ := p1.step
      rw [er] at p1
      exact ⟨r, by rw [← er]; exact hx, p1⟩
    refine iteF ⟨_, rfl, a, C, dx, fs, .ref _, rfl, hi, oc_cls T.o_Pile hm, T.n_Pile__steps C hm, l2, _, rfl, _, xs, (i : Int), .ref r, rfl, rfl, hS, at_of (j := i) rfl gi, q r pi⟩
def spPIn (K : PySem.W.Frag) (mg : Str → Option Value) : Sp := fun vs H Q _ => ∃ (a : Addr) (x : V) (d : PyData) (F : Fld) (u : List (Str × Int)), vs = [.ref a, x] ∧ PV K mg H a F u ∧ F.Ok ∧ Names F u ∧ u.length ≤ 200 ∧ Dp K H x d ∧ SeqAt.shaped d = true ∧ ∀ H', Same H H' → Q (.bl ((u.map fun s => PyData.str s.1).any fun y => PyData.eqv y d)) H'
theorem c_Pile_in (T : Tx K mg) : MCl P w K mg base (L2.CX P w) 3 "Pile" "__contains__" (spPIn K mg) := by
  refine mclX T.m_Pile___contains__ (ps := ["self", "x"]) (fun _ _ _ _ _ _ us hl => match us, hl with | [_, _], _ => rfl) sc_Pile___contains__ (fun vs H Q E h => ?_) (fun f cdv A outer st H vs Q E hr h => ?_)
  · obtain ⟨a, x, d, F, u, rfl, _⟩ := h
    rfl
  · obtain ⟨a, x, d, F, u, rfl, hP, ok, nu, lu, hd, sd, q⟩ := h
    have nd := sc_Pile___contains__.nd
    refine ⟨_, (pss_one (ps_ret (pe_cmpR (op_inD (u65 hr)) (pv 1) (pe_lc (own := [("name", 2), ("_", 3)]) (g := (gTup K 2 (gCons (gName 2) (gCons (gName 3) gNil)))) (tt := tYes) (by rfl) nd (pi_tup (pe_fld (pv 0) rfl)) (blkOk_by (own := [("name", 2), ("_", 3)]) (N := ["self", "x", "name", "_"]) (sc := defScope s_Pile___contains__) (by decide +kernel)) (fun _ _ _ _ _ => (pg_tup rfl (pgs_cons (pg_name (i := 2) nd rfl (by first | exact Or.inl rfl | exact Or.inr rfl)) (pgs_cons (pg_name (i := 3) nd rfl (by first | exact Or.inl rfl | exact Or.inr rfl)) pgs_nil)))) (fun _ _ _ _ _ => pts_nil) (fun _ _ _ _ _ => (pv 2))) (by rfl)))), ?_⟩
    --@
    obtain ⟨f1, s1, ⟨fs, ⟨C, dx, hm, hi⟩, l1, l2, _⟩, hF, hu⟩ := id hP
    obtain ⟨_, xs, e, hS, hV⟩ := hu.steps
    cases e
    have lx := hV.len
    rw [List.length_map] at lx
    refine ⟨_, rfl, _, rfl, a, C, dx, fs, .ref _, rfl, hi, oc_cls T.o_Pile hm, T.n_Pile__steps C hm, l2, _, rfl, ⟨_, hS⟩, fun D hD => ?_⟩
    refine lc_it (walk_tup (xs := xs)) (fun i H' => H' D = some (.lst ((u.take i).map fun p => V.str p.1)) ∧ Same H H') ⟨upd_same, same_upd hD⟩ (fun _ _ _ ⟨_, s'⟩ => (Tk.of s').sqT hS) (fun i x H2 H3 hi ⟨eD, s'⟩ hy => ?_) (fun H2 ⟨eD, s'⟩ => ?_)
    · obtain ⟨rfl, hx⟩ := hy
      obtain ⟨d, g1, p1⟩ := hV.get hx
      rw [List.getElem?_map] at g1
      obtain ⟨p, k1, rfl⟩ := Option.map_eq_some_iff.mp g1
      obtain ⟨t, rfl, h1⟩ := (Dp.sm s' _ p1).step
      refine ⟨_, _, rfl, h1, rfl, _, _, rfl, _, _, rfl, rfl, rfl, yes_ ⟨_, rfl, _, eD, ?_, ?_, same_put s' hD⟩⟩
      · rw [List.length_map, List.length_take]
        exact small1000 (by omega)
      · rw [upd_same, take_snoc k1, List.map_append]
        rfl
    · rw [List.take_of_length_le (by omega)] at eD
      have e1 : (u.map fun p => V.str p.1) = (u.map fun p => p.1).map V.str := by rw [List.map_map]; rfl
      have o := okd_lst (ds := (u.map fun p => p.1).map PyData.str) (k := 200) (j := 0) (n := 6) (fun d hd => by
        obtain ⟨s, hs, rfl⟩ := List.mem_map.mp hd
        obtain ⟨p, hp, rfl⟩ := List.mem_map.mp hs
        exact okd_str (ok.sgn _ (nu p hp))) (by rw [List.length_map, List.length_map]; exact lu)
      rw [e1] at eD
      refine ⟨d, (u.map fun p => p.1).map PyData.str, Dp.sm s' _ hd, .lst (SqL.of eD) (DpAll.strs _), sd, o.shaped (by decide), ?_⟩
      have e2 : ((u.map fun p => p.1).map PyData.str) = u.map fun s => PyData.str s.1 := by rw [List.map_map]; rfl
      rw [e2]
      exact q _ s'
end
end XB
set_option Elab.async false
set_option linter.all false
set_option maxRecDepth 100000
set_option maxHeartbeats 4000000
namespace XB
open PySem PySem.Spec PyProof.Rows L2
/-! lower parts -/
section
variable {P : Program} {w : World} {K : PySem.W.Frag} {mg : Str → Option Value} {base : Heap}
def spLowerOf (K : PySem.W.Frag) (F : Fld) : Sp := fun vs H Q _ => ∃ (t d e : Addr) (l m : List (Str × Int)), vs = [.ref t, .ref d, .ref e] ∧ TouchAt K H t F ∧ F.Ok ∧ Dp K H (.ref d) (dSteps l) ∧ Dp K H (.ref e) (dSteps m) ∧ l.length + m.length ≤ 400 ∧ Names F l ∧ Names F m ∧
  ∀ H', Same H H' → Q (.bl (decide (lenOf l + (XM.far (OF F) l m : Nat) = lenOf m))) H'
theorem c_is_lower_of (T : Tx K mg) (F : Fld) : Cl P w K mg base CX0 4 "is_lower_of" (spLowerOf K F) := by
  refine cl0 T.d_is_lower_of (ps := ["touch", "low", "high"]) (fun _ _ _ _ _ _ us hl => match us, hl with | [_, _, _], _ => rfl) sc_is_lower_of (fun vs H Q E h => ?_) (fun f cdv A outer st H vs Q E hr h => ?_)
  · obtain ⟨t, d, e, l, m, rfl, _⟩ := h
    rfl
  · obtain ⟨t, d, e, l, m, rfl, hT, ok, hL, hM, hl, nl, nm, q⟩ := h
    have nd := sc_is_lower_of.nd
    refine ⟨_, (pss_cons (ps_set (i := 3) nd rfl (.inl rfl) (pe_k (c_piled T F) hr (by decide) (by rfl) (pa_cons (pv 0) (pa_cons (pe_op (op_catAk (K := K) rfl) (pe_k (c_back T) hr (by decide) (by rfl) (pa_cons (pv 1) pa_nil)) (pv 2)) pa_nil))))
    (pss_one (ps_ret (pe_cmpR op_eq (pe_op op_add (pe_k (c_length_of T) hr (by decide) (by rfl) (pa_cons (pv 1) pa_nil)) (pe_k (c_length_of T) hr (by decide) (by rfl) (pa_cons (pv 3) pa_nil))) (pe_k (c_length_of T) hr (by decide) (by rfl) (pa_cons (pv 2) pa_nil)) (nomark _))))), ?_⟩
    --@
    refine ⟨_, rfl, _, rfl, d, l, rfl, hL, by omega, fun H1 b s1 hb => ⟨_, rfl, catD hb (Dp.sm s1 _ hM) (by rw [len_back]; omega) fun H2 c s2 hc => ?_⟩⟩
    obtain ⟨_, xs, ee, hxS, hxD⟩ := hc.steps
    cases ee
    have s12 := s1.trans s2
    refine ⟨t, c, xs, XM.back l ++ m, rfl, hT.same s12, ok, hxS, hxD, by rw [List.length_append, len_back]; omega, fun s hs => (List.mem_append.mp hs).elim (names_back nl s) (nm s), fun H3 r s3 hd => ?_⟩
    have la := act_len1 (F := F) (l := XM.back l ++ m)
    rw [List.length_append, len_back] at la
    have s13 := s12.trans s3
    obtain ⟨_, ls, ee, hlS, hlD⟩ := (Dp.sm s13 _ hL).steps
    cases ee
    refine ⟨_, rfl, _, ls, l, rfl, hlS, hlD, by omega, fun H4 s4 => ?_⟩
    obtain ⟨_, rs, ee, hrS, hrD⟩ := (Dp.sm s4 _ hd).steps
    cases ee
    refine ⟨_, rfl, _, rs, _, rfl, hrS, hrD, by omega, fun H5 s5 => ?_⟩
    rw [len_far]
    obtain ⟨_, ms, ee, hmS, hmD⟩ := (Dp.sm (s13.trans (s4.trans s5)) _ hM).steps
    cases ee
    refine ⟨_, _, rfl, rfl, _, rfl, _, ms, m, rfl, hmS, hmD, by omega, fun H6 s6 => ?_⟩
    refine ⟨rfl, ?_⟩
    have e0 : decide (V.int (lenOf l + (XM.far (OF F) l m : Nat)) = V.int (lenOf m)) = decide (lenOf l + (XM.far (OF F) l m : Nat) = lenOf m) := decide_eq_decide.mpr ⟨fun h => by injection h, fun h => by rw [h]⟩
    have r := q H6 (s13.trans (s4.trans (s5.trans s6)))
    rw [← e0] at r
    exact r
def spIsLowerP (K : PySem.W.Frag) (mg : Str → Option Value) (F : Fld) : Sp := fun vs H Q _ => ∃ (a b : Addr) (u v : List (Str × Int)), vs = [.ref a, .ref b] ∧ PV K mg H a F u ∧ PV K mg H b F v ∧ F.Ok ∧ Names F u ∧ Names F v ∧ u.length + v.length ≤ 400 ∧
  ∀ H', Same H H' → Q (.bl (decide (lenOf u + (XM.far (OF F) u v : Nat) = lenOf v))) H'
theorem c_Pile_is_lower (T : Tx K mg) (F : Fld) : MCl P w K mg base (L2.CX P w) 5 "Pile" "is_lower" (spIsLowerP K mg F) := by
  refine mclX T.m_Pile_is_lower (ps := ["self", "other"]) (fun _ _ _ _ _ _ us hl => match us, hl with | [_, _], _ => rfl) sc_Pile_is_lower (fun vs H Q E h => ?_) (fun f cdv A outer st H vs Q E hr h => ?_)
  · obtain ⟨a, b, u, v, rfl, _⟩ := h
    rfl
  · obtain ⟨a, b, u, v, rfl, hP, hR, ok, nu, nv, lu, q⟩ := h
    have tk : Takes (cxOf (L2.CX P w) P w K mg base ["self", "other"] "Pile.is_lower" (defScope s_Pile_is_lower) f cdv A outer st H E) fun cls d _ H => E cls d H := takes_of rfl rfl rfl rfl
    refine ⟨_, (pss_cons (ps_expr (pe_kX (c_need_like T) hr (by decide) tk (by rfl) (pa_cons (pv 0) (pa_cons (pv 1) pa_nil))))
    (pss_one (ps_ret (pe_k (c_is_lower_of T F) hr (by decide) (by rfl) (pa_cons (pe_k (c_touch_table T) hr (by decide) (by rfl) (pa_cons (pe_fld (pv 0) rfl) pa_nil)) (pa_cons (pe_fld (pv 0) rfl) (pa_cons (pe_ptO T.o_Pile (c_Pile_steps T) (pv 1) hr (by decide) (E := E0) passL rfl) pa_nil))))))), ?_⟩
    --@
    obtain ⟨f1, s1, hPA, hF, hu⟩ := id hP
    obtain ⟨f2, s2, hRA, hG, hv⟩ := id hR
    obtain ⟨fs, ⟨C, dx, hm, hi⟩, l1, l2, _⟩ := id hPA
    have sh := (fld_fok ok).sh
    refine ⟨_, rfl, _, rfl, a, b, .ref f1, .ref s1, .ref f2, .ref s2, dField F, dField F, rfl, hPA, hRA, hF, hG, sh, sh, .inl ⟨PySem.SeqAt.eqv_refl _ (fld_okd ok).lay, ?_⟩⟩
    refine ⟨_, rfl, a, C, dx, fs, .ref f1, rfl, hi, oc_cls T.o_Pile hm, T.n_Pile__field C hm, l1, f1, F, rfl, hF, ok, fun H1 t t1 nt hT => ?_⟩
    obtain ⟨f3, s3, hRA1, hG1, hv1⟩ := id (hR.same t1)
    obtain ⟨gs, hj, _⟩ := id hRA1
    refine ⟨_, rfl, a, C, dx, fs, .ref s1, rfl, t1 _ _ hi, oc_cls T.o_Pile hm, T.n_Pile__steps C hm, l2, _, rfl, b, gs, rfl, hj, b, .ref f3, .ref s3, rfl, hRA1, ?_⟩
    exact ⟨t, s1, s3, u, v, rfl, hT, ok, Dp.sm t1 _ hu, hv1, lu, nu, nv, fun H3 t3 => q H3 (t1.trans t3)⟩
end
end XB
set_option linter.all false
/-! what two rows have in common, as it is found piece by piece; the shared pieces of a least pile are a least pile -/
namespace XM
section
variable {α : Type} [DecidableEq α] {O : Ord α}
/-- the shared pieces and the rest of a row's beginning, the latest ahead -/
inductive Mix : Row α → Row α → Row α → Prop
  | nil : Mix [] [] []
  | all {c r p : Row α} {a : α} {s t : Int} : Mix c r p → Mix ((a, s) :: c) r ((a, t) :: p)
  | non {c r p : Row α} {a : α} {s t : Int} : Mix c r p → Mix c ((a, s) :: r) ((a, t) :: p)
  | part {c r p : Row α} {a : α} {s u t : Int} : Mix c r p → Mix ((a, s) :: c) ((a, u) :: r) ((a, t) :: p)
theorem mix_top {x : α} {c r p : Row α} (h : Mix c r p) (hr : ∀ w ∈ r, O.tc w.1 x = false) (ht : top O x p = true) : top O x c = true := by
  induction h with
  | nil => exact ht
  | @all c r p a s t h ih =>
    have ih := ih hr
    cases e : O.tc a x
    · rw [top_apart (y := (a, t)) e, Bool.and_eq_true] at ht
      rw [top_apart (y := (a, s)) e, Bool.and_eq_true]
      exact ⟨ht.1, ih ht.2⟩
    · by_cases q : a = x
      · rw [q, top_same] at ht
        cases ht
      · exact top_touch (y := (a, s)) e q
  | @non c r p a s t h ih =>
    have e : O.tc a x = false := hr (a, s) List.mem_cons_self
    rw [top_apart (y := (a, t)) e, Bool.and_eq_true] at ht
    exact ih (fun w hw => hr w (List.mem_cons_of_mem _ hw)) ht.2
  | @part c r p a s u t h ih =>
    have e : O.tc a x = false := hr (a, u) List.mem_cons_self
    rw [top_apart (y := (a, t)) e, Bool.and_eq_true] at ht
    rw [top_apart (y := (a, s)) e, Bool.and_eq_true]
    exact ⟨ht.1, ih (fun w hw => hr w (List.mem_cons_of_mem _ hw)) ht.2⟩
theorem nf_tail : ∀ {l r : Row α}, NF O (l ++ r) → NF O r
  | [], _, h => h
  | _ :: _, _, h => nf_tail h.2.2
theorem mix_fold {p : Row α} : ∀ (todo : Row α) {pre : Row α} {st : Cst α}, NF O (pre ++ todo).reverse → Mix st.1.reverse st.2.1.reverse pre.reverse → NF O st.1.reverse → NF O (todo.foldl (cstep O) st).1.reverse
  | [], _, _, _, _, hN => hN
  | (a, t) :: todo, pre, (c, r, rest), hP, hM, hN => by
    have hM : Mix c.reverse r.reverse pre.reverse := hM
    have hN : NF O c.reverse := hN
    have e0 : pre ++ (a, t) :: todo = (pre ++ [(a, t)]) ++ todo := by simp
    rw [e0] at hP
    have h1 : NF O ((a, t) :: pre.reverse) := by
      have := hP
      rw [List.reverse_append] at this
      have := nf_tail this
      rwa [List.reverse_append] at this
    refine mix_fold (p := p) todo (pre := pre ++ [(a, t)]) hP ?_ ?_
    · show Mix (if cpart O r rest (a, t) ≠ 0 then c ++ [(a, cpart O r rest (a, t))] else c).reverse (if cpart O r rest (a, t) ≠ t then r ++ [(a, t - cpart O r rest (a, t))] else r).reverse (pre ++ [(a, t)]).reverse
      rw [List.reverse_append, List.reverse_singleton, List.singleton_append]
      by_cases h0 : cpart O r rest (a, t) ≠ 0
      · rw [if_pos h0, List.reverse_append, List.reverse_singleton, List.singleton_append]
        by_cases h2 : cpart O r rest (a, t) ≠ t
        · rw [if_pos h2, List.reverse_append, List.reverse_singleton, List.singleton_append]
          exact .part hM
        · rw [if_neg h2]
          exact .all hM
      · have : t ≠ 0 := h1.1
        have h0 := Classical.not_not.mp h0
        rw [if_neg (by rw [h0]; simp), if_pos (by rw [h0]; exact this.symm), List.reverse_append, List.reverse_singleton, List.singleton_append]
        exact .non hM
    · show NF O (if cpart O r rest (a, t) ≠ 0 then c ++ [(a, cpart O r rest (a, t))] else c).reverse
      by_cases h0 : cpart O r rest (a, t) ≠ 0
      · rw [if_pos h0, List.reverse_append, List.reverse_singleton, List.singleton_append]
        refine ⟨h0, mix_top hM (fun w hw => ?_) h1.2.1, hN⟩
        refine Bool.eq_false_iff.mpr fun k => h0 ?_
        unfold cpart
        rw [if_pos (List.any_eq_true.mpr ⟨w, List.mem_reverse.mp hw, k⟩)]
      · rw [if_neg h0]
        exact hN
theorem cmn_nf {one other : Row α} (h : NF O one.reverse) : NF O (cmn O one other).reverse := mix_fold (p := []) one (pre := []) (st := ([], [], other)) h .nil True.intro
theorem pile_nf {l : Row α} (zl : NZ l) : NF O (pile O l).reverse := by
  unfold pile
  rw [List.reverse_reverse]
  exact nf_act zl n00
theorem pile_of {l : Row α} (h : NF O l.reverse) : pile O l = l := by
  have := act_fix h
  rw [List.reverse_reverse] at this
  unfold pile
  rw [this, List.reverse_reverse]
theorem pile_eq {l m : Row α} (h : act O l [] = act O m []) : pile O l = pile O m := by
  unfold pile
  rw [h]
theorem pile_inj {l m : Row α} (h : pile O l = pile O m) : act O l [] = act O m [] := List.reverse_inj.mp h
/-- a row that is a pile has the very pieces of its least one -/
theorem mem_sort {l : Row α} (hP : pl O l = true) (hZ : NZ l) : ∃ f : Row α, NF O f.reverse ∧ act O f [] = act O l [] ∧ f.length = l.length ∧ ∀ x, x ∈ f ↔ x ∈ l := by
  have go : ∀ (n : Nat) (found left : Row α), left.length = n → Srt O found left → pl O (found ++ left) = true → NZ (found ++ left) →
      ∃ f : Row α, NF O f.reverse ∧ act O f [] = act O (found ++ left) [] ∧ f.length = (found ++ left).length ∧ ∀ x, x ∈ f ↔ x ∈ found ++ left := by
    intro n
    induction n with
    | zero =>
      intro found left h S P Z
      have e : left = [] := List.length_eq_zero_iff.mp h
      subst e
      rw [List.append_nil] at Z ⊢
      exact ⟨found, nf_of _ found rfl S P Z, rfl, rfl, fun _ => Iff.rfl⟩
    | succ n ih =>
      intro found left h S P Z
      obtain ⟨p, x, q, rfl, L⟩ := ex_least (O := O) _ left rfl (fun e => by rw [e] at h; cases h)
      have zf := Z.left
      have zp : NZ p := Z.right.left
      have e0 : found ++ x :: (p ++ q) = found ++ [x] ++ (p ++ q) := by simp
      have P' : pl O (found ++ [x] ++ (p ++ q)) = true := by rw [← e0, ← pl_move L.free]; exact P
      have Z' : NZ (found ++ [x] ++ (p ++ q)) := fun y hy => Z y (by
        simp only [List.mem_append, List.mem_cons, List.mem_nil_iff, or_false] at hy ⊢
        rcases hy with (hy | hy) | hy | hy <;> simp [hy])
      obtain ⟨f, h1, h2, h3, h4⟩ := ih (found ++ [x]) (p ++ q) (by rw [List.length_append] at h ⊢; simp at h; omega) (S.step L) P' Z'
      refine ⟨f, h1, h2.trans ?_, h3.trans ?_, fun a => (h4 a).trans ?_⟩
      · rw [← e0, act_move L.free zf zp (show NF O [] from True.intro)]
      · simp only [List.length_append, List.length_cons, List.length_nil]
        omega
      · simp only [List.mem_append, List.mem_cons, List.not_mem_nil, or_false]
        constructor
        · rintro ((h | h) | h | h) <;> simp [h]
        · rintro (h | h | h | h) <;> simp [h]
  have := go l.length [] l rfl (Srt.nil l) (by simpa using hP) (by simpa using hZ)
  simpa using this
theorem mem_pile {l : Row α} (hP : pl O l = true) (hZ : NZ l) (x : α × Int) : x ∈ pile O l ↔ x ∈ l := by
  obtain ⟨f, h1, h2, _, h4⟩ := mem_sort hP hZ
  rw [← pile_eq h2, pile_of h1]
  exact h4 x
theorem len_pile {l : Row α} (hP : pl O l = true) (hZ : NZ l) : l.length = (act O l []).length := ((pile_iff hZ).mpr (met_pl.mpr hP)).symm
/-- rows that are piles and do the same have the very pieces -/
theorem mem_same {l m : Row α} (hl : pl O l = true) (zl : NZ l) (hm : pl O m = true) (zm : NZ m) (h : act O l [] = act O m []) (x : α × Int) : x ∈ l ↔ x ∈ m := by
  rw [← mem_pile hl zl x, ← mem_pile hm zm x, pile_eq h]
/-! ### taking a part of a first piece off -/
theorem take_first {a : α} {t part : Int} {l : Row α} (zl : NZ l) (hl : pl O l = true) (hn : nearS O a l = some t) (h0 : part ≠ 0) (ha : (t - part).natAbs + part.natAbs = t.natAbs) :
    gl O ((a, -part) :: l) + part.natAbs = gl O l ∧ (act O ((a, -part) :: l) []).length + (if part = t then 1 else 0) ≤ l.length := by
  obtain ⟨m, v, rfl, hm⟩ := nearS_split hn
  have ht : t ≠ 0 := zl (a, t) (by simp)
  have zm : NZ m := zl.left
  have m1 : act O ((a, -part) :: (m ++ (a, t) :: v)) [] = act O ((if -part + t = 0 then [] else [(a, -part + t)]) ++ (m ++ v)) [] := act_meet (O := O) (u := []) (m := m) (v := v) (a := a) (s := -part) (t := t) (r := []) hm (by omega) ht nz0 zm n00
  have hg := pl_red zl hl
  have e1 : ln (m ++ (a, t) :: v) = ln m + (t.natAbs + ln v) := ln_app _ _
  have k2 := gl_cons (O := O) (x := (a, part)) (l := (a, -part) :: (m ++ (a, t) :: v)) h0 (nzc (by show -part ≠ 0; omega) zl)
  rw [gl_congr (act_cancel h0 n00)] at k2
  have k2 : gl O (m ++ (a, t) :: v) ≤ part.natAbs + gl O ((a, -part) :: (m ++ (a, t) :: v)) := k2
  have k1 := gl_le (O := O) (l := (if -part + t = 0 then [] else [(a, -part + t)]) ++ (m ++ v))
  rw [← gl_congr m1, ln_app, ln_app] at k1
  have k3 := act_len (O := O) (l := (if -part + t = 0 then [] else [(a, -part + t)]) ++ (m ++ v)) (r := [])
  rw [← m1] at k3
  simp only [List.length_append, List.length_nil, List.length_cons] at k3 ⊢
  by_cases k : -part + t = 0
  · rw [if_pos k] at k1 k3
    have : ln ([] : Row α) = 0 := rfl
    have : ([] : Row α).length = 0 := rfl
    rw [if_pos (by omega)]
    constructor <;> omega
  · rw [if_neg k] at k1 k3
    have : ln [(a, -part + t)] = (-part + t).natAbs + 0 := rfl
    have : [(a, -part + t)].length = 1 := rfl
    rw [if_neg (by omega)]
    constructor <;> omega
theorem shr_min {s t : Int} (h : 0 < s * t) : Sg s t ∧ shr s t = (min (s.natAbs : Int) t.natAbs) * (if 0 < s then 1 else -1) := by
  rcases Int.lt_trichotomy s 0 with h1 | h1 | h1
  · have h2 : t < 0 := by
      refine Classical.byContradiction fun q => ?_
      have := Int.mul_nonpos_of_nonpos_of_nonneg (Int.le_of_lt h1) (show 0 ≤ t by omega)
      omega
    refine ⟨by unfold Sg; omega, ?_⟩
    rw [if_neg (by omega)]
    unfold shr
    omega
  · rw [h1, Int.zero_mul] at h
    omega
  · have h2 : 0 < t := by
      refine Classical.byContradiction fun q => ?_
      have := Int.mul_nonpos_of_nonneg_of_nonpos (Int.le_of_lt h1) (show t ≤ 0 by omega)
      omega
    refine ⟨by unfold Sg; omega, ?_⟩
    rw [if_pos h1]
    unfold shr
    omega
theorem sg_mul {s t : Int} (h : Sg s t) (hs : s ≠ 0) (ht : t ≠ 0) : 0 < s * t := by
  have h := (sg_same hs ht).mp h
  unfold sg at h
  rcases Int.lt_or_gt_of_ne hs with h1 | h1 <;> rcases Int.lt_or_gt_of_ne ht with h2 | h2
  · exact Int.mul_pos_of_neg_of_neg h1 h2
  · rw [if_neg (by omega), if_pos h2] at h
    omega
  · rw [if_pos h1, if_neg (by omega)] at h
    omega
  · exact Int.mul_pos h1 h2
/-- what stands fast while first pieces are taken off both -/
structure CL (O : Ord α) (one other found mine yours : Row α) : Prop where
  zf : NZ found
  zm : NZ mine
  zy : NZ yours
  pm : pl O mine = true
  py : pl O yours = true
  em : act O (found ++ mine) [] = act O one []
  ey : act O (found ++ yours) [] = act O other []
  lm : gl O found + gl O mine = gl O one
  ly : gl O found + gl O yours = gl O other
theorem CL.start {one other mine yours : Row α} (zm : NZ mine) (zy : NZ yours) (pm : pl O mine = true) (py : pl O yours = true) (em : act O mine [] = act O one []) (ey : act O yours [] = act O other []) : CL O one other [] mine yours :=
  ⟨nz0, zm, zy, pm, py, em, ey, by rw [gl_congr em]; exact Nat.zero_add _, by rw [gl_congr ey]; exact Nat.zero_add _⟩
theorem cl_half {one found mine mine' : Row α} {a : α} {t part : Int} (zf : NZ found) (zm : NZ mine) (zm' : NZ mine') (pm : pl O mine = true) (em : act O (found ++ mine) [] = act O one []) (lm : gl O found + gl O mine = gl O one)
    (hn : nearS O a mine = some t) (h0 : part ≠ 0) (ha : (t - part).natAbs + part.natAbs = t.natAbs) (e' : act O mine' [] = act O ((a, -part) :: mine) []) :
    act O ((found ++ [(a, part)]) ++ mine') [] = act O one [] ∧ gl O (found ++ [(a, part)]) + gl O mine' = gl O one := by
  have z1 : NZ [(a, part)] := nz1 h0
  have z2 : NZ ((a, -part) :: mine) := nzc (by show -part ≠ 0; omega) zm
  have h1 : act O ((found ++ [(a, part)]) ++ mine') [] = act O one [] := by
    rw [← em, eq_app (O := O) (u := found ++ [(a, part)]) (u' := found ++ [(a, part)]) (v' := (a, -part) :: mine) (zf.app z1) zm' z2 rfl e', List.append_assoc]
    exact eq_app (O := O) (u := found) (u' := found) (v := [(a, part)] ++ (a, -part) :: mine) (v' := mine) zf (z1.app z2) zm rfl (act_cancel h0 n00)
  obtain ⟨k1, _⟩ := take_first zm pm hn h0 ha
  have k2 := gl_congr e'
  have k3 := gl_app (O := O) zf z1
  have k4 := gl_le (O := O) (l := [(a, part)])
  have k4 : gl O [(a, part)] ≤ part.natAbs + 0 := k4
  have k5 := gl_app (O := O) (zf.app z1) zm'
  rw [gl_congr h1] at k5
  exact ⟨h1, by omega⟩
theorem CL.step {one other found mine yours mine' yours' : Row α} {a : α} {t u : Int} (h : CL O one other found mine yours) (h1 : nearS O a mine = some t) (h2 : nearS O a yours = some u) (hs : Sg t u)
    (zm : NZ mine') (zy : NZ yours') (pm : pl O mine' = true) (py : pl O yours' = true) (em : act O mine' [] = act O ((a, -(shr t u)) :: mine) []) (ey : act O yours' [] = act O ((a, -(shr t u)) :: yours) []) :
    CL O one other (found ++ [(a, shr t u)]) mine' yours' ∧ mine'.length + yours'.length < mine.length + yours.length := by
  obtain ⟨q1, q2, q3, q4⟩ := shr_sg hs
  have qa : (t - shr t u).natAbs + (shr t u).natAbs = t.natAbs := by
    rcases q3 with q3 | q3
    · rw [q3]
      omega
    · exact q3.2.1
  obtain ⟨a1, a2⟩ := cl_half h.zf h.zm zm h.pm h.em h.lm h1 q1 qa em
  obtain ⟨b1, b2⟩ := cl_half h.zf h.zy zy h.py h.ey h.ly h2 q1 q4 ey
  refine ⟨⟨h.zf.app (nz1 q1), zm, zy, pm, py, a1, b1, a2, b2⟩, ?_⟩
  have c1 := (take_first h.zm h.pm h1 q1 qa).2
  have c2 := (take_first h.zy h.py h2 q1 q4).2
  rw [← em, ← len_pile pm zm] at c1
  rw [← ey, ← len_pile py zy] at c2
  rcases q3 with q3 | q3
  · rw [if_pos q3] at c1
    omega
  · rw [if_pos q3.1] at c2
    omega
theorem CL.rest {one found mine : Row α} (zf : NZ found) (zm : NZ mine) (z1 : NZ one) (em : act O (found ++ mine) [] = act O one []) : act O (back found ++ one) [] = act O mine [] := by
  rw [eq_app (O := O) (u := back found) (u' := back found) (back_nz zf) z1 (zf.app zm) rfl em.symm]
  exact act_part2 zf n00
theorem CL.done {one other found mine yours : Row α} (h : CL O one other found mine yours) (z1 : NZ one) (z2 : NZ other) (no : ∀ a t u, nearS O a mine = some t → nearS O a yours = some u → ¬ 0 < t * u) : Cm O found one other := by
  have r1 := CL.rest h.zf h.zm z1 h.em
  have r2 := CL.rest h.zf h.zy z2 h.ey
  refine ⟨?_, ?_, fun a s hs f1 f2 => ?_⟩
  · unfold Low
    rw [gl_congr r1]
    exact h.lm
  · unfold Low
    rw [gl_congr r2]
    exact h.ly
  · obtain ⟨t, k1, k2⟩ := (frt_iff h.zm (pl_red h.zm h.pm) hs).mp ((frt_congr hs ((back_nz h.zf).app z1) h.zm r1).mp f1)
    obtain ⟨u, k3, k4⟩ := (frt_iff h.zy (pl_red h.zy h.py) hs).mp ((frt_congr hs ((back_nz h.zf).app z2) h.zy r2).mp f2)
    have ht := h.zm (a, t) (nearS_mem k1)
    have hu := h.zy (a, u) (nearS_mem k3)
    exact no a t u k1 k3 (sg_mul ((sg_same ht hu).mpr (k2.trans k4.symm)) ht hu)
/-- what two rows have in common, as a least pile -/
def cmm (O : Ord α) (l m : Row α) : Row α := cmn O (pile O l) (pile O m)
theorem cmm_nf {l m : Row α} (zl : NZ l) : NF O (cmm O l m).reverse := cmn_nf (pile_nf zl)
theorem cmm_nz {l m : Row α} (zl : NZ l) (zm : NZ m) : NZ (cmm O l m) := cmn_nz (pile_nz zl) (pile_nz zm) (pile_gl zl) (pile_pl zm)
theorem cmm_cm {l m : Row α} (zl : NZ l) (zm : NZ m) : Cm O (cmm O l m) l m :=
  cm_congr (cmm_nz zl zm) (pile_nz zl) (pile_nz zm) zl zm (pile_act zl n00) (pile_act zm n00) (cmn_cm (pile_nz zl) (pile_nz zm) (pile_gl zl) (pile_pl zm))
theorem cmm_of {c l m : Row α} (zc : NZ c) (zl : NZ l) (zm : NZ m) (h : Cm O c l m) : pile O c = cmm O l m := by
  rw [← pile_of (cmm_nf (O := O) (m := m) zl)]
  exact pile_eq (cm_uniq _ rfl zc (cmm_nz zl zm) zl zm h (cmm_cm zl zm))
theorem cmm_piles {l m : Row α} (zl : NZ l) (zm : NZ m) : cmm O (pile O l) (pile O m) = cmm O l m := by
  unfold cmm
  rw [pile_of (pile_nf zl), pile_of (pile_nf zm)]
/-- a lower part of another one is what both have in common -/
theorem low_cmm {l m : Row α} (zl : NZ l) (zm : NZ m) : Low O l m ↔ pile O l = cmm O l m := by
  constructor
  · intro h
    refine cmm_of zl zl zm ⟨?_, h, fun a s hs f1 _ => ?_⟩
    · unfold Low
      have : gl O (back l ++ l) = 0 := far_self (O := O) zl
      omega
    · have : gl O (back l ++ l) = 0 := far_self (O := O) zl
      unfold Frt at f1
      omega
  · intro h
    have k := (cmm_cm (O := O) zl zm).2.1
    have e := h ▸ pile_act (O := O) zl (q := []) n00
    have zc := cmm_nz (O := O) zl zm
    unfold Low at k ⊢
    have e2 : act O (back (cmm O l m) ++ m) [] = act O (back l ++ m) [] := eq_app (O := O) (v' := m) (back_nz zl) zm zm (act_back_eq zc zl e n00) rfl
    rw [gl_congr e, gl_congr e2] at k
    exact k
/-! ### the least one over both -/
def tch (O : Ord α) (l m : Row α) : Bool := l.any fun x => m.any fun y => O.tc x.1 y.1
theorem tch_same {l m l' m' : Row α} (hl : ∀ x, x ∈ l ↔ x ∈ l') (hm : ∀ x, x ∈ m ↔ x ∈ m') : tch O l m = tch O l' m' := by
  unfold tch
  rw [Bool.eq_iff_iff, List.any_eq_true, List.any_eq_true]
  constructor
  · rintro ⟨x, h1, h2⟩
    obtain ⟨y, h3, h4⟩ := List.any_eq_true.mp h2
    exact ⟨x, (hl x).mp h1, List.any_eq_true.mpr ⟨y, (hm y).mp h3, h4⟩⟩
  · rintro ⟨x, h1, h2⟩
    obtain ⟨y, h3, h4⟩ := List.any_eq_true.mp h2
    exact ⟨x, (hl x).mpr h1, List.any_eq_true.mpr ⟨y, (hm y).mpr h3, h4⟩⟩
def ovr (O : Ord α) (u v : Row α) : Option (Row α) :=
  if tch O (pile O (back (cmn O u v) ++ u)) (pile O (back (cmn O u v) ++ v)) then none else some (pile O (u ++ pile O (back (cmn O u v) ++ v)))
theorem ovr_law {l m more rest : Row α} (zl : NZ l) (zm : NZ m) (z1 : NZ more) (z2 : NZ rest) (p1 : pl O more = true) (p2 : pl O rest = true) (e1 : act O more [] = act O (back (cmm O l m) ++ l) []) (e2 : act O rest [] = act O (back (cmm O l m) ++ m) []) :
    ovr O (pile O l) (pile O m) = if tch O more rest then none else some (pile O (cmm O l m ++ more ++ rest)) := by
  have zc := cmm_nz (O := O) zl zm
  have zP := pile_nz (O := O) zl
  have zQ := pile_nz (O := O) zm
  have zb := back_nz zc
  have f1 : act O more [] = act O (pile O (back (cmm O l m) ++ pile O l)) [] := by
    rw [e1, pile_act (zb.app zP) n00]
    exact (eq_app (O := O) zb zP zl rfl (pile_act zl n00)).symm
  have f2 : act O rest [] = act O (pile O (back (cmm O l m) ++ pile O m)) [] := by
    rw [e2, pile_act (zb.app zQ) n00]
    exact (eq_app (O := O) zb zQ zm rfl (pile_act zm n00)).symm
  have zp1 := pile_nz (O := O) (zb.app zP)
  have zp2 := pile_nz (O := O) (zb.app zQ)
  show (if tch O (pile O (back (cmm O l m) ++ pile O l)) (pile O (back (cmm O l m) ++ pile O m)) then none else some (pile O (pile O l ++ pile O (back (cmm O l m) ++ pile O m)))) = _
  rw [tch_same (O := O) (mem_same p1 z1 (pile_pl (zb.app zP)) zp1 f1) (mem_same p2 z2 (pile_pl (zb.app zQ)) zp2 f2)]
  congr 2
  refine pile_eq ?_
  refine eq_app (zc.app z1) zp2 z2 ?_ f2.symm
  rw [eq_app (O := O) (u := cmm O l m) (u' := cmm O l m) zc z1 (zb.app zl) rfl e1, act_part zc n00, pile_act zl n00]
end
end XM
set_option Elab.async false
set_option linter.all false
set_option maxRecDepth 100000
set_option maxHeartbeats 4000000
namespace XB
open PySem PySem.Spec PyProof.Rows L2
/-! what lies over both -/
section
variable {P : Program} {w : World} {K : PySem.W.Frag} {mg : Str → Option Value} {base : Heap}
def spDoTouch (K : PySem.W.Frag) (F : Fld) : Sp := fun vs H Q _ => ∃ (t d e : Addr) (l m : List (Str × Int)), vs = [.ref t, .ref d, .ref e] ∧ TouchAt K H t F ∧ F.Ok ∧ Dp K H (.ref d) (dSteps l) ∧ Dp K H (.ref e) (dSteps m) ∧ l.length ≤ 30 ∧ m.length ≤ 30 ∧ Names F l ∧ Names F m ∧
  ∀ H', Same H H' → Q (.bl (XM.tch (OF F) l m)) H'
theorem c_do_touch (T : Tx K mg) (F : Fld) : Cl P w K mg base CX0 1 "do_touch" (spDoTouch K F) := by
  refine cl0 T.d_do_touch (ps := ["touch", "one", "other"]) (fun _ _ _ _ _ _ us hl => match us, hl with | [_, _, _], _ => rfl) sc_do_touch (fun vs H Q E h => ?_) (fun f cdv A outer st H vs Q E hr h => ?_)
  · obtain ⟨t, d, e, l, m, rfl, _⟩ := h
    rfl
  · obtain ⟨t, d, e, l, m, rfl, hT, ok, hL, hM, ll, lm, nl, nm, q⟩ := h
    have nd := sc_do_touch.nd
    have hu : (A.deeper (envOfC "do_touch" (defScope s_do_touch) st.heap.objs.size f cdv)).units + 1 < cLine := by
      have := hr.un
      omega
    refine ⟨_, (pss_one (ps_ret (pe_callB (cr_any rfl) (by rfl) T.b_any (by decide +kernel) (pa_cons (pe_lc2 (own := [("name", 3), ("_", 4), ("far", 5)]) (vs1 := [5, 4]) (g := (gTup K 2 (gCons (gName 3) (gCons (gName 4) gNil)))) (tt := tYes) (g1 := (gTup K 2 (gCons (gName 5) (gCons (gName 4) gNil)))) (tt1 := tYes) (by rfl) nd (pi_tupk (K := K) rfl (pv 1)) (blkOk_by (own := [("name", 3), ("_", 4), ("far", 5)]) (N := ["touch", "one", "other", "name", "_", "far"]) (sc := defScope s_do_touch) (by decide +kernel)) (by decide) (fun _ _ _ _ _ => (pg_tup rfl (pgs_cons (pg_name (i := 3) nd rfl (by first | exact Or.inl rfl | exact Or.inr rfl)) (pgs_cons (pg_name (i := 4) nd rfl (by first | exact Or.inl rfl | exact Or.inr rfl)) pgs_nil)))) (fun _ _ _ _ _ => pts_nil) (fun _ _ _ _ _ => (pi_tupk (K := K) rfl (pv 2))) (fun _ _ _ _ _ => (pg_tup rfl (pgs_cons (pg_name (i := 5) nd rfl (by first | exact Or.inl rfl | exact Or.inr rfl)) (pgs_cons (pg_name (i := 4) nd rfl (by first | exact Or.inl rfl | exact Or.inr rfl)) pgs_nil)))) (fun _ _ _ _ _ => pts_nil) (fun _ _ _ _ _ => (pe_cmpR (opk_in_seq (K := K) rfl) (pv 5) (pe_dget hu (pv 0) (pv 3) (fun _ _ => rfl)) (by rfl)))) pa_nil)))), ?_⟩
    --@
    obtain ⟨_, xs, ex, hxS, hxD⟩ := hL.steps
    cases ex
    obtain ⟨_, ys, ey, hyS, hyD⟩ := hM.steps
    cases ey
    have lx := hxD.len
    rw [List.length_map] at lx
    have ly := hyD.len
    rw [List.length_map] at ly
    obtain ⟨kvs, e1, g⟩ := id hT
    refine ⟨_, rfl, d, rfl, ⟨_, hxS⟩, fun D hD => ?_⟩
    refine lc2_out (walk_tup (xs := xs)) (fun i H' => H' D = some (.lst (((l.take i).flatMap fun x => m.map fun y => (OF F).tc x.1 y.1).map V.bl)) ∧ Same H H') ⟨upd_same, same_upd hD⟩ (fun _ _ _ ⟨_, s'⟩ => (Tk.of s').sqT hxS) (fun i x H1o H1 hi ⟨eD, s1⟩ hy => ?_) (fun H1 ⟨eD, s1⟩ => ?_)
    · obtain ⟨rfl, hx⟩ := hy
      obtain ⟨dd, g1, p1⟩ := hxD.get hx
      rw [List.getElem?_map] at g1
      obtain ⟨s, k1, rfl⟩ := Option.map_eq_some_iff.mp g1
      obtain ⟨b, rfl, cb⟩ := p1.step
      have ms := nl s (List.mem_of_getElem? k1)
      refine ⟨b, _, rfl, (Tk.of s1).sqT cb, rfl, _, _, rfl, _, _, rfl, rfl, rfl, yes_ ⟨_, rfl, e, rfl, ⟨_, (Tk.of s1).sqT hyS⟩, ?_⟩⟩
      have lfl : ∀ (z : List (Str × Int)), (z.flatMap fun x => m.map fun y => (OF F).tc x.1 y.1).length = z.length * m.length := fun z => by
        induction z with
        | nil => simp
        | cons a z ih => rw [List.flatMap_cons, List.length_append, ih, List.length_map, List.length_cons, Nat.succ_mul, Nat.add_comm]
      refine lc2_in (walk_tup (xs := ys)) (fun j H' => H' D = some (.lst ((((l.take i).flatMap fun x => m.map fun y => (OF F).tc x.1 y.1) ++ ((m.take j).map fun y => (OF F).tc s.1 y.1)).map V.bl)) ∧ Same H H') ⟨by rw [List.take_zero, List.map_nil, List.append_nil]; exact eD, s1⟩ (fun _ _ _ ⟨_, s'⟩ => (Tk.of s').sqT hyS) (fun j y H2o H2 hj ⟨fD, s2⟩ hz => ?_) (fun H2 ⟨fD, s2⟩ => ?_)
      · obtain ⟨rfl, hy⟩ := hz
        obtain ⟨dd, g2, p2⟩ := hyD.get hy
        rw [List.getElem?_map] at g2
        obtain ⟨z, k2, rfl⟩ := Option.map_eq_some_iff.mp g2
        obtain ⟨c, rfl, cc⟩ := p2.step
        have mz := nm z (List.mem_of_getElem? k2)
        refine ⟨c, _, rfl, (Tk.of s2).sqT cc, rfl, _, _, rfl, _, _, rfl, rfl, rfl, yes_ ?_⟩
        obtain ⟨r, e2, e3⟩ := g s.1 ms
        have dg : DGet H2 t (.str s.1) (some (.ref r)) := by
          have := DGet.k (k := .inr s.1) (s2 _ _ e1)
          rwa [e2] at this
        refine ⟨_, rfl, _, rfl, _, rfl, t, .ref r, rfl, dg, r, _, rfl, .inr ((Tk.of s2).sqT e3), rfl, flat_strs _, ?_⟩
        rw [inV_strs, mem_touch ok mz, (OF F).symm]
        refine ⟨_, fD, ?_, ?_, ?_⟩
        · rw [List.length_map, List.length_append, lfl, List.length_map, List.length_take, List.length_take]
          have h1 : min i l.length * m.length ≤ 30 * 30 := Nat.mul_le_mul (by omega) lm
          exact small1000 (by omega)
        · rw [upd_same, take_snoc k2, List.map_append, List.map_append, List.map_append, List.map_append, List.append_assoc]
          rfl
        · exact same_put s2 hD
      · rw [ly, List.take_length] at fD
        refine ⟨?_, s2⟩
        rw [take_snoc k1, List.flatMap_append, fD]
        simp
    · rw [lx, List.take_length] at eD
      refine ⟨D, _, rfl, SqL.of eD, ?_⟩
      have e0 : (l.flatMap fun x => m.map fun y => (OF F).tc x.1 y.1).any id = XM.tch (OF F) l m := by
        unfold XM.tch
        rw [List.any_flatMap]
        congr 1
        funext x
        rw [List.any_map]
        rfl
      rw [e0]
      exact q H1 s1
def spOverOf (K : PySem.W.Frag) (F : Fld) : Sp := fun vs H Q _ => ∃ (t d e : Addr) (l m : List (Str × Int)), vs = [.ref t, .ref d, .ref e] ∧ TouchAt K H t F ∧ F.Ok ∧ Dp K H (.ref d) (dSteps l) ∧ Dp K H (.ref e) (dSteps m) ∧ l.length ≤ 12 ∧ m.length ≤ 12 ∧ Names F l ∧ Names F m ∧
  (XM.ovr (OF F) l m = none → ∀ H', Same H H' → Q .non H') ∧ (∀ z, XM.ovr (OF F) l m = some z → ∀ H' r, Same H H' → Dp K H' (.ref r) (dSteps z) → Q (.ref r) H')
theorem c_over_both_of (T : Tx K mg) (F : Fld) : Cl P w K mg base CX0 4 "over_both_of" (spOverOf K F) := by
  refine cl0 T.d_over_both_of (ps := ["touch", "one", "other"]) (fun _ _ _ _ _ _ us hl => match us, hl with | [_, _, _], _ => rfl) sc_over_both_of (fun vs H Q E h => ?_) (fun f cdv A outer st H vs Q E hr h => ?_)
  · obtain ⟨t, d, e, l, m, rfl, _⟩ := h
    rfl
  · obtain ⟨t, d, e, l, m, rfl, hT, ok, hL, hM, ll, lm, nl, nm, q1, q2⟩ := h
    have nd := sc_over_both_of.nd
    refine ⟨_, (pss_cons (ps_set (i := 3) nd rfl (.inl rfl) (pe_k (c_common_of T F) hr (by decide) (by rfl) (pa_cons (pv 0) (pa_cons (pv 1) (pa_cons (pv 2) pa_nil)))))
    (pss_cons (ps_par (i := 4) (j := 5) rfl nd rfl rfl (by decide) rfl rfl (pa_cons (pe_k (c_piled T F) hr (by decide) (by rfl) (pa_cons (pv 0) (pa_cons (pe_op (op_catAk (K := K) rfl) (pe_k (c_back T) hr (by decide) (by rfl) (pa_cons (pv 3) pa_nil)) (pv 1)) pa_nil))) (pa_cons (pe_k (c_piled T F) hr (by decide) (by rfl) (pa_cons (pv 0) (pa_cons (pe_op (op_catAk (K := K) rfl) (pe_k (c_back T) hr (by decide) (by rfl) (pa_cons (pv 3) pa_nil)) (pv 2)) pa_nil))) pa_nil)) rfl)
    (pss_cons (ps_if (pt_val (pe_k (c_do_touch T F) hr (by decide) (by rfl) (pa_cons (pv 0) (pa_cons (pv 4) (pa_cons (pv 5) pa_nil))))) (pss_one (ps_ret pe_non)) pss_nil)
    (pss_one (ps_ret (pe_k (c_piled T F) hr (by decide) (by rfl) (pa_cons (pv 0) (pa_cons (pe_op (op_catAk (K := K) rfl) (pv 1) (pv 5)) pa_nil)))))))), ?_⟩
    --@
    obtain ⟨c1, c2⟩ := cmn_cb nl nm
    refine ⟨_, rfl, _, rfl, _, rfl, t, d, e, l, m, rfl, hT, ok, hL, hM, by omega, by omega, nl, nm, fun H1 a s1 ha => ?_⟩
    have nb := names_back c1
    have lb : (XM.back (XM.cmn (OF F) l m)).length ≤ 12 := by rw [len_back]; omega
    refine ⟨_, rfl, _, rfl, a, _, rfl, ha, by omega, fun H2 b s2 hb => ⟨_, rfl, catD hb (Dp.sm (s1.trans s2) _ hL) (by omega) fun H3 c s3 hc => ?_⟩⟩
    have s13 := (s1.trans s2).trans s3
    obtain ⟨_, xs, ee, hxS, hxD⟩ := hc.steps
    cases ee
    refine ⟨t, c, xs, _, rfl, hT.same s13, ok, hxS, hxD, by rw [List.length_append]; omega, fun s hs => (List.mem_append.mp hs).elim (nb s) (nl s), fun H4 r s4 hR => ?_⟩
    have s14 := s13.trans s4
    refine ⟨_, rfl, _, rfl, a, _, rfl, Dp.sm ((s2.trans s3).trans s4) _ ha, by omega, fun H5 b2 s5 hb2 => ⟨_, rfl, catD hb2 (Dp.sm (s14.trans s5) _ hM) (by omega) fun H6 c2' s6 hc2 => ?_⟩⟩
    have s16 := (s14.trans s5).trans s6
    obtain ⟨_, ys, ee, hyS, hyD⟩ := hc2.steps
    cases ee
    refine ⟨t, c2', ys, _, rfl, hT.same s16, ok, hyS, hyD, by rw [List.length_append]; omega, fun s hs => (List.mem_append.mp hs).elim (nb s) (nm s), fun H7 r2 s7 hR2 => ?_⟩
    have s17 := s16.trans s7
    have hR7 := Dp.sm ((s5.trans s6).trans s7) _ hR
    have n1 : Names F (XM.pile (OF F) (XM.back (XM.cmn (OF F) l m) ++ l)) := names_rev (names_act (r := []) (fun s hs => (List.mem_append.mp hs).elim (nb s) (nl s)) fun _ h => nomatch h)
    have n2 : Names F (XM.pile (OF F) (XM.back (XM.cmn (OF F) l m) ++ m)) := names_rev (names_act (r := []) (fun s hs => (List.mem_append.mp hs).elim (nb s) (nm s)) fun _ h => nomatch h)
    have l1 := act_len1 (F := F) (l := XM.back (XM.cmn (OF F) l m) ++ l)
    have l2 := act_len1 (F := F) (l := XM.back (XM.cmn (OF F) l m) ++ m)
    rw [List.length_append] at l1 l2
    have l1 : (XM.pile (OF F) (XM.back (XM.cmn (OF F) l m) ++ l)).length ≤ _ := l1
    have l2 : (XM.pile (OF F) (XM.back (XM.cmn (OF F) l m) ++ m)).length ≤ _ := l2
    refine ⟨_, _, rfl, _, rfl, _, rfl, _, rfl, t, r, r2, _, _, rfl, hT.same s17, ok, hR7, hR2, by omega, by omega, n1, n2, fun H8 s8 => ?_⟩
    have s18 := s17.trans s8
    refine ⟨_, rfl, ite2 (fun h => ?_) (fun h => ?_)⟩
    · exact q1 (if_pos h) H8 s18
    · refine ⟨_, rfl, _, rfl, _, rfl, ?_⟩
      refine catD (Dp.sm s18 _ hL) (Dp.sm s8 _ hR2) (by omega) fun H9 c3 s9 hc3 => ?_
      obtain ⟨_, zs, ee, hzS, hzD⟩ := hc3.steps
      cases ee
      have s19 := s18.trans s9
      exact ⟨t, c3, zs, _, rfl, hT.same s19, ok, hzS, hzD, by rw [List.length_append]; omega, fun s hs => (List.mem_append.mp hs).elim (nl s) (n2 s), fun H10 r3 s10 hR3 => q2 _ (if_neg h) H10 r3 (s19.trans s10) hR3⟩
def spOverP (K : PySem.W.Frag) (mg : Str → Option Value) (F : Fld) : Sp := fun vs H Q _ => ∃ (a b : Addr) (u v : List (Str × Int)), vs = [.ref a, .ref b] ∧ PV K mg H a F u ∧ PV K mg H b F v ∧ F.Ok ∧ Names F u ∧ Names F v ∧ u.length ≤ 12 ∧ v.length ≤ 12 ∧
  (XM.ovr (OF F) u v = none → ∀ H', Same H H' → Q .non H') ∧ (∀ z, XM.ovr (OF F) u v = some z → z.length ≤ 200 ∧ ∀ H' c, Same H H' → PV K mg H' c F z → Q (.ref c) H')
theorem c_Pile_over_both (T : Tx K mg) (F : Fld) : MCl P w K mg base (L2.CX P w) 5 "Pile" "over_both" (spOverP K mg F) := by
  refine mclX T.m_Pile_over_both (ps := ["self", "other"]) (fun _ _ _ _ _ _ us hl => match us, hl with | [_, _], _ => rfl) sc_Pile_over_both (fun vs H Q E h => ?_) (fun f cdv A outer st H vs Q E hr h => ?_)
  · obtain ⟨a, b, u, v, rfl, _⟩ := h
    rfl
  · obtain ⟨a, b, u, v, rfl, hP, hR, ok, nu, nv, lu, lv, q1, q2⟩ := h
    have nd := sc_Pile_over_both.nd
    have tk : Takes (cxOf (L2.CX P w) P w K mg base ["self", "other", "pieces"] "Pile.over_both" (defScope s_Pile_over_both) f cdv A outer st H E) fun cls d _ H => E cls d H := takes_of rfl rfl rfl rfl
    refine ⟨_, (pss_cons (ps_expr (pe_kX (c_need_like T) hr (by decide) tk (by rfl) (pa_cons (pv 0) (pa_cons (pv 1) pa_nil))))
    (pss_cons (ps_set (i := 2) nd rfl (.inl rfl) (pe_k (c_over_both_of T F) hr (by decide) (by rfl) (pa_cons (pe_k (c_touch_table T) hr (by decide) (by rfl) (pa_cons (pe_fld (pv 0) rfl) pa_nil)) (pa_cons (pe_fld (pv 0) rfl) (pa_cons (pe_ptO T.o_Pile (c_Pile_steps T) (pv 1) hr (by decide) (E := E0) passL rfl) pa_nil)))))
    (pss_one (ps_ret (pe_ifExp (pt_cmpR op_isN (pv 2) pe_non (nomark _)) pe_non (pe_k (c_made_pile T) hr (by decide) (by rfl) (pa_cons (pe_fld (pv 0) rfl) (pa_cons (pv 2) pa_nil)))))))), ?_⟩
    --@
    obtain ⟨f1, s1, hPA, hF, hu⟩ := id hP
    obtain ⟨f2, s2, hRA, hG, hv⟩ := id hR
    obtain ⟨fs, ⟨C, dx, hm, hi⟩, l1, l2, _⟩ := id hPA
    have sh := (fld_fok ok).sh
    refine ⟨_, rfl, _, rfl, a, b, .ref f1, .ref s1, .ref f2, .ref s2, dField F, dField F, rfl, hPA, hRA, hF, hG, sh, sh, .inl ⟨PySem.SeqAt.eqv_refl _ (fld_okd ok).lay, ?_⟩⟩
    refine ⟨_, rfl, a, C, dx, fs, .ref f1, rfl, hi, oc_cls T.o_Pile hm, T.n_Pile__field C hm, l1, f1, F, rfl, hF, ok, fun H1 t t1 nt hT => ?_⟩
    obtain ⟨f3, s3, hRA1, hG1, hv1⟩ := id (hR.same t1)
    obtain ⟨gs, hj, _⟩ := id hRA1
    refine ⟨_, rfl, a, C, dx, fs, .ref s1, rfl, t1 _ _ hi, oc_cls T.o_Pile hm, T.n_Pile__steps C hm, l2, _, rfl, b, gs, rfl, hj, b, .ref f3, .ref s3, rfl, hRA1, ?_⟩
    refine ⟨t, s1, s3, u, v, rfl, hT, ok, Dp.sm t1 _ hu, hv1, lu, lv, nu, nv, fun e0 H3 t3 => ?_, fun z e0 H3 r t3 hz => ?_⟩
    · exact ⟨_, rfl, rfl, _, rfl, iteT (q1 e0 H3 (t1.trans t3))⟩
    · have t13 := t1.trans t3
      exact ⟨_, rfl, rfl, _, rfl, iteF ⟨_, rfl, a, C, dx, fs, .ref f1, rfl, t13 _ _ hi, oc_cls T.o_Pile hm, T.n_Pile__field C hm, l1, _, rfl, F, f1, r, z, rfl, Dp.sm t13 _ hF, hz, (q2 z e0).1, fun H4 c t4 hP4 => (q2 z e0).2 H4 c (t13.trans t4) hP4⟩⟩
end
end XB
set_option Elab.async false
set_option linter.all false
set_option maxRecDepth 100000
set_option maxHeartbeats 4000000
namespace XB
open PySem PySem.Spec PyProof.Rows L2
def ML : List Str := ["a", "b", "c", "d", "e", "f"]
def nmM (i : Nat) : Str := (ML[i]?).getD ""
def fM (n i : Nat) : List (Str × Str) := ((ML.take n).drop (i + 1)).map fun o => (nmM i, o)
def PM (n k : Nat) : List (Str × Str) := (List.range k).flatMap (fM n)
def okM (n : Nat) : Bool := (PM n n).all (fun p => sLt p.1 p.2 && (ML.take n).contains p.1 && (ML.take n).contains p.2) && pwB ltP (PM n n) && pwB sLt (ML.take n) && (ML.take n).all goodB && decide ((PM n n).length ≤ 100) && decide ((ML.take n).length = n)
theorem okM_all : okM 1 = true ∧ okM 2 = true ∧ okM 3 = true ∧ okM 4 = true ∧ okM 5 = true ∧ okM 6 = true := by decide +kernel
theorem okM_of {n : Nat} (h0 : 1 ≤ n) (h6 : n ≤ 6) : okM n = true := by
  obtain ⟨a, b, c, d, e, f⟩ := okM_all
  rcases n with _ | _ | _ | _ | _ | _ | _ | n
  · omega
  · exact a
  · exact b
  · exact c
  · exact d
  · exact e
  · exact f
  · omega
theorem fld_okM {n : Nat} {ps : List (Str × Str)} (h0 : 1 ≤ n) (h6 : n ≤ 6) (hs : ps.Sublist (PM n n)) : (Fld.mk (ML.take n) ps).Ok := by
  have h := okM_of h0 h6
  unfold okM at h
  simp only [Bool.and_eq_true, decide_eq_true_eq, List.all_eq_true] at h
  obtain ⟨⟨⟨⟨⟨a, b⟩, c⟩, d⟩, e⟩, f⟩ := h
  refine ⟨by show 0 < (ML.take n).length; omega, by show (ML.take n).length ≤ 6; omega, fun p hp => (a p (hs.subset hp)).1.1, fun p hp => ⟨?_, ?_⟩, fun x hx => good_of (d x hx), pw_of c, (pw_of b).sublist hs, Nat.le_trans hs.length_le e⟩
  · have := (a p (hs.subset hp)).1.2
    simpa using this
  · have := (a p (hs.subset hp)).2
    simpa using this
theorem PM_succ (n k : Nat) : PM n (k + 1) = PM n k ++ fM n k := by
  unfold PM
  rw [List.range_succ, List.flatMap_append]
  simp
theorem ml_at {n k : Nat} (h6 : n ≤ 6) (h : k < n) : ((ML.take n).map V.str)[k]? = some (.str (nmM k)) := by
  have hl : k < ML.length := by show k < 6; omega
  rw [List.getElem?_map, List.getElem?_take, if_pos h, List.getElem?_eq_getElem hl]
  unfold nmM
  rw [List.getElem?_eq_getElem hl]
  rfl
theorem ml_len {n : Nat} (h6 : n ≤ 6) : (ML.take n).length = n := by
  rw [List.length_take]
  show min n 6 = n
  omega
theorem fM_len {n k : Nat} : (fM n k).length ≤ 6 := by
  unfold fM
  rw [List.length_map, List.length_drop, List.length_take]
  have : ML.length = 6 := rfl
  omega
theorem PM_len' {n : Nat} : ∀ k, (PM n k).length ≤ 6 * k
  | 0 => Nat.le_refl _
  | k + 1 => by
    rw [PM_succ, List.length_append]
    have := PM_len' (n := n) k
    have := fM_len (n := n) (k := k)
    omega
theorem PM_len {n k : Nat} (h6 : n ≤ 6) (hk : k ≤ n) : (PM n k).length ≤ 36 := by
  have := PM_len' (n := n) k
  omega
theorem rowCatP {K : PySem.W.Frag} {H : Hp} {a b : Addr} {l m : List (Str × Str)} {Q : VK} (h1 : RowP K H a l) (h2 : RowP K H b m) (hl : l.length + m.length ≤ 900) (q : ∀ H' p, Same H H' → H p = none → RowP K H' p (l ++ m) → Q (.ref p) H') : rCat (.ref a) (.ref b) H Q := by
  obtain ⟨xs, e1, v1⟩ := h1
  obtain ⟨ys, e2, v2⟩ := h2
  have l1 := v1.len
  have l2 := v2.len
  rw [List.length_map] at l1 l2
  refine catL e1 e2 (Nat.le_of_lt (small1000 (by omega))) fun H' p s hp e => q H' p s hp ⟨_, e, ?_⟩
  rw [List.map_append]
  exact (DpAll.tk (Tk.of s) _ (flat_pairs l) v1).app (DpAll.tk (Tk.of s) _ (flat_pairs m) v2)
theorem RowP.same {K : PySem.W.Frag} {H H' : Hp} {a : Addr} {l : List (Str × Str)} (h : RowP K H a l) (s : Same H H') : RowP K H' a l := by
  obtain ⟨xs, e, v⟩ := h
  exact ⟨xs, s _ _ e, DpAll.tk (Tk.of s) _ (flat_pairs l) v⟩
section
variable {P : Program} {w : World} {K : PySem.W.Frag} {mg : Str → Option Value} {base : Heap}
def spLawField3 (K : PySem.W.Frag) : Sp := fun vs H Q _ => ∃ (m c g : Addr) (s most : Int), vs = [.ref m, .int most] ∧ Dr H m c g s ∧ 1 ≤ most ∧ most ≤ 6 ∧ s < 900000000 ∧
  ∀ H' f F s', Dr H' m c g s' → s' ≤ s + 40 → Kp m g H H' → Dp K H' (.ref f) (dField F) → F.Ok → (∀ x ∈ F.names, x ∈ ML) → (F.names.length : Int) ≤ most → F.pairs.length ≤ 36 → Q (.ref f) H'
theorem c__law_field3 (T : Tx K mg) : Cl P w K mg base CX0 3 "_law_field" (spLawField3 K) := by
  refine cl0 T.d__law_field (ps := ["m", "most"]) (fun _ _ _ _ _ _ us hl => match us, hl with | [_, _], _ => rfl) sc__law_field (fun vs H Q E h => ?_) (fun f cdv A outer st H vs Q E hr h => ?_)
  · obtain ⟨m, c, g, s, most, rfl, _⟩ := h
    rfl
  · obtain ⟨m, c, g, s, most, rfl, R, m1, m6, hs9, q⟩ := h
    have nd := sc__law_field.nd
    refine ⟨_, (pss_cons (ps_asg (pe_tup (pa_cons (pe_slice sl_tupA (pe_tup (pa_cons pe_str (pa_cons pe_str (pa_cons pe_str (pa_cons pe_str (pa_cons pe_str (pa_cons pe_str pa_nil))))))) po_none (po_some (pe_op op_add pe_int (pe_k (c_draw T) hr (by decide) (by rfl) (pa_cons (pv 0) (pa_cons (pv 1) pa_nil)))))) (pa_cons (pe_lst pa_nil) pa_nil))) (pg_tup rfl (pgs_cons (pg_name (i := 2) nd rfl (.inr rfl)) (pgs_cons (pg_name (i := 3) nd rfl (.inl rfl)) pgs_nil))))
    (pss_cons (ps_for PassesOwn.never rfl (pi_range1 (by rfl) T.b_range (pa_cons (pe_lenS (by rfl) T.b_len (pv 2)) pa_nil)) (pg_name (i := 4) nd rfl (.inr rfl))
    (pss_one (ps_set (i := 3) nd rfl (.inl rfl) (pe_op op_cat (pv 3) (pe_lc (own := [("other", 5)]) (g := (gName 5)) (tt := tYes) (by rfl) nd (pi_tup (pe_slice sl_tupA (pv 2) (po_some (pe_op op_add (pv 4) pe_int)) po_none)) (blkOk_by (own := [("other", 5)]) (N := ["m", "most", "names", "some", "k", "other", "pair"]) (sc := defScope s__law_field) (by decide +kernel)) (fun _ _ _ _ _ => (pg_name (i := 5) nd rfl (by first | exact Or.inl rfl | exact Or.inr rfl))) (fun _ _ _ _ _ => pts_nil) (fun _ _ _ _ _ => (pe_tup (pa_cons (pe_ix (ixk_tup (K := K) rfl) (pv 2) (pv 4) (fun _ _ => rfl)) (pa_cons (pv 5) pa_nil)))))))))
    (pss_one (ps_ret (pe_tup (pa_cons (pv 2) (pa_cons (pe_tupleOf (by rfl) T.b_tuple (pe_lc (own := [("pair", 6)]) (g := (gName 6)) (tt := _) (by rfl) nd (pi_list (pv 3)) (blkOk_by (own := [("pair", 6)]) (N := ["m", "most", "names", "some", "k", "other", "pair"]) (sc := defScope s__law_field) (by decide +kernel)) (fun _ _ _ _ _ => (pg_name (i := 6) nd rfl (by first | exact Or.inl rfl | exact Or.inr rfl))) (fun _ _ _ _ _ => pts_one (pt_cmpR op_eq (pe_k (c_draw T) hr (by decide) (by rfl) (pa_cons (pv 0) (pa_cons pe_int pa_nil))) pe_int (nomark _))) (fun _ _ _ _ _ => (pv 6)))) pa_nil))))))), ?_⟩
    refine ⟨(show 6 ≤ sizeLine by decide), fun t0 ht0 => upd_gen ht0 fun H1 s1 e1 => ?_⟩
    have e1 : SqT K H1 t0 (ML.map V.str) := SqT.of e1
    refine noPart ?_
    refine ⟨_, rfl, _, rfl, m, c, g, s, most, rfl, R.same s1, by omega, by omega, by omega, fun r H2 r0 r1 R2 k2 => ?_⟩
    obtain ⟨n, hn⟩ : ∃ n : Nat, 1 + r = (n : Int) := ⟨(1 + r).toNat, by omega⟩
    have n1 : 1 ≤ n := by omega
    have n6 : n ≤ 6 := by omega
    refine ⟨_, _, rfl, rfl, (n : Int), congrArg V.int hn, ?_⟩
    refine sl_pre (((R.same s1).tk k2).sqT e1) fun H3 tn s3 hN => ⟨Nat.zero_le _, fun D hD => upd_gen hD fun H4a s4a e4a => ⟨two_sz, fun T0 nT0 => upd_gen nT0 fun H4 s4b e4b => ⟨T0, _, rfl, SqT.of e4b, rfl, _, _, rfl, _, _, rfl, rfl, ?_⟩⟩⟩
    have s4 := s4a.trans s4b
    have e4 := s4b _ _ e4a
    rw [← List.map_take] at hN
    have k4 : Kp m g H H4 := ((Kp.of s1).trans k2).trans ((Kp.of s3).trans (Kp.of s4))
    have R4 := (R2.same s3).same s4
    have nD := (R2.same s3).nm hD
    have hN4 := (Tk.of s4).sqT hN
    have hl : ((ML.take n).map V.str).length = n := by rw [List.length_map, ml_len n6]
    refine ⟨_, rfl, tn, _, rfl, .inr hN4, n, by rw [hl], by omega, by omega, ?_⟩
    refine for_range (lo := 0) (n := n) (fun k σ H2 => ∃ (D : Addr) (y4 y5 y6 : Option V), σ = [some (.ref m), some (.int most), some (.ref tn), some (.ref D), y4, y5, y6] ∧ Same H4 H2 ∧ (D ≠ m ∧ D ≠ c ∧ D ≠ g) ∧ RowP K H2 D (PM n k))
      ⟨D, none, none, none, rfl, Same.refl _, nD, [], e4, .nil⟩ (fun k σ H5 hk ⟨D, y4, y5, y6, eσ, s5, nD, hD5⟩ => ?_) (fun σ H5 ⟨D, y4, y5, y6, eσ, s5, nD, hD5⟩ => ?_)
    · subst eσ
      have hN5 := (Tk.of s5).sqT hN4
      rw [Int.zero_add]
      refine ⟨_, rfl, _, rfl, _, rfl, _, _, rfl, rfl, ((k + 1 : Nat) : Int), rfl, ?_⟩
      refine noPart ?_
      refine sl_suf hN5 fun H7 u s7 hU => ⟨u, rfl, ⟨_, hU⟩, fun E hE => ?_⟩
      rw [← List.map_drop] at hU
      have hlu : (((ML.take n).drop (k + 1)).map V.str).length = n - (k + 1) := by rw [List.length_map, List.length_drop, ml_len n6]
      refine lc_it (walk_tup (xs := ((ML.take n).drop (k + 1)).map V.str)) (fun j H' => ∃ ys, H' E = some (.lst ys) ∧ DpAll K H' ys (((fM n k).take j).map dPair) ∧ Same H7 H') ⟨[], upd_same, .nil, same_upd hE⟩ (fun _ _ _ ⟨_, _, _, s'⟩ => (Tk.of s').sqT hU) (fun j x H8o H8 hj ⟨ys, eE, hY, s8⟩ hy => ?_) (fun H8 ⟨ys, eE, hY, s8⟩ => ?_)
      · obtain ⟨rfl, hx⟩ := hy
        obtain ⟨o, ho, rfl⟩ := str_at hx
        rw [hlu] at hj
        have hly := hY.len
        rw [List.length_map, List.length_take] at hly
        have ex : (fM n k).take (j + 1) = (fM n k).take j ++ [(nmM k, o)] := take_snoc (by unfold fM; rw [List.getElem?_map, ho]; rfl)
        refine ⟨rfl, yes_ ⟨_, rfl, _, rfl, _, _, _, .str (nmM k), rfl, rfl, (Tk.of (s7.trans s8)).sqT hN5, at_of (j := k) rfl (ml_at n6 hk), _, rfl, two_sz, fun b nb => upd_gen nb fun H9 s9 e9 => ⟨_, s9 _ _ eE, small1000 (by omega), _, upd_same, ?_, same_put (s8.trans s9) hE⟩⟩⟩
        rw [ex, List.map_append]
        have tt : Tk H8 (upd H9 E (.lst (ys ++ [.ref b]))) := (Tk.of s9).lst (s9 _ _ eE)
        exact (DpAll.tk tt _ (flat_pairs _) hY).app (.cons (.tup ((Tk.refl.lst (s9 _ _ eE)).sqT (SqT.of e9)) (.cons (.str _) (.cons (.str _) .nil))) .nil)
      · have ek : (fM n k).take (((ML.take n).drop (k + 1)).map V.str).length = fM n k := List.take_of_length_le (by unfold fM; rw [List.length_map, List.length_map]; exact Nat.le_refl _)
        rw [ek] at hY
        have lp : (PM n k).length ≤ 36 := PM_len n6 (by omega)
        refine rowCatP (hD5.same (s7.trans s8)) ⟨ys, eE, hY⟩ (by have := fM_len (n := n) (k := k); omega) fun H10 p s10 np h10 => ?_
        refine ⟨p, _, _, _, rfl, ((s5.trans s7).trans s8).trans s10, (R4.same ((s5.trans s7).trans s8)).nm np, ?_⟩
        rw [PM_succ]
        exact h10
    · subst eσ
      obtain ⟨xs, eD5, hX5⟩ := hD5
      have R5 := R4.same s5
      refine ⟨_, rfl, _, rfl, D, rfl, ⟨_, SqL.of eD5⟩, fun E hE => ?_⟩
      have nE := R5.nm hE
      have nDE : D ≠ E := ne_of_none eD5 hE
      refine lc_it (walk_list (xs := xs)) (fun j H' => ∃ ys ps s', H' E = some (.lst ys) ∧ DpAll K H' ys (ps.map dPair) ∧ ps.Sublist ((PM n n).take j) ∧ H' D = some (.lst xs) ∧ Kp m g H5 H' ∧ Dr H' m c g s' ∧ s' ≤ s + 1 + j) ⟨[], [], s + 1, upd_same, .nil, List.nil_sublist _, same_upd hE _ _ eD5, Kp.of (same_upd hE), R5.same (same_upd hE), by omega⟩ (fun _ _ _ ⟨_, _, _, _, _, _, e, _⟩ => SqL.of e) (fun j x H6o H6 hj ⟨ys, ps, s2, eE, hY, sub, eD6, k6, R6, hs2⟩ hy => ?_) (fun H6 ⟨ys, ps, s2, eE, hY, sub, eD6, k6, R6, hs2⟩ => ?_)
      · obtain ⟨rfl, hx⟩ := hy
        obtain ⟨dd, g1, p1⟩ := hX5.get hx
        rw [List.getElem?_map] at g1
        obtain ⟨pr, k1, rfl⟩ := Option.map_eq_some_iff.mp g1
        have hpr := Dp.tk (R5.tk k6) _ rfl p1
        have hpt : (PM n n).take (j + 1) = (PM n n).take j ++ [pr] := take_snoc k1
        have lps := sub.length_le
        rw [List.length_take] at lps
        have lpn := PM_len (k := n) n6 (Nat.le_refl _)
        have lxs := hX5.len
        rw [List.length_map] at lxs
        have lys := hY.len
        rw [List.length_map] at lys
        refine ⟨rfl, _, rfl, m, c, g, s2, 2, rfl, R6, by omega, by omega, by omega, fun rr H8 q0 q1 R8 k8 => ⟨rfl, _, rfl, ite2 (fun _ => ?_) (fun _ => ?_)⟩⟩
        · have eE8 := k8 _ _ nE.1 nE.2.2 eE
          have t8 := R6.tk k8
          refine ⟨_, rfl, ys, eE8, small1000 (by omega), ?_⟩
          refine ⟨_, ps ++ [pr], s2 + 1, upd_same, ?_, ?_, ?_, ((k6.trans k8).put hE), R8.put nE, by omega⟩
          · rw [List.map_append]
            exact (DpAll.tk (t8.lst eE8) _ (flat_pairs ps) hY).app (.cons (Dp.tk (t8.lst eE8) _ rfl hpr) .nil)
          · rw [hpt]
            exact sub.append (List.Sublist.refl _)
          · rw [upd_ne nDE]
            exact k8 _ _ nD.1 nD.2.2 eD6
        · refine ⟨ys, ps, s2 + 1, k8 _ _ nE.1 nE.2.2 eE, DpAll.tk (R6.tk k8) _ (flat_pairs ps) hY, ?_, k8 _ _ nD.1 nD.2.2 eD6, k6.trans k8, R8, by omega⟩
          rw [hpt]
          exact sub.trans (List.sublist_append_left _ _)
      · have lps := sub.length_le
        rw [List.length_take] at lps
        have lpn := PM_len (k := n) n6 (Nat.le_refl _)
        have lxs := hX5.len
        rw [List.length_map] at lxs
        refine .inl ⟨E, ys, rfl, SqL.of eE, fun pt npt => upd_gen npt fun H7 s7 e7 => ⟨two_sz, fun pf npf => upd_gen npf fun H8 s8 e8 => ?_⟩⟩
        have s78 := s7.trans s8
        refine q H8 pf ⟨ML.take n, ps⟩ s2 (R6.same s78) (by omega) ((k4.trans (Kp.of s5)).trans (k6.trans (Kp.of s78))) ?_ (fld_okM n1 n6 (sub.trans (List.take_sublist _ _))) (fun x hx => List.mem_of_mem_take hx) (by rw [ml_len n6]; omega) (by show ps.length ≤ 36; omega)
        exact .tup (SqT.of e8) (.cons (.tup ((((Tk.of s5).trans (R5.tk k6)).trans (Tk.of s78)).sqT hN4) (DpAll.strs _)) (.cons (.tup ((Tk.of s8).sqT (SqT.of e7)) (DpAll.tk (Tk.of s78) _ (flat_pairs ps) hY)) .nil))
end
end XB
set_option Elab.async false
set_option linter.all false
set_option maxRecDepth 100000
set_option maxHeartbeats 4000000
namespace XB
open PySem PySem.Spec PyProof.Rows L2
section
variable {P : Program} {w : World} {K : PySem.W.Frag} {mg : Str → Option Value} {base : Heap}
def TL : List Int := [1, -1, 1, -1, 2, -2, 3, -1]
def GL : List Int := [7, -12, 10 ^ 29, -10 ^ 29, 1 - 10 ^ 30, 10 ^ 30]
theorem tl_good : ∀ z ∈ TL, z ≠ 0 ∧ -(10 ^ 30) ≤ z ∧ z ≤ 10 ^ 30 := by decide +kernel
theorem gl_good : ∀ z ∈ GL, z ≠ 0 ∧ -(10 ^ 30) ≤ z ∧ z ≤ 10 ^ 30 := by decide +kernel
def Row2 (K : PySem.W.Frag) (H : Hp) (D : Addr) (l : List (Str × Int)) : Prop := ∃ xs, H D = some (.lst xs) ∧ DpAll K H xs (l.map dStep)
def spSteps (K : PySem.W.Frag) : Sp := fun vs H Q _ => ∃ (m c g f : Addr) (s most : Int) (b : Bool) (F : Fld), vs = [.ref m, .ref f, .int most, .bl b] ∧ Dr H m c g s ∧ Dp K H (.ref f) (dField F) ∧ F.Ok ∧ 0 ≤ most ∧ most ≤ 60 ∧ s < 900000000 ∧
  ∀ H' r l s', Dr H' m c g s' → s' ≤ s + 1 + 4 * most → Kp m g H H' → Dp K H' (.ref r) (dSteps l) → GoodAll F l → (l.length : Int) ≤ most → Q (.ref r) H'
def StepsInv (K : PySem.W.Frag) (F : Fld) (H : Hp) (m c g f D : Addr) (most : Int) (gb : Bool) (s : Int) (b : Nat) : L2.St → Hp → Prop := fun σ H2 => ∃ (y5 y6 : Option V) (s2 : Int) (l : List (Str × Int)), σ = [some (.ref m), some (.ref f), some (.int most), some (.bl gb), some (.ref D), y5, y6] ∧
  Kp m g H H2 ∧ Dr H2 m c g s2 ∧ s2 ≤ s + 1 + 4 * (b : Int) ∧ Row2 K H2 D l ∧ GoodAll F l ∧ l.length = b
theorem c__law_steps (T : Tx K mg) : Cl P w K mg base CX0 3 "_law_steps" (spSteps K) := by
  refine cl0 T.d__law_steps (ps := ["m", "field", "most", "great"]) (fun _ _ _ _ _ _ us hl => match us, hl with | [_, _, _, _], _ => rfl) sc__law_steps (fun vs H Q E h => ?_) (fun fa cdv A outer st H vs Q E hr h => ?_)
  · obtain ⟨m, c, g, f, s, most, b, F, rfl, _⟩ := h
    rfl
  · obtain ⟨m, c, g, f, s, most, gb, F, rfl, R, hF, ok, m0, m60, hs, q⟩ := h
    have nd := sc__law_steps.nd
    have hu := hu_of hr
    refine ⟨_, (pss_cons (ps_set (i := 4) nd rfl (.inl rfl) (pe_lst pa_nil))
    (pss_cons (ps_for PassesOwn.never rfl (pi_range1 (by rfl) T.b_range (pa_cons (pe_k (c_draw T) hr (by decide) (by rfl) (pa_cons (pv 0) (pa_cons (pe_op op_add (pv 2) pe_int) pa_nil))) pa_nil)) (pg_name (i := 5) nd rfl (.inl rfl))
    (pss_cons (ps_set (i := 6) nd rfl (.inl rfl) (pe_ix (ixk_list (K := K) rfl) (pe_lst (pa_cons pe_int (pa_cons (pe_un un_neg pe_int) (pa_cons pe_int (pa_cons (pe_un un_neg pe_int) (pa_cons pe_int (pa_cons (pe_un un_neg pe_int) (pa_cons pe_int (pa_cons (pe_un un_neg pe_int) pa_nil))))))))) (pe_k (c_draw T) hr (by decide) (by rfl) (pa_cons (pv 0) (pa_cons pe_int pa_nil))) (fun _ _ => rfl)))
    (C8.pss_cut (ps_if (PW.pt (pw_and (pt_val (pv 3)) (pw_and1 (pt_cmpR op_eq (pe_k (c_draw T) hr (by decide) (by rfl) (pa_cons (pv 0) (pa_cons pe_int pa_nil))) pe_int (nomark _))))) (pss_one (ps_set (i := 6) nd rfl (.inl rfl) (pe_ix (ixk_list (K := K) rfl) (pe_lst (pa_cons pe_int (pa_cons (pe_un un_neg pe_int) (pa_cons (pe_op op_pow pe_int pe_int) (pa_cons (pe_un un_neg (pe_op op_pow pe_int pe_int)) (pa_cons (pe_op op_sub pe_int (pe_op op_pow pe_int pe_int)) (pa_cons (pe_op op_pow pe_int pe_int) pa_nil))))))) (pe_k (c_draw T) hr (by decide) (by rfl) (pa_cons (pv 0) (pa_cons pe_int pa_nil))) (fun _ _ => rfl)))) pss_nil)
    (pss_one (ps_expr (pe_bm PySem.F.plainAttrs_list PySem.F.slot_list_append PySem.F.type_list_append mt_append (pv 4) (pa_cons (pe_tup (pa_cons (pe_ix (ixk_tup (K := K) rfl) (pe_ix (ixk_tup (K := K) rfl) (pv 1) pe_int (fun _ _ => rfl)) (pe_k (c_draw T) hr (by decide) (by rfl) (pa_cons (pv 0) (pa_cons (pe_lenS (by rfl) T.b_len (pe_ix (ixk_tup (K := K) rfl) (pv 1) pe_int (fun _ _ => rfl))) pa_nil))) (fun _ _ => rfl)) (pa_cons (pv 6) pa_nil))) pa_nil)))))))
    (pss_one (ps_ret (pe_tupleOf (by rfl) T.b_tuple (pv 4)))))), ?_⟩
    have C30 : CPow 10 30 := ⟨by decide, by decide, by decide⟩
    have C29 : CPow 10 29 := ⟨by decide, by decide, by decide⟩
    refine ⟨Nat.zero_le _, fun D hD => upd_gen hD fun H1 s1 e1 => ?_⟩
    have nD := R.nm hD
    have R1 := R.same s1
    refine ⟨_, rfl, _, rfl, _, _, rfl, rfl, m, c, g, s, most + 1, rfl, R1, by omega, by omega, by omega, fun cnt H5 c0 c1 R5 k5 => ?_⟩
    obtain ⟨nc, hnc⟩ : ∃ n : Nat, cnt = (n : Int) := ⟨cnt.toNat, by omega⟩
    subst hnc
    have t5 := (Tk.of s1).trans (R1.tk k5)
    have eD5 := k5 _ _ nD.1 nD.2.2 e1
    have k5 : Kp m g H H5 := (Kp.of s1).trans k5
    obtain ⟨_, n', p', ps, e, hA, hN, hP, hDp⟩ := (Dp.tk t5 _ (flat_field F) hF).field
    cases e
    have hlN : (F.names.map V.str).length = F.names.length := List.length_map ..
    have f0 := ok.n0
    have f6 := ok.n6
    refine ⟨_, rfl, by omega, by omega, ?_⟩
    refine for_range (lo := 0) (n := nc) (fun i σ H2 => StepsInv K F H m c g f D most gb s i σ H2 ∧ Tk H5 H2)
      ⟨⟨none, none, s + 1, [], rfl, k5, R5, by omega, ⟨[], eD5, .nil⟩, (fun _ h => nomatch h), rfl⟩, Tk.refl⟩ (fun i σ H6 hi ⟨⟨y5, y6, s2, l, eσ, k6, R6, hs6, ⟨ys, eD6, hY⟩, hg, hlen⟩, t6⟩ => ?_) (fun σ H6 ⟨⟨y5, y6, s2, l, eσ, k6, R6, hs6, ⟨ys, eD6, hY⟩, hg, hlen⟩, t6⟩ => ?_)
    · subst eσ
      have hly := hY.len
      rw [List.length_map] at hly
      refine ⟨_, rfl, _, rfl, _, rfl, _, rfl, (show 8 ≤ sizeLine by decide), fun S hS => upd_gen hS fun H7 s7 e7 => ?_⟩
      have e7 : H7 S = some (.lst (TL.map V.int)) := e7
      have nS := R6.nm hS
      refine ⟨_, rfl, m, c, g, s2, 8, rfl, R6.same s7, by omega, by omega, by omega, fun r H8 r0 r1 R8 k8 => ?_⟩
      obtain ⟨a, rfl⟩ : ∃ i : Nat, r = (i : Int) := ⟨r.toNat, by omega⟩
      have ha : a < TL.length := by show a < 8; omega
      have hz : TL[a]? = some TL[a] := List.getElem?_eq_getElem ha
      have gz := tl_good _ (List.getElem_mem ha)
      generalize TL[a] = z at hz gz
      refine ⟨S, _, a, .int z, rfl, rfl, SqL.of (k8 _ _ nS.1 nS.2.2 e7), at_of (j := a) rfl (by rw [List.getElem?_map, hz]; rfl), ?_⟩
      have k68 : Kp m g H6 H8 := (Kp.of s7).trans k8
      refine ⟨fun σ H' => ∃ (z : Int) (s3 : Int), σ = [some (.ref m), some (.ref f), some (.int most), some (.bl gb), some (.ref D), some (.int (0 + (i : Int))), some (.int z)] ∧ GoodTimes z ∧ Kp m g H6 H' ∧ Dr H' m c g s3 ∧ s3 ≤ s2 + 3, ?_, ?_⟩
      · refine ⟨_, rfl, gb, rfl, ?_⟩
        cases gb
        · exact iteF (iteF ⟨z, s2 + 1, rfl, gz, k68, R8, by omega⟩)
        · refine iteT ⟨_, rfl, m, c, g, s2 + 1, 4, rfl, R8, by omega, by omega, by omega, fun r H9 r0 r1 R9 k9 => ⟨rfl, _, rfl, ?_⟩⟩
          have k69 := k68.trans k9
          refine ite2 (fun _ => ?_) (fun _ => ⟨z, s2 + 1 + 1, rfl, gz, k69, R9, by omega⟩)
          refine ⟨_, rfl, _, _, rfl, rfl, C29, _, _, rfl, rfl, C29, _, rfl, _, _, rfl, rfl, C30, _, _, rfl, rfl, _, _, rfl, rfl, C30, (show 6 ≤ sizeLine by decide), fun S2 hS2 => upd_gen hS2 fun H10 s10 e10 => ?_⟩
          have e10 : H10 S2 = some (.lst (GL.map V.int)) := e10
          have nS2 := R9.nm hS2
          refine ⟨_, rfl, m, c, g, s2 + 1 + 1, 6, rfl, R9.same s10, by omega, by omega, by omega, fun r H11 r0 r1 R11 k11 => ?_⟩
          obtain ⟨b, rfl⟩ : ∃ i : Nat, r = (i : Int) := ⟨r.toNat, by omega⟩
          have hb : b < GL.length := by show b < 6; omega
          have hz : GL[b]? = some GL[b] := List.getElem?_eq_getElem hb
          have gz := gl_good _ (List.getElem_mem hb)
          exact ⟨S2, _, b, .int GL[b], rfl, rfl, SqL.of (k11 _ _ nS2.1 nS2.2.2 e10), at_of (j := b) rfl (by rw [List.getElem?_map, hz]; rfl), ⟨GL[b], s2 + 1 + 1 + 1, rfl, gz, (k69.trans (Kp.of s10)).trans k11, R11, by omega⟩⟩
      · rintro σ' H12 ⟨z, s3, rfl, gz, k12, R12, hs3⟩
        have t12 := R6.tk k12
        have t512 := t6.trans t12
        have eD12 := k12 _ _ nD.1 nD.2.2 eD6
        refine ⟨_, rfl, Or.inl ⟨rfl, _, SqL.of eD12⟩, ?_⟩
        refine ⟨_, rfl, ix0 (t512.sqT hA) ⟨_, rfl, _, rfl, ix0 (t512.sqT hA) ⟨n', _, rfl, .inr (t512.sqT hN), m, c, g, s3, _, rfl, R12, by rw [hlN]; omega, by rw [hlN]; omega, by omega, fun r13 H13 r0 r1 R13 k13 => ?_⟩⟩⟩
        rw [hlN] at r1
        obtain ⟨ja, hja⟩ : ∃ a : Nat, r13 = (a : Int) := ⟨r13.toNat, by omega⟩
        have hx : F.names[ja]? = some F.names[ja] := List.getElem?_eq_getElem (by omega)
        have hxm := List.mem_of_getElem? hx
        generalize F.names[ja] = x at hx hxm
        have t13 := t12.trans (R12.tk k13)
        have eD13 := k13 _ _ nD.1 nD.2.2 eD12
        refine ⟨_, _, _, .str x, rfl, rfl, (t6.trans t13).sqT hN, at_of hja (by rw [List.getElem?_map, hx]; rfl), _, rfl, ⟨two_sz, fun p nb => upd_gen nb fun H14 s14 e14 => ?_⟩⟩
        have eD14 := s14 _ _ eD13
        have tT : Tk H13 (upd H14 D (.lst (ys ++ [.ref p]))) := (Tk.of s14).lst eD14
        refine ⟨D, ys, .ref p, rfl, rfl, eD14, small1000 (by omega), ?_⟩
        refine ⟨⟨_, _, s3 + 1, l ++ [(x, z)], rfl, (((k6.trans k12).trans k13).trans (Kp.of s14)).put hD, (R13.same s14).put nD, by omega, ⟨ys ++ [.ref p], upd_same, ?_⟩, fun y hy => ?_, by rw [List.length_append, hlen]; rfl⟩, (t6.trans t13).trans tT⟩
        · rw [List.map_append]
          exact (DpAll.tk (t13.trans tT) _ (flat_all_steps l) hY).app (.cons (Dp.of_step (s := (x, z)) ((Tk.refl.lst eD14).sqT (SqT.of e14))) .nil)
        · rcases List.mem_append.mp hy with h | h
          · exact hg y h
          · rw [List.mem_singleton.mp h]
            exact ⟨hxm, gz⟩
    · subst eσ
      have hly := hY.len
      rw [List.length_map] at hly
      refine ⟨_, rfl, .inl ⟨D, ys, rfl, SqL.of eD6, fun r hr' => upd_gen hr' fun H7 s7 e7 => ?_⟩⟩
      exact q _ r l s2 (R6.same s7) (by omega) (k6.trans (Kp.of s7)) (.tup (SqT.of e7) (DpAll.tk (Tk.of s7) _ (flat_all_steps l) hY)) hg (by omega)
end
end XB
set_option Elab.async false
set_option linter.all false
set_option maxRecDepth 100000
set_option maxHeartbeats 4000000
namespace XB
open PySem PySem.Spec PyProof.Rows L2
section
variable {P : Program} {w : World} {K : PySem.W.Frag} {mg : Str → Option Value} {base : Heap}
def spApart2 (K : PySem.W.Frag) (F : Fld) : Sp := fun vs H Q _ => ∃ (a : Addr) (x y : Str), vs = [.ref a, .str x, .str y] ∧ Dp K H (.ref a) (dField F) ∧ F.Ok ∧ x ∈ F.names ∧ y ∈ F.names ∧ ∀ H', Same H H' → Q (.bl (apart F x y)) H'
theorem c__law_apart2 (T : Tx K mg) (F : Fld) : Cl P w K mg base CX0 1 "_law_apart" (spApart2 K F) := by
  refine cl0 T.d__law_apart (ps := ["field", "one", "other"]) (fun _ _ _ _ _ _ us hl => match us, hl with | [_, _, _], _ => rfl) sc__law_apart (fun vs H Q E h => ?_) (fun f cdv A outer st H vs Q E hr h => ?_)
  · obtain ⟨a, x, y, rfl, _⟩ := h
    rfl
  · obtain ⟨a, x, y, rfl, hF, ok, ma, mb, q⟩ := h
    have nd := sc__law_apart.nd
    have hu := u65 hr
    obtain ⟨_, n, p, ps, e, hA, hN, hP, hD⟩ := hF.field
    cases e
    refine ⟨_, (pss_one (ps_ret (pe_cmpR (op_inDTk (K := K) rfl hu) (pe_tup (pa_cons (pe_callB (call_min2S rfl) (by rfl) T.b_min (by decide +kernel) (pa_cons (pv 1) (pa_cons (pv 2) pa_nil))) (pa_cons (pe_callB (call_max2S rfl) (by rfl) T.b_max (by decide +kernel) (pa_cons (pv 1) (pa_cons (pv 2) pa_nil))) pa_nil))) (pe_ix (ixk_tup (K := K) rfl) (pv 0) pe_int (fun _ _ => rfl)) (by rfl)))), ?_⟩
    refine ⟨_, rfl, _, rfl, _, _, rfl, _, rfl, _, rfl, _, _, rfl, (show 2 ≤ sizeLine by decide), fun t ht => ?_⟩
    have s1 := same_upd (o := .tup [.str (if sLt y x then y else x), .str (if sLt x y then y else x)]) ht
    refine ⟨_, rfl, _, _, _, _, rfl, rfl, (Tk.of s1).sqT hA, rfl, ?_⟩
    refine ⟨dPair ((if sLt y x then y else x), (if sLt x y then y else x)), F.pairs.map dPair, .tup (SqT.of upd_same) (.cons (.str _) (.cons (.str _) .nil)), .tup ((Tk.of s1).sqT hP) (DpAll.tk (Tk.of s1) _ (flat_pairs _) hD), sh_pair ?_ ?_, sh_pairs ok.good, ?_⟩
    · show GoodName (if sLt y x then y else x)
      split <;> first | exact ok.sgn _ ma | exact ok.sgn _ mb
    · show GoodName (if sLt x y then y else x)
      split <;> first | exact ok.sgn _ ma | exact ok.sgn _ mb
    · rw [any_pairs, apart_min ok]
      exact q _ s1
def spMeet (K : PySem.W.Frag) (F : Fld) : Sp := fun vs H Q _ => ∃ (a p : Addr) (xs : List V) (l : List (Str × Int)), vs = [.ref a, .ref p] ∧ Dp K H (.ref a) (dField F) ∧ F.Ok ∧ SqX K H p xs ∧ DpAll K H xs (l.map dStep) ∧ Names F l ∧ l.length ≤ 200 ∧
  metV K H Q (XM.met (OF F) l)
theorem c__law_meet (T : Tx K mg) (F : Fld) : Cl P w K mg base CX0 2 "_law_meet" (spMeet K F) := by
  refine cl0 T.d__law_meet (ps := ["field", "steps"]) (fun _ _ _ _ _ _ us hl => match us, hl with | [_, _], _ => rfl) sc__law_meet (fun vs H Q E h => ?_) (fun f cdv A outer st H vs Q E hr h => ?_)
  · obtain ⟨a, p, xs, l, rfl, _⟩ := h
    rfl
  · obtain ⟨a, p, xs, l, rfl, hF, ok, hS, hD, hN, hl60, q⟩ := h
    have nd := sc__law_meet.nd
    have hlx := hD.len
    rw [List.length_map] at hlx
    refine ⟨_, (pss_cons (ps_for PassesOwn.never rfl (pi_range1 (by rfl) T.b_range (pa_cons (pe_lenS (by rfl) T.b_len (pv 1)) pa_nil)) (pg_name (i := 2) nd rfl (.inl rfl))
    (pss_one (ps_for PassesOwn.never rfl (pi_range2 (by rfl) T.b_range (pa_cons (pe_op op_add (pv 2) pe_int) (pa_cons (pe_lenS (by rfl) T.b_len (pv 1)) pa_nil))) (pg_name (i := 3) nd rfl (.inl rfl))
    (pss_cons (ps_if (pt_cmpR op_eq (pe_ix (ixk_tup (K := K) rfl) (pe_ix (ixk_row (K := K) rfl) (pv 1) (pv 3) (fun _ _ => rfl)) pe_int (fun _ _ => rfl)) (pe_ix (ixk_tup (K := K) rfl) (pe_ix (ixk_row (K := K) rfl) (pv 1) (pv 2) (fun _ _ => rfl)) pe_int (fun _ _ => rfl)) (nomark _)) (pss_one (ps_ret (pe_tup (pa_cons (pv 2) (pa_cons (pv 3) pa_nil))))) pss_nil)
    (pss_one (ps_if (pt_not (pt_val (pe_k (c__law_apart2 T F) hr (by decide) (by rfl) (pa_cons (pv 0) (pa_cons (pe_ix (ixk_tup (K := K) rfl) (pe_ix (ixk_row (K := K) rfl) (pv 1) (pv 2) (fun _ _ => rfl)) pe_int (fun _ _ => rfl)) (pa_cons (pe_ix (ixk_tup (K := K) rfl) (pe_ix (ixk_row (K := K) rfl) (pv 1) (pv 3) (fun _ _ => rfl)) pe_int (fun _ _ => rfl)) pa_nil)))))) (pss_one ps_break) pss_nil))))))
    (pss_one (ps_ret pe_non))), ?_⟩
    refine ⟨_, rfl, p, xs, rfl, hS, xs.length, rfl, by omega, by omega, ?_⟩
    refine for_range (lo := 0) (n := xs.length) (fun k σ H2 => ∃ (y2 y3 : Option V), σ = [some (.ref a), some (.ref p), y2, y3] ∧ Same H H2 ∧ XM.met (OF F) l = up k (XM.met (OF F) (l.drop k)))
      ⟨none, none, rfl, Same.refl _, by rw [List.drop_zero]; unfold up; simp⟩ (fun k σ H2 hk ⟨y2, y3, eσ, s2, em⟩ => ?_) (fun σ H2 ⟨y2, y3, eσ, s2, em⟩ => ?_)
    · subst eσ
      have hs : l[k]? = some l[k] := List.getElem?_eq_getElem (by omega)
      have ms := hN _ (List.mem_of_getElem? hs)
      generalize l[k] = s at hs ms
      rw [Int.zero_add]
      refine ⟨_, rfl, (k : Int), 1, rfl, rfl, _, rfl, p, xs, rfl, hS.same s2, _, _, rfl, by omega, ?_⟩
      have hn : ((xs.length : Int) - ((k : Int) + 1)).toNat = l.length - (k + 1) := by omega
      refine for_range (lo := (k : Int) + 1) (n := ((xs.length : Int) - ((k : Int) + 1)).toNat) (fun j σ H3 => ∃ (y3 : Option V), σ = [some (.ref a), some (.ref p), some (.int (k : Int)), y3] ∧ Same H H3 ∧ XM.near (OF F) s.1 (l.drop (k + 1)) = (XM.near (OF F) s.1 (l.drop (k + 1 + j))).map (· + j))
        ⟨y3, rfl, s2, by simp⟩ (fun j σ H3 hj ⟨y3, eσ, s3, en⟩ => ?_) (fun σ H3 ⟨y3, eσ, s3, en⟩ => ?_)
      · subst eσ
        have hy : l[k + 1 + j]? = some l[k + 1 + j] := List.getElem?_eq_getElem (by omega)
        have my := hN _ (List.mem_of_getElem? hy)
        generalize l[k + 1 + j] = y at hy my
        obtain ⟨c, hc, cc⟩ := (DpAll.tk (Tk.of s3) _ (flat_all_steps l) hD).step hy
        obtain ⟨b, hb, cb⟩ := (DpAll.tk (Tk.of s3) _ (flat_all_steps l) hD).step hs
        have ej : (k : Int) + 1 + (j : Int) = ((k + 1 + j : Nat) : Int) := by omega
        rw [ej]
        refine ⟨_, rfl, _, rfl, _, _, _, _, rfl, rfl, hS.same s3, at_of (j := k + 1 + j) rfl hc, _, _, _, _, rfl, rfl, cc, rfl, _, rfl, _, rfl, _, _, _, _, rfl, rfl, hS.same s3, at_of (j := k) rfl hb, _, _, _, _, rfl, rfl, cb, rfl, rfl, _, rfl, ?_⟩
        rw [drop_at hy] at en
        have en : _ = ((if y.1 = s.1 then some 0 else if (OF F).tc y.1 s.1 then none else (XM.near (OF F) s.1 (l.drop (k + 1 + j + 1))).map (· + 1)) : Option Nat).map (· + j) := en
        rw [show decide (V.str y.1 = V.str s.1) = decide (y.1 = s.1) from decide_eq_decide.mpr ⟨fun h => V.str.inj h, fun h => congrArg _ h⟩]
        by_cases e : y.1 = s.1
        · rw [decide_eq_true e]
          rw [if_pos e] at en
          have en : XM.near (OF F) s.1 (l.drop (k + 1)) = some (0 + j) := en
          rw [Nat.zero_add] at en
          rw [met_here hs en] at em
          rw [em] at q
          refine iteT ⟨_, rfl, _, rfl, (show 2 ≤ sizeLine by decide), fun T hT => q _ T (same_new s3 hT) (SqT.of upd_same)⟩
        · rw [decide_eq_false e]
          rw [if_neg e] at en
          refine iteF ?_
          refine ⟨_, rfl, _, rfl, _, rfl, _, _, _, _, rfl, rfl, hS.same s3, at_of (j := k) rfl hb, _, _, _, _, rfl, rfl, cb, rfl, _, rfl, _, rfl, _, _, _, _, rfl, rfl, hS.same s3, at_of (j := k + 1 + j) rfl hc, _, _, _, _, rfl, rfl, cc, rfl, ?_⟩
          refine ⟨a, s.1, y.1, rfl, Dp.tk (Tk.of s3) _ (flat_field F) hF, ok, ms, my, fun H4 s4 => ⟨_, rfl, ?_⟩⟩
          rw [(OF F).symm, tc_eq ok] at en
          cases ha : apart F s.1 y.1
          · rw [ha] at en
            have en : XM.near (OF F) s.1 (l.drop (k + 1)) = none := en
            rw [met_none hs en] at em
            exact iteT ⟨_, _, rfl, s3.trans s4, em⟩
          · rw [ha] at en
            refine iteF ⟨_, rfl, s3.trans s4, ?_⟩
            rw [en]
            show ((XM.near (OF F) s.1 (l.drop (k + 1 + j + 1))).map (· + 1)).map (· + j) = _
            rw [Option.map_map, ← Nat.add_assoc]
            congr 1
            funext n
            show n + 1 + j = n + (j + 1)
            omega
      · subst eσ
        rw [hn, show l.drop (k + 1 + (l.length - (k + 1))) = [] from List.drop_eq_nil_iff.mpr (by omega)] at en
        rw [met_none hs en] at em
        exact ⟨_, _, rfl, s3, em⟩
    · subst eσ
      rw [hlx, List.drop_length] at em
      rw [em] at q
      exact q _ s2
theorem c__law_back3 (T : Tx K mg) : Cl P w K mg base CX0 1 "_law_back" (spBack K) := by
  refine cl0 T.d__law_back (ps := ["steps"]) (fun _ _ _ _ _ _ us hl => match us, hl with | [_], _ => rfl) sc__law_back (fun vs H Q E h => ?_) (fun f cdv A outer st H vs Q E hr h => ?_)
  · obtain ⟨a, l, rfl, _⟩ := h
    rfl
  · obtain ⟨a, l, rfl, hL, hl, q⟩ := h
    have nd := sc__law_back.nd
    obtain ⟨_, xs, e, hS, hD⟩ := hL.steps
    cases e
    have hlx := hD.len
    rw [List.length_map] at hlx
    refine ⟨_, pss_one (ps_ret (pe_tupleOf (by rfl) T.b_tuple (pe_lc (own := [("name", 1), ("times", 2)]) (g := gTup K 2 (gCons (gName 1) (gCons (gName 2) gNil))) (tt := tYes) (by rfl) nd (pi_tup (pe_revT (pv 0)))
      (blkOk_by (own := [("name", 1), ("times", 2)]) (N := ["steps", "name", "times"]) (sc := defScope s__law_back) (by decide +kernel))
      (fun _ _ _ _ _ => pg_tup rfl (pgs_cons (pg_name (i := 1) nd rfl (Or.inl rfl)) (pgs_cons (pg_name (i := 2) nd rfl (Or.inl rfl)) pgs_nil))) (fun _ _ _ _ _ => pts_nil)
      (fun _ _ _ _ _ => pe_tup (pa_cons (pv 1) (pa_cons (pe_un un_neg (pv 2)) pa_nil)))))), ?_⟩
    refine ⟨_, rfl, a, xs, rfl, hS, fun p hp => ⟨p, rfl, ⟨_, SqT.of upd_same⟩, fun D hD' => ?_⟩⟩
    have s0 : Same H (upd H p (.tup xs.reverse)) := same_upd hp
    have hB : SqT K (upd H p (.tup xs.reverse)) p xs.reverse := SqT.of upd_same
    have hR : DpAll K (upd H p (.tup xs.reverse)) xs.reverse (l.reverse.map dStep) := by
      rw [List.map_reverse]
      exact (DpAll.tk (Tk.of s0) _ (flat_all_steps l) hD).rev
    generalize upd H p (.tup xs.reverse) = H1 at s0 hB hR hD' ⊢
    refine lc_it (walk_tup (xs := xs.reverse)) (fun i H' => Row1 K H' D ((l.reverse.take i).map fun x => (x.1, -x.2)) ∧ Same H1 H') ⟨⟨[], upd_same, .nil⟩, same_upd hD'⟩ (fun _ _ _ ⟨_, s'⟩ => (Tk.of s').sqT hB) (fun i x H2 H3 hi ⟨⟨ys, eD, hY⟩, s'⟩ hy => ?_) (fun H2 ⟨⟨ys, eD, hY⟩, s'⟩ => ?_)
    · obtain ⟨rfl, hx⟩ := hy
      obtain ⟨dd, g1, p1⟩ := hR.get hx
      rw [List.getElem?_map] at g1
      obtain ⟨s, k1, rfl⟩ := Option.map_eq_some_iff.mp g1
      obtain ⟨b, rfl, cb⟩ := p1.step
      have hly := hY.len
      rw [List.length_map, List.length_map, List.length_take, List.length_reverse] at hly
      refine ⟨b, _, rfl, (Tk.of s').sqT cb, rfl, _, _, rfl, _, _, rfl, rfl, rfl, yes_ ?_⟩
      refine ⟨_, rfl, _, rfl, s.2, rfl, (show 2 ≤ sizeLine by decide), fun T hT => ⟨ys, ?_, small1000 (by omega), ?_, same_put (same_new s' hT) hD'⟩⟩
      · rw [upd_ne (ne_of_none eD hT)]
        exact eD
      · refine Row1.put (xs := ys) (by rw [upd_ne (ne_of_none eD hT)]; exact eD) ?_
        rw [take_snoc k1, List.map_append, List.map_append]
        exact (DpAll.tk (Tk.of (same_upd hT)) _ (flat_all_steps _) hY).app (.cons (Dp.of_step (s := (s.1, -s.2)) (SqT.of upd_same)) .nil)
    · rw [List.length_reverse, hlx, show l.length = l.reverse.length from (List.length_reverse).symm, List.take_length] at hY
      refine .inl ⟨D, ys, rfl, SqL.of eD, fun r hr' => q _ r (same_new (s0.trans s') hr') ?_⟩
      unfold XM.back
      rw [← List.map_reverse]
      exact .tup (SqT.of upd_same) (DpAll.tk (Tk.of (same_upd hr')) _ (flat_all_steps _) hY)
end
end XB
set_option Elab.async false
set_option linter.all false
set_option maxRecDepth 100000
set_option maxHeartbeats 4000000
namespace XB
open PySem PySem.Spec PyProof.Rows L2
theorem Row2.same {K : PySem.W.Frag} {H H' : Hp} {D : Addr} {l : List (Str × Int)} (h : Row2 K H D l) (s : Same H H') : Row2 K H' D l := by
  obtain ⟨xs, e, v⟩ := h
  exact ⟨xs, s _ _ e, DpAll.tk (Tk.of s) _ (flat_all_steps l) v⟩
theorem Row2.get {K : PySem.W.Frag} {H : Hp} {D : Addr} {l : List (Str × Int)} {k : Nat} {s : Str × Int} (h : Row2 K H D l) (e : l[k]? = some s) : ∃ xs b, SqL K H D xs ∧ atI xs (k : Int) = some (.ref b) ∧ SqT K H b [.str s.1, .int s.2] := by
  obtain ⟨xs, e1, v⟩ := h
  obtain ⟨b, hb, cb⟩ := v.step e
  exact ⟨xs, b, SqL.of e1, at_of (j := k) rfl hb, cb⟩
/-- two that come together, by two cuts -/
theorem melt_eq {α : Type} {l x : List α} {i j : Nat} (h1 : i < j) (h2 : j < l.length) : ((l.take j ++ l.drop (j + 1)).take i ++ x) ++ (l.take j ++ l.drop (j + 1)).drop (i + 1) = melt l x i j := by
  have l1 : (l.take j).length = j := by rw [List.length_take]; omega
  unfold melt
  rw [List.take_append_of_le_length (by omega), List.take_take, Nat.min_eq_left (by omega), List.drop_append_of_le_length (by omega), List.drop_take]
theorem dp_rep {K : PySem.W.Frag} {H : Hp} {xs : List V} {ds : List PyData} (h : DpAll K H xs ds) : ∀ n : Nat, DpAll K H (List.replicate n xs).flatten (List.replicate n ds).flatten
  | 0 => .nil
  | n + 1 => by
    rw [List.replicate_succ, List.replicate_succ, List.flatten_cons, List.flatten_cons]
    exact h.app (dp_rep h n)
def PileInv3 (K : PySem.W.Frag) (F : Fld) (H : Hp) (a p : Addr) (l : List (Str × Int)) : Nat → L2.St → Hp → Prop := fun m σ H2 => ∃ (D : Addr) (l' : List (Str × Int)) (z : V) (y4 y5 : Option V), m = l'.length ∧ σ = [some (.ref a), some (.ref p), some (.ref D), some z, y4, y5] ∧ Same H H2 ∧ Row2 K H2 D l' ∧ H D = none ∧
        Names F l' ∧ XM.NZ l' ∧ XM.act (OF F) l' [] = XM.act (OF F) l [] ∧ l'.length ≤ l.length ∧ SpotV K H2 z (XM.met (OF F) l')
section
variable {P : Program} {w : World} {K : PySem.W.Frag} {mg : Str → Option Value} {base : Heap}
theorem rowCat {H : Hp} {a b : Addr} {l m : List (Str × Int)} {Q : VK} (h1 : Row2 K H a l) (h2 : Row2 K H b m) (hl : l.length + m.length ≤ 900) (q : ∀ H' p, Same H H' → H p = none → Row2 K H' p (l ++ m) → Q (.ref p) H') : rCat (.ref a) (.ref b) H Q := by
  obtain ⟨xs, e1, v1⟩ := h1
  obtain ⟨ys, e2, v2⟩ := h2
  have l1 := v1.len
  have l2 := v2.len
  rw [List.length_map] at l1 l2
  refine catL e1 e2 (Nat.le_of_lt (small1000 (by omega))) fun H' p s hp e => q H' p s hp ⟨_, e, ?_⟩
  rw [List.map_append]
  exact (DpAll.tk (Tk.of s) _ (flat_all_steps l) v1).app (DpAll.tk (Tk.of s) _ (flat_all_steps m) v2)
theorem rowTake {H : Hp} {a : Addr} {l : List (Str × Int)} {k : Nat} {Q : VK} (h : Row2 K H a l) (q : ∀ H' p, Same H H' → H p = none → Row2 K H' p (l.take k) → Q (.ref p) H') : rSlL K (.ref a) none (some (k : Int)) H Q := by
  obtain ⟨xs, e, v⟩ := h
  refine slL e fun H' p s hp e' => q H' p s hp ⟨xs.take k, ?_, ?_⟩
  · rw [cut_init] at e'
    exact e'
  · rw [List.map_take]
    exact (DpAll.tk (Tk.of s) _ (flat_all_steps l) v).take k
theorem rowDrop {H : Hp} {a : Addr} {l : List (Str × Int)} {k : Nat} {Q : VK} (h : Row2 K H a l) (q : ∀ H' p, Same H H' → H p = none → Row2 K H' p (l.drop k) → Q (.ref p) H') : rSlL K (.ref a) (some (k : Int)) none H Q := by
  obtain ⟨xs, e, v⟩ := h
  refine slL e fun H' p s hp e' => q H' p s hp ⟨xs.drop k, ?_, ?_⟩
  · rw [cut_from] at e'
    exact e'
  · rw [List.map_drop]
    exact (DpAll.tk (Tk.of s) _ (flat_all_steps l) v).drop k
def spPile3 (K : PySem.W.Frag) (F : Fld) : Sp := fun vs H Q _ => ∃ (a p : Addr) (xs : List V) (l : List (Str × Int)), vs = [.ref a, .ref p] ∧ Dp K H (.ref a) (dField F) ∧ F.Ok ∧ SqX K H p xs ∧ DpAll K H xs (l.map dStep) ∧ Names F l ∧ XM.NZ l ∧ l.length ≤ 200 ∧
  ∀ H' r l', Same H H' → Row2 K H' r l' → H r = none → Names F l' → XM.NZ l' → XM.pl (OF F) l' = true → XM.act (OF F) l' [] = XM.act (OF F) l [] → l'.length ≤ l.length → Q (.ref r) H'
theorem c__law_pile3 (T : Tx K mg) (F : Fld) : Cl P w K mg base CX0 3 "_law_pile" (spPile3 K F) := by
  refine cl0 T.d__law_pile (ps := ["field", "steps"]) (fun _ _ _ _ _ _ us hl => match us, hl with | [_, _], _ => rfl) sc__law_pile (fun vs H Q E h => ?_) (fun f cdv A outer st H vs Q E hr h => ?_)
  · obtain ⟨a, p, xs, l, rfl, _⟩ := h
    rfl
  · obtain ⟨a, p, xs, l, rfl, hF, ok, hS, hV, hN, hZ, hl, q⟩ := h
    have nd := sc__law_pile.nd
    refine ⟨_, (pss_cons (ps_set (i := 2) nd rfl (.inl rfl) (pe_callTy call_list_of (by rfl) T.b_list (by decide +kernel) (pa_cons (pv 1) pa_nil)))
    (pss_cons (ps_set (i := 3) nd rfl (.inl rfl) (pe_k (c__law_meet T F) hr (by decide) (by rfl) (pa_cons (pv 0) (pa_cons (pv 2) pa_nil))))
    (pss_cons (ps_while PassesOwn.never (pt_cmpR op_notN (pv 3) pe_non (nomark _))
    (pss_cons (ps_par (i := 4) (j := 5) rfl nd rfl rfl (by decide) rfl rfl (pa_cons (pe_ix (ixk_tup (K := K) rfl) (pe_ix (ixk_list (K := K) rfl) (pv 2) (pe_ix (ixk_tup (K := K) rfl) (pv 3) pe_int (fun _ _ => rfl)) (fun _ _ => rfl)) pe_int (fun _ _ => rfl)) (pa_cons (pe_op op_add (pe_ix (ixk_tup (K := K) rfl) (pe_ix (ixk_list (K := K) rfl) (pv 2) (pe_ix (ixk_tup (K := K) rfl) (pv 3) pe_int (fun _ _ => rfl)) (fun _ _ => rfl)) pe_int (fun _ _ => rfl)) (pe_ix (ixk_tup (K := K) rfl) (pe_ix (ixk_list (K := K) rfl) (pv 2) (pe_ix (ixk_tup (K := K) rfl) (pv 3) pe_int (fun _ _ => rfl)) (fun _ _ => rfl)) pe_int (fun _ _ => rfl))) pa_nil)) rfl)
    (pss_cons (ps_set (i := 2) nd rfl (.inl rfl) (pe_op op_cat (pe_slice sl_list (pv 2) po_none (po_some (pe_ix (ixk_tup (K := K) rfl) (pv 3) pe_int (fun _ _ => rfl)))) (pe_slice sl_list (pv 2) (po_some (pe_op op_add (pe_ix (ixk_tup (K := K) rfl) (pv 3) pe_int (fun _ _ => rfl)) pe_int)) po_none)))
    (pss_cons (ps_set (i := 2) nd rfl (.inl rfl) (pe_op op_cat (pe_op op_cat (pe_slice sl_list (pv 2) po_none (po_some (pe_ix (ixk_tup (K := K) rfl) (pv 3) pe_int (fun _ _ => rfl)))) (pe_op op_rep (pe_lst (pa_cons (pe_tup (pa_cons (pv 4) (pa_cons (pv 5) pa_nil))) pa_nil)) (pe_callTy call_int1 (by rfl) T.b_int (by decide +kernel) (pa_cons (pe_cmpR op_ne (pv 5) pe_int (nomark _)) pa_nil)))) (pe_slice sl_list (pv 2) (po_some (pe_op op_add (pe_ix (ixk_tup (K := K) rfl) (pv 3) pe_int (fun _ _ => rfl)) pe_int)) po_none)))
    (pss_one (ps_set (i := 3) nd rfl (.inl rfl) (pe_k (c__law_meet T F) hr (by decide) (by rfl) (pa_cons (pv 0) (pa_cons (pv 2) pa_nil)))))))))
    (pss_one (ps_ret (pv 2)))))), ?_⟩
    have K1 : ∀ {H2 : Hp}, Same H H2 → Dp K H2 (.ref a) (dField F) := fun s => Dp.tk (Tk.of s) _ (flat_field F) hF
    refine ⟨_, rfl, p, xs, rfl, hS, fun D hD0 => upd_gen hD0 fun H1 s1 e1 => ?_⟩
    have hD1 : Row2 K H1 D l := ⟨xs, e1, DpAll.tk (Tk.of s1) _ (flat_all_steps l) hV⟩
    obtain ⟨xs1, eD1, hV1⟩ := id hD1
    refine ⟨_, rfl, _, rfl, a, D, xs1, l, rfl, K1 s1, ok, .inl (SqL.of eD1), hV1, hN, hl, metV_of fun H2 z s2 hz => ?_⟩
    refine ⟨PileInv3 K F H a p l, ⟨_, D, l, z, none, none, rfl, rfl, s1.trans s2, hD1.same s2, hD0, hN, hZ, rfl, Nat.le_refl _, hz⟩, ?_⟩
    rintro m σ H3 ⟨D, l', z, y4, y5, rfl, rfl, s3, hD, hD0, hN', hZ', ea, hle, hz⟩
    refine ⟨_, rfl, rfl, _, rfl, ?_⟩
    cases hm : XM.met (OF F) l' with
    | none =>
      rw [hm] at hz
      have hz : z = .non := hz
      subst hz
      refine iteF ⟨_, rfl, q _ D l' s3 hD hD0 hN' hZ' (XM.met_pl.mp hm) ea hle⟩
    | some ij =>
      obtain ⟨i, j⟩ := ij
      rw [hm] at hz
      obtain ⟨t, rfl, ht⟩ := hz
      obtain ⟨nm, s, u, hi, hj, hij, hjl, hx⟩ := melt_step hm hZ' hN'
      obtain ⟨xs3, b1, q1, q2, q3⟩ := hD.get hi
      obtain ⟨xs4, b2, q4, q5, q6⟩ := hD.get hj
      refine iteT ⟨fun σ' H' => ∃ m', m' < l'.length ∧ PileInv3 K F H a p l m' σ' H', fun _ _ h => h, ?_⟩
      refine ⟨_, rfl, _, rfl, _, _, _, _, rfl, rfl, ht, rfl, _, _, _, _, rfl, rfl, q1, q2, _, _, _, _, rfl, rfl, q3, rfl, ?_⟩
      refine ⟨_, rfl, _, rfl, _, _, _, _, rfl, rfl, ht, rfl, _, _, _, _, rfl, rfl, q1, q2, _, _, _, _, rfl, rfl, q3, rfl, ?_⟩
      refine ⟨_, rfl, _, rfl, _, _, _, _, rfl, rfl, ht, rfl, _, _, _, _, rfl, rfl, q4, q5, _, _, _, _, rfl, rfl, q6, rfl, s, u, rfl, rfl, _, _, rfl, ?_⟩
      refine ⟨_, rfl, ?_⟩
      refine noPart ⟨_, rfl, _, _, _, _, rfl, rfl, ht, rfl, (j : Int), rfl, rowTake hD fun H4 p4 s4 n4 r4 => ?_⟩
      refine ⟨_, rfl, _, rfl, _, _, _, _, rfl, rfl, (Tk.of s4).sqT ht, rfl, _, _, rfl, rfl, ((j + 1 : Nat) : Int), rfl, ?_⟩
      refine noPart (rowDrop (hD.same s4) fun H5 p5 s5 n5 r5 => ?_)
      refine rowCat (r4.same s5) r5 (by rw [List.length_take, List.length_drop]; omega) fun H6 p6 s6 n6 r6 => ?_
      have s36 := (s4.trans s5).trans s6
      refine ⟨_, rfl, ?_⟩
      refine noPart ⟨_, rfl, _, _, _, _, rfl, rfl, (Tk.of s36).sqT ht, rfl, (i : Int), rfl, rowTake r6 fun H7 p7 s7 n7 r7 => ?_⟩
      refine ⟨_, rfl, _, rfl, two_sz, fun T hT => upd_gen hT fun H8 s8 e8 => ⟨one_sz, fun L hL => upd_gen hL fun H9 s9 e9 => ?_⟩⟩
      have rL : Row2 K H9 L [(nm, s + u)] := ⟨_, e9, .cons (Dp.of_step (s := (nm, s + u)) ((Tk.of s9).sqT (SqT.of e8))) .nil⟩
      have s79 := s8.trans s9
      refine ⟨_, rfl, rfl, .inr ⟨_, rfl, ?_⟩⟩
      obtain ⟨xsL, eL, vL⟩ := id rL
      obtain ⟨k, hk, k1, hkX⟩ : ∃ k : Nat, (if (!decide (V.int (s + u) = V.int 0)) = true then (1 : Int) else 0) = (k : Int) ∧ k ≤ 1 ∧ (if s + u = 0 then [] else [(nm, s + u)]) = (List.replicate k [(nm, s + u)]).flatten := by
        rw [dec_int]
        by_cases h0 : s + u = 0
        · exact ⟨0, by simp [h0], by omega, by rw [if_pos h0]; rfl⟩
        · exact ⟨1, by simp [h0], by omega, by rw [if_neg h0]; rfl⟩
      have lL := vL.len
      rw [List.length_map, List.length_singleton] at lL
      have lX : (if s + u = 0 then [] else [(nm, s + u)]).length ≤ 1 := by split <;> simp
      obtain ⟨f1, f2, f3, f4⟩ := hx _ rfl
      generalize (if s + u = 0 then [] else [(nm, s + u)]) = X at hkX lX f1 f2 f3 f4
      refine ⟨L, (k : Int), xsL, rfl, congrArg V.int hk, eL, by omega, by omega, Nat.le_trans (show xsL.length * (k : Int).toNat ≤ 1 * 1 from Nat.mul_le_mul (by omega) (by omega)) (by decide), fun p10 n10 => upd_gen n10 fun H10 s10 e10 => ?_⟩
      have rX : Row2 K H10 p10 X := ⟨_, e10, by
        rw [hkX, List.map_flatten, List.map_replicate]
        exact dp_rep (DpAll.tk (Tk.of s10) _ (flat_all_steps _) vL) _⟩
      have s710 := s79.trans s10
      refine rowCat (r7.same s710) rX (by rw [List.length_take, List.length_append, List.length_take, List.length_drop]; omega) fun H11 p11 s11 n11 r11 => ?_
      have s711 := s710.trans s11
      have s611 := s7.trans s711
      have s311 := s36.trans s611
      refine ⟨_, rfl, _, rfl, _, _, _, _, rfl, rfl, (Tk.of s311).sqT ht, rfl, _, _, rfl, rfl, ((i + 1 : Nat) : Int), rfl, ?_⟩
      refine noPart (rowDrop (r6.same s611) fun H12 p12 s12 n12 r12 => ?_)
      have s312 := s311.trans s12
      refine rowCat (r11.same s12) r12 (by simp only [List.length_take, List.length_append, List.length_drop]; omega) fun H13 p13 s13 n13 r13 => ?_
      have s313 := s312.trans s13
      rw [melt_eq hij hjl] at r13
      obtain ⟨xs13, e13, v13⟩ := id r13
      have n13 : H p13 = none := by
        cases e : H p13 with
        | none => rfl
        | some o =>
          rw [s312 _ _ (s3 _ _ e)] at n13
          cases n13
      refine ⟨_, rfl, _, rfl, a, p13, xs13, _, rfl, K1 (s3.trans s313), ok, .inl (SqL.of e13), v13, f2, by omega, metV_of fun H14 z s14 hz => ?_⟩
      exact ⟨_, f4, p13, _, z, _, _, rfl, rfl, (s3.trans s313).trans s14, r13.same s14, n13, f2, f1, f3.trans ea, by omega, hz⟩
end
end XB
set_option Elab.async false
set_option linter.all false
set_option maxRecDepth 100000
set_option maxHeartbeats 4000000
namespace XB
open PySem PySem.Spec PyProof.Rows L2
section
variable {P : Program} {w : World} {K : PySem.W.Frag} {mg : Str → Option Value} {base : Heap}
def spFirsts3 (K : PySem.W.Frag) (F : Fld) : Sp := fun vs H Q _ => ∃ (a p : Addr) (xs : List V) (l : List (Str × Int)), vs = [.ref a, .ref p] ∧ Dp K H (.ref a) (dField F) ∧ F.Ok ∧ SqX K H p xs ∧ DpAll K H xs (l.map dStep) ∧ Names F l ∧ l.length ≤ 200 ∧
  ∀ H' r, Same H H' → H' r = some (.lst ((firstsL F l l.length).map fun k => V.int (k : Nat))) → H r = none → Q (.ref r) H'
theorem c__law_firsts3 (T : Tx K mg) (F : Fld) : Cl P w K mg base CX0 2 "_law_firsts" (spFirsts3 K F) := by
  refine cl0 T.d__law_firsts (ps := ["field", "steps"]) (fun _ _ _ _ _ _ us hl => match us, hl with | [_, _], _ => rfl) sc__law_firsts (fun vs H Q E h => ?_) (fun f cdv A outer st H vs Q E hr h => ?_)
  · obtain ⟨a, p, xs, l, rfl, _⟩ := h
    rfl
  · obtain ⟨a, p, xs, l, rfl, hF, ok, hS, hD, hN, hl60, q⟩ := h
    have nd := sc__law_firsts.nd
    have hlx := hD.len
    rw [List.length_map] at hlx
    refine ⟨_, (pss_cons (ps_set (i := 2) nd rfl (.inl rfl) (pe_lst pa_nil))
    (pss_cons (ps_for PassesOwn.never rfl (pi_range1 (by rfl) T.b_range (pa_cons (pe_lenS (by rfl) T.b_len (pv 1)) pa_nil)) (pg_name (i := 3) nd rfl (.inr rfl))
    (pss_one (ps_if (pt_cmpR (op_eqD hr.units) (pe_lc (own := [("step", 4)]) (g := (gName 4)) (tt := _) (by rfl) nd (pi_row (pe_slice (slk_row (K := K) rfl) (pv 1) po_none (po_some (pv 3)))) (blkOk_by (own := [("step", 4)]) (N := ["field", "steps", "found", "k", "step"]) (sc := defScope s__law_firsts) (by decide +kernel)) (fun _ _ _ _ _ => (pg_name (i := 4) nd rfl (by first | exact Or.inl rfl | exact Or.inr rfl))) (fun _ _ _ _ _ => pts_one (pt_not (pt_val (pe_k (c__law_apart2 T F) hr (by decide) (by rfl) (pa_cons (pv 0) (pa_cons (pe_ix (ixk_tup (K := K) rfl) (pv 4) pe_int (fun _ _ => rfl)) (pa_cons (pe_ix (ixk_tup (K := K) rfl) (pe_ix (ixk_row (K := K) rfl) (pv 1) (pv 3) (fun _ _ => rfl)) pe_int (fun _ _ => rfl)) pa_nil))))))) (fun _ _ _ _ _ => (pv 4))) (pe_lst pa_nil) (nomark _)) (pss_one (ps_expr (pe_bm PySem.F.plainAttrs_list PySem.F.slot_list_append PySem.F.type_list_append mt_append (pv 2) (pa_cons (pv 3) pa_nil)))) pss_nil)))
    (pss_one (ps_ret (pv 2))))), ?_⟩
    refine ⟨by decide, fun D hD0 => upd_gen hD0 fun H1 s1 e1 => ?_⟩
    refine ⟨_, rfl, p, xs, rfl, hS.same s1, xs.length, rfl, by omega, by omega, ?_⟩
    refine for_range (lo := 0) (n := xs.length) (fun k σ H2 => ∃ (y3 y4 : Option V), σ = [some (.ref a), some (.ref p), some (.ref D), y3, y4] ∧ Same H H2 ∧ H2 D = some (.lst ((firstsL F l k).map fun k => V.int (k : Nat))))
      ⟨none, none, rfl, s1, e1⟩ (fun k σ H2 hk ⟨y3, y4, eσ, s2, eD⟩ => ?_) (fun σ H2 ⟨y3, y4, eσ, s2, eD⟩ => ?_)
    · subst eσ
      have hs : l[k]? = some l[k] := List.getElem?_eq_getElem (by omega)
      have ms := hN _ (List.mem_of_getElem? hs)
      generalize l[k] = s at hs ms
      obtain ⟨b, hb, cb⟩ := (DpAll.tk (Tk.of s2) _ (flat_all_steps l) hD).step hs
      rw [Int.zero_add]
      refine ⟨_, rfl, ?_⟩
      refine noPart ?_
      refine ⟨_, rfl, (k : Int), rfl, p, xs, rfl, hS.same s2, fun H3 r s3 hr3 => ?_⟩
      rw [cut_init] at hr3
      have hlk : (xs.take k).length = k := by
        rw [List.length_take]
        omega
      have hDk : DpAll K H (xs.take k) ((l.take k).map dStep) := by
        rw [List.map_take]
        exact hD.take k
      refine ⟨r, _, rfl, hr3, fun J G hG W => fun D2 hD2 => ?_⟩
      refine lc_it W (fun i H' => Row2 K H' D2 (((l.take k).take i).filter fun y => (OF F).tc y.1 s.1) ∧ Same H3 H') ⟨⟨[], upd_same, .nil⟩, same_upd hD2⟩ (fun _ _ _ ⟨_, s'⟩ => hG _ s') (fun i x H4 H5 hi ⟨⟨ys, eD2, hY⟩, s'⟩ hy => ?_) (fun H4 ⟨⟨ys, eD2, hY⟩, s'⟩ => ?_)
      · obtain ⟨rfl, hx⟩ := hy
        obtain ⟨dd, g1, p1⟩ := hDk.get hx
        rw [List.getElem?_map] at g1
        obtain ⟨y, k1, rfl⟩ := Option.map_eq_some_iff.mp g1
        obtain ⟨c, rfl, cc⟩ := p1.step
        have my : y.1 ∈ F.names := hN _ (List.mem_of_mem_take (List.mem_of_getElem? k1))
        have s5 := (s2.trans s3).trans s'
        have hly := hY.len
        rw [List.length_map] at hly
        have hlf := List.length_filter_le (fun y => (OF F).tc y.1 s.1) ((l.take k).take i)
        rw [List.length_take, List.length_take] at hlf
        refine ⟨rfl, _, rfl, _, rfl, _, _, _, _, rfl, rfl, (Tk.of s5).sqT cc, rfl, _, rfl, _, rfl, _, _, _, _, rfl, rfl, hS.same s5, at_of (j := k) rfl hb, _, _, _, _, rfl, rfl, (Tk.of (s3.trans s')).sqT cb, rfl, ?_⟩
        refine ⟨a, y.1, s.1, rfl, Dp.tk (Tk.of s5) _ (flat_field F) hF, ok, my, ms, fun H6 s6 => ⟨_, rfl, ?_⟩⟩
        rw [take_snoc k1, List.filter_append]
        have et := tc_eq ok y.1 s.1
        cases ha : apart F y.1 s.1
        · rw [ha] at et
          have et : (OF F).tc y.1 s.1 = true := et
          have eD6 := s6 _ _ eD2
          refine iteT ⟨_, rfl, ys, eD6, small1000 (by omega), ?_, same_put (s'.trans s6) hD2⟩
          refine ⟨_, upd_same, ?_⟩
          rw [show List.filter (fun y => (OF F).tc y.1 s.1) [y] = [y] by simp [et], List.map_append]
          have t6 : Tk H5 (upd H6 D2 (.lst (ys ++ [.ref c]))) := (Tk.of s6).lst eD6
          exact (DpAll.tk t6 _ (flat_all_steps _) hY).app (.cons (Dp.of_step (s := y) (t6.sqT ((Tk.of s5).sqT cc))) .nil)
        · rw [ha] at et
          have et : (OF F).tc y.1 s.1 = false := et
          refine iteF ⟨?_, s'.trans s6⟩
          refine ⟨ys, s6 _ _ eD2, ?_⟩
          rw [show List.filter (fun y => (OF F).tc y.1 s.1) [y] = [] by simp [et], List.append_nil]
          exact DpAll.tk (Tk.of s6) _ (flat_all_steps _) hY
      · rw [hlk, List.take_of_length_le (by rw [List.length_take]; omega)] at hY
        refine ⟨by decide, fun E hE => upd_gen hE fun H5 s6 eE => ?_⟩
        have s26 := (s2.trans s3).trans (s'.trans s6)
        have eDD := (s3.trans (s'.trans s6)) _ _ eD
        have hYE := DpAll.tk (Tk.of s6) _ (flat_all_steps _) hY
        refine ⟨.list (((l.take k).filter fun y : Str × Int => (OF F).tc y.1 s.1).map dStep), .list [], .lst (SqL.of (s6 _ _ eD2)) hYE, .lst (SqL.of eE) .nil, sh_steps (fun y hy => ok.sgn _ (hN y (List.mem_of_mem_take (List.mem_filter.mp hy).1))), rfl, _, rfl, ?_⟩
        rw [ne_steps, firsts_snoc]
        have ef : free1 F l k = ((l.take k).filter fun y => (OF F).tc y.1 s.1).isEmpty := by
          unfold free1
          rw [hs]
          show (l.take k).all _ = _
          rw [Bool.eq_iff_iff, List.all_eq_true, List.isEmpty_iff, List.filter_eq_nil_iff]
          simp
        rw [← ef]
        cases hfr : free1 F l k
        · refine iteF ⟨_, _, rfl, s26, ?_⟩
          rw [eDD, if_neg Bool.false_ne_true, List.append_nil]
        · refine iteT ⟨_, rfl, Or.inl ⟨rfl, _, SqL.of eDD⟩, _, rfl, D, _, _, rfl, rfl, eDD, ?_, ?_⟩
          · rw [List.length_map]
            have := firsts_len (F := F) (l := l) (n := k)
            exact small1000 (by omega)
          · refine ⟨_, _, rfl, same_put s26 hD0, ?_⟩
            rw [upd_same, if_pos rfl, List.map_append]
            rfl
    · subst eσ
      rw [hlx] at eD
      exact ⟨_, rfl, q _ D s2 eD hD0⟩
end
end XB
set_option Elab.async false
set_option linter.all false
set_option maxRecDepth 100000
set_option maxHeartbeats 4000000
/-! min of a list of alike data -/
namespace XB
open PySem PySem.Spec PyProof.Rows L2
theorem cr_minD {X : Cx} {K : PySem.W.Frag} (hk : X.K = K) (hc : X.calm = true) (hu : X.A.units + 65 < cLine) : CallR X (.builtin "min") (fun vs H Q => ∃ (a : Addr) (ys : List V) (x : PyData) (xs : List PyData), vs = [.ref a] ∧ SqL K H a ys ∧ DpAll K H ys (x :: xs) ∧ PySem.W.AlikeAll (x :: xs) ∧ PyData.depthAll (x :: xs) < 64 ∧
    ∀ (i : Nat) v, ys[i]? = some v → (x :: xs)[i]? = some (PySem.W.minD x xs) → Q v H) := by
  subst hk
  intro pins s σ H vs us Q I r h
  obtain ⟨a, ys, x, xs, rfl, hs, hD, ha, hdp, q⟩ := h
  obtain ⟨its, rv, hl, _⟩ := I.list hs
  rw [Vals.ref1 r]
  obtain ⟨as, rs⟩ := Dp.readsAll I (x :: xs) ys its hD rv
  refine PySem.W.min_list_data (I.ok.hd hc) hl.isList rs ha (by omega) fun i v h' tk bs hi r hk => ?_
  have hi' : its[i]? = some v := by simpa using hi
  obtain ⟨cs, r2, hlt, _, _⟩ := PySem.W.readsAll_at rs i v hi'
  have e := (PyProof.Rows.reads_det (fun b o e _ => hk b o e) r2 r).1
  have hyl : i < ys.length := by
    rw [rv.length]
    exact (List.getElem?_eq_some_iff.mp hi').1
  obtain ⟨u, h1, h2⟩ := Vals.get rv (List.getElem?_eq_getElem hyl)
  rw [hi'] at h1
  cases h1
  refine ⟨_, H, I.kept hk, h2, q i _ (List.getElem?_eq_getElem hyl) ?_⟩
  rw [e, List.getElem?_eq_getElem hlt, List.getD_eq_getElem?_getD, List.getElem?_eq_getElem hlt]
  rfl
theorem lt_step (a b : Str) (i j : Int) : PySem.W.dataLt (.tuple [.str a, .int i]) (.tuple [.str b, .int j]) = if a = b then decide (i < j) else sLt a b := by
  unfold PySem.W.dataLt
  have e : ∀ (a : Str) (i : Int), PySem.W.keyToks (.tuple [.str a, .int i]) = [.inl 1, .inr a.cps.toList, .inl 1, .inl i, .inl 0] := fun a i => by
    simp [PySem.W.keyToks, PySem.W.keyToksAll]
  rw [e, e, lex_self]
  by_cases h : a = b
  · rw [if_pos h, h, lex_self, lex_self]
    by_cases h2 : i = j
    · rw [h2, lex_self, lex_self]
      simp
      rfl
    · rw [lex_diff (O := itemOrd) (fun q => h2 (Sum.inl.inj q))]
      rfl
  · rw [if_neg h, lex_diff (O := itemOrd) (fun q => h (PySem.W.str_of_cps (Sum.inr.inj q)))]
    rfl
end XB
set_option Elab.async false
set_option linter.all false
set_option maxRecDepth 100000
set_option maxHeartbeats 4000000
namespace XB
open PySem PySem.Spec PyProof.Rows L2
/-- the least pile of steps -/
def lpile (F : Fld) (l : List (Str × Int)) : List (Str × Int) := (XM.act (OF F) l []).reverse
/-- what stands fast while the least pile is drawn from a pile -/
structure LJ (F : Fld) (l fl ll : List (Str × Int)) : Prop where
  srt : XM.Srt (OF F) fl ll
  pl : XM.pl (OF F) (fl ++ ll) = true
  nf : XM.NZ fl
  nl : XM.NZ ll
  act : XM.act (OF F) (fl ++ ll) [] = XM.act (OF F) l []
  nm : Names F ll
  len : fl.length + ll.length ≤ 200
theorem LJ.step {F : Fld} {l fl p q : List (Str × Int)} {s : Str × Int} (I : LJ F l fl (p ++ s :: q)) (L : XM.LeastFirst (OF F) p s q) : LJ F l (fl ++ [s]) (p ++ q) := by
  have zs : s.2 ≠ 0 := I.nl s (by simp)
  have zp : XM.NZ p := fun y hy => I.nl y (by simp [hy])
  have zq : XM.NZ q := fun y hy => I.nl y (by simp [hy])
  refine ⟨I.srt.step L, ?_, I.nf.app fun y hy => by rw [List.mem_singleton.mp hy]; exact zs, zp.app zq, ?_, fun y hy => I.nm y ?_, ?_⟩
  · rw [List.append_assoc, List.singleton_append, ← XM.pl_move L.free]
    exact I.pl
  · rw [List.append_assoc, List.singleton_append, ← XM.act_move L.free I.nf zp (show XM.NF (OF F) [] from trivial)]
    exact I.act
  · rw [List.mem_append] at hy
    rcases hy with h | h <;> simp [h]
  · have := I.len
    simp at this ⊢
    omega
theorem LJ.done {F : Fld} {l fl : List (Str × Int)} (I : LJ F l fl []) : lpile F l = fl := by
  have h := I.pl
  have nf : XM.NF (OF F) fl.reverse := XM.nf_of (left := []) _ fl rfl I.srt h I.nf
  have a := XM.act_fix nf
  rw [List.reverse_reverse] at a
  have := I.act
  rw [List.append_nil, a] at this
  unfold lpile
  rw [← this, List.reverse_reverse]
/-- the pair of a first piece -/
def pr (l : List (Str × Int)) (k : Nat) : Str × Int := (nm1 l k, (k : Int))
theorem min_mem {x : PyData} : ∀ {xs : List PyData}, PySem.W.minD x xs ∈ x :: xs
  | [] => List.mem_cons_self
  | y :: xs => by
    show PySem.W.minD (if PySem.W.dataLt y x then y else x) xs ∈ _
    have := min_mem (x := if PySem.W.dataLt y x then y else x) (xs := xs)
    rcases List.mem_cons.mp this with h | h
    · rw [h]
      split <;> simp
    · exact List.mem_cons_of_mem _ (List.mem_cons_of_mem _ h)
theorem min_steps {x : Str × Int} : ∀ {xs : List (Str × Int)}, ∃ m ∈ x :: xs, PySem.W.minD (dStep x) (xs.map dStep) = dStep m ∧ ∀ y ∈ x :: xs, y.1 = m.1 ∨ sLt m.1 y.1 = true
  | [] => ⟨x, List.mem_cons_self, rfl, fun y hy => .inl (by rw [List.mem_singleton.mp hy])⟩
  | y :: xs => by
    have hd : PySem.W.dataLt (dStep y) (dStep x) = if y.1 = x.1 then decide (y.2 < x.2) else sLt y.1 x.1 := lt_step y.1 x.1 y.2 x.2
    show ∃ m ∈ x :: y :: xs, PySem.W.minD (if PySem.W.dataLt (dStep y) (dStep x) then dStep y else dStep x) (xs.map dStep) = dStep m ∧ _
    by_cases h : PySem.W.dataLt (dStep y) (dStep x) = true
    · rw [if_pos h]
      obtain ⟨m, h1, h2, h3⟩ := min_steps (x := y) (xs := xs)
      refine ⟨m, List.mem_cons_of_mem _ h1, h2, fun z hz => ?_⟩
      rcases List.mem_cons.mp hz with e | hz
      · rw [e]
        rw [hd] at h
        have hy := h3 y List.mem_cons_self
        by_cases e2 : y.1 = x.1
        · rw [← e2]
          exact hy
        · rw [if_neg e2] at h
          rcases hy with q | q
          · right
            rw [← q]
            exact h
          · exact .inr (sLt_trans _ _ _ q h)
      · exact h3 z hz
    · rw [if_neg h]
      obtain ⟨m, h1, h2, h3⟩ := min_steps (x := x) (xs := xs)
      refine ⟨m, ?_, h2, fun z hz => ?_⟩
      · rcases List.mem_cons.mp h1 with q | q
        · rw [q]
          exact List.mem_cons_self
        · exact List.mem_cons_of_mem _ (List.mem_cons_of_mem _ q)
      · rcases List.mem_cons.mp hz with e | hz
        · rw [e]
          exact h3 x List.mem_cons_self
        · rcases List.mem_cons.mp hz with e | hz
          · rw [e]
            rw [hd] at h
            have hx := h3 x List.mem_cons_self
            by_cases e2 : y.1 = x.1
            · rw [e2]
              exact hx
            · rw [if_neg e2] at h
              have : sLt x.1 y.1 = true := sLt_tot _ _ (fun q => e2 q) (by simpa using h)
              rcases hx with q | q
              · right
                rw [← q]
                exact this
              · exact .inr (sLt_trans _ _ _ q this)
          · exact h3 z (List.mem_cons_of_mem _ hz)
theorem least_of {F : Fld} {l : List (Str × Int)} {k : Nat} (hk : k ∈ firstsL F l l.length) (hm : ∀ j ∈ firstsL F l l.length, nm1 l j = nm1 l k ∨ sLt (nm1 l k) (nm1 l j) = true) :
    ∃ s, l[k]? = some s ∧ l = l.take k ++ s :: l.drop (k + 1) ∧ XM.LeastFirst (OF F) (l.take k) s (l.drop (k + 1)) := by
  obtain ⟨s, hs, hf⟩ := firsts_at hk
  have e2 : l = l.take k ++ s :: l.drop (k + 1) := by
    rw [← drop_at hs, List.take_append_drop]
  refine ⟨s, hs, e2, hf, fun p' z q' e hp hz => ?_⟩
  rw [← e2] at e
  have hz' : l[p'.length]? = some z := by
    rw [e, List.getElem?_append_right (Nat.le_refl _), Nat.sub_self]
    rfl
  have m : p'.length ∈ firstsL F l l.length := by
    refine mem_firsts.mpr ⟨(List.getElem?_eq_some_iff.mp hz').1, ?_⟩
    unfold free1
    rw [hz']
    show (l.take p'.length).all _ = true
    rw [e, List.take_left' rfl, List.all_eq_true]
    intro w hw
    rw [hp w hw]
    rfl
  have := hm _ m
  rw [nm1_of hz', nm1_of hs] at this
  exact this.resolve_left hz
def LJInv3 (K : PySem.W.Frag) (F : Fld) (H : Hp) (a p : Addr) (l : List (Str × Int)) : Nat → L2.St → Hp → Prop := fun m σ H2 => ∃ (D E : Addr) (ll fl : List (Str × Int)) (y4 y5 : Option V), m = ll.length ∧ σ = [some (.ref a), some (.ref p), some (.ref D), some (.ref E), y4, y5] ∧ Same H H2 ∧
  Row2 K H2 D ll ∧ Dp K H2 (.ref E) (dSteps fl) ∧ LJ F l fl ll
section
variable {P : Program} {w : World} {K : PySem.W.Frag} {mg : Str → Option Value} {base : Heap}
def spLawLeast3 (K : PySem.W.Frag) (F : Fld) : Sp := fun vs H Q _ => ∃ (a p : Addr) (xs : List V) (l : List (Str × Int)), vs = [.ref a, .ref p] ∧ Dp K H (.ref a) (dField F) ∧ F.Ok ∧ SqX K H p xs ∧ DpAll K H xs (l.map dStep) ∧ Names F l ∧ XM.NZ l ∧ l.length ≤ 200 ∧
  ∀ H' r, Same H H' → Dp K H' (.ref r) (dSteps (lpile F l)) → Q (.ref r) H'
theorem c__law_least3 (T : Tx K mg) (F : Fld) : Cl P w K mg base CX0 4 "_law_least" (spLawLeast3 K F) := by
  refine cl0 T.d__law_least (ps := ["field", "steps"]) (fun _ _ _ _ _ _ us hl => match us, hl with | [_, _], _ => rfl) sc__law_least (fun vs H Q E h => ?_) (fun fa cdv A outer st H vs Q E hr h => ?_)
  · obtain ⟨a, p, xs, l, rfl, _⟩ := h
    rfl
  · obtain ⟨a, p, xs, l, rfl, hF, ok, hS, hV, hN, hZ, hl, q⟩ := h
    have nd := sc__law_least.nd
    have hu := u65 hr
    refine ⟨_, (pss_cons (ps_asg (pe_tup (pa_cons (pe_k (c__law_pile3 T F) hr (by decide) (by rfl) (pa_cons (pv 0) (pa_cons (pv 1) pa_nil))) (pa_cons (pe_tup pa_nil) pa_nil))) (pg_tup rfl (pgs_cons (pg_name (i := 2) nd rfl (.inr rfl)) (pgs_cons (pg_name (i := 3) nd rfl (.inl rfl)) pgs_nil))))
    (pss_cons (ps_while PassesOwn.never (pt_cmpR (op_neD hr.units) (pv 2) (pe_lst pa_nil) (nomark _))
    (pss_cons (ps_set (i := 4) nd rfl (.inl rfl) (pe_ix (ixk_tup (K := K) rfl) (pe_callB (cr_minD (K := K) rfl rfl hu) (by rfl) T.b_min (by decide +kernel) (pa_cons (pe_lc (own := [("far", 5)]) (g := (gName 5)) (tt := tYes) (by rfl) nd (pi_list (pe_k (c__law_firsts3 T F) hr (by decide) (by rfl) (pa_cons (pv 0) (pa_cons (pv 2) pa_nil)))) (blkOk_by (own := [("far", 5)]) (N := ["field", "steps", "left", "found", "k", "far"]) (sc := defScope s__law_least) (by decide +kernel)) (fun _ _ _ _ _ => (pg_name (i := 5) nd rfl (by first | exact Or.inl rfl | exact Or.inr rfl))) (fun _ _ _ _ _ => pts_nil) (fun _ _ _ _ _ => (pe_tup (pa_cons (pe_ix (ixk_tup (K := K) rfl) (pe_ix (ixk_list (K := K) rfl) (pv 2) (pv 5) (fun _ _ => rfl)) pe_int (fun _ _ => rfl)) (pa_cons (pv 5) pa_nil))))) pa_nil)) pe_int (fun _ _ => rfl)))
    (pss_one (ps_asg (pe_tup (pa_cons (pe_op (op_catAk (K := K) rfl) (pv 3) (pe_tup (pa_cons (pe_ix (ixk_list (K := K) rfl) (pv 2) (pv 4) (fun _ _ => rfl)) pa_nil))) (pa_cons (pe_op op_cat (pe_slice sl_list (pv 2) po_none (po_some (pv 4))) (pe_slice sl_list (pv 2) (po_some (pe_op op_add (pv 4) pe_int)) po_none)) pa_nil))) (pg_tup rfl (pgs_cons (pg_name (i := 3) nd rfl (.inl rfl)) (pgs_cons (pg_name (i := 2) nd rfl (.inr rfl)) pgs_nil)))))))
    (pss_one (ps_ret (pv 3))))), ?_⟩
    refine ⟨_, rfl, _, rfl, a, p, xs, l, rfl, hF, ok, hS, hV, hN, hZ, hl, fun H1 D f s1 hR hD0 nf zf pf af lf => ⟨Nat.zero_le _, fun E hE => upd_gen hE fun H2 s2 e2 => ⟨two_sz, fun TT hT => upd_gen hT fun H3 s3 e3 => ⟨TT, _, rfl, SqT.of e3, rfl, _, _, rfl, _, _, rfl, rfl, ?_⟩⟩⟩⟩
    have s13 := (s1.trans s2).trans s3
    refine ⟨LJInv3 K F H a p l, ⟨_, D, E, f, [], none, none, rfl, rfl, s13, hR.same (s2.trans s3), .tup ((Tk.of s3).sqT (SqT.of e2)) .nil, XM.Srt.nil _, pf, (fun _ h => nomatch h), zf, af, nf, by simp; omega⟩, ?_⟩
    rintro m σ H4 ⟨D, E, ll, fl, y4, y5, rfl, rfl, s4, hR, hE, I⟩
    refine ⟨_, rfl, Nat.zero_le _, fun p0 h0 => upd_gen h0 fun H5 s5 e5 => ?_⟩
    have s05 := s4.trans s5
    have hR5 := hR.same s5
    have hE5 := tS hE s5
    obtain ⟨xs5, eD5, hX⟩ := id hR5
    have lI := I.len
    refine ⟨.list (ll.map dStep), .list [], .lst (SqL.of eD5) hX, .lst (SqL.of e5) .nil, sh_steps (fun s hs => ok.sgn _ (I.nm s hs)), rfl, _, rfl, ?_⟩
    rw [ne_steps]
    by_cases hne : ll = []
    · subst hne
      refine iteF ⟨_, rfl, q _ E s05 ?_⟩
      rw [I.done]
      exact hE5
    · rw [show (!ll.isEmpty) = true by cases ll with | nil => exact absurd rfl hne | cons _ _ => rfl]
      refine iteT ⟨fun σ' H' => ∃ m', m' < ll.length ∧ LJInv3 K F H a p l m' σ' H', fun _ _ h => h, ?_⟩
      have hlen0 := firsts_len (F := F) (l := ll) (n := ll.length)
      refine ⟨_, rfl, _, rfl, a, D, xs5, ll, rfl, Dp.tk (Tk.of s05) _ (flat_field F) hF, ok, .inl (SqL.of eD5), hX, I.nm, by omega, fun H6 r1 s6 e6 h6 => ⟨r1, rfl, ⟨_, SqL.of e6⟩, fun D2 hD2 => ?_⟩⟩
      refine lc_it (walk_list (xs := (firstsL F ll ll.length).map fun k => V.int (k : Nat))) (fun i H' => Row2 K H' D2 (((firstsL F ll ll.length).take i).map (pr ll)) ∧ Same H6 H') ⟨⟨[], upd_same, .nil⟩, same_upd hD2⟩ (fun _ H' _ ⟨_, s'⟩ => SqL.of (s' _ _ e6)) (fun i x H7o H7 hi ⟨r7, s7⟩ hy => ?_) (fun H7 ⟨r7, s7⟩ => ?_)
      · obtain ⟨rfl, hx⟩ := hy
        rw [List.getElem?_map] at hx
        obtain ⟨k, hk, rfl⟩ := Option.map_eq_some_iff.mp hx
        obtain ⟨s, hs, _⟩ := firsts_at (List.mem_of_getElem? hk)
        obtain ⟨xs7, b, q1, q2, q3⟩ := (hR5.same (s6.trans s7)).get hs
        obtain ⟨ys, e7, hY⟩ := id r7
        have lY := hY.len
        rw [List.length_map, List.length_map, List.length_take] at lY
        refine ⟨rfl, yes_ ⟨_, rfl, _, rfl, _, _, _, _, rfl, rfl, q1, q2, _, _, _, _, rfl, rfl, q3, rfl, _, rfl, two_sz, fun T hT => upd_gen hT fun H8 s8 e8 => ⟨ys, s8 _ _ e7, small1000 (by omega), ⟨_, upd_same, ?_⟩, same_put (s7.trans s8) hD2⟩⟩⟩
        have t8 : Tk H8 (upd H8 D2 (.lst (ys ++ [.ref T]))) := Tk.refl.lst (s8 _ _ e7)
        rw [take_snoc hk, List.map_append, List.map_append]
        refine (DpAll.tk ((Tk.of s8).trans t8) _ (flat_all_steps _) hY).app (.cons (Dp.of_step (s := pr ll k) (t8.sqT ?_)) .nil)
        show SqT K H8 T [.str (nm1 ll k), .int (k : Int)]
        rw [nm1_of hs]
        exact SqT.of e8
      · rw [List.length_map, List.take_length] at r7
        obtain ⟨ys, e7, hY⟩ := id r7
        obtain ⟨k0, kr, ef⟩ : ∃ k0 kr, firstsL F ll ll.length = k0 :: kr := by
          cases e : firstsL F ll ll.length with
          | nil =>
            have := firsts_some (F := F) hne
            rw [e] at this
            cases this
          | cons x r => exact ⟨x, r, rfl⟩
        rw [ef, List.map_cons, List.map_cons] at hY
        obtain ⟨mm, m1, m2, m3⟩ := min_steps (x := pr ll k0) (xs := kr.map (pr ll))
        have mf : mm ∈ (firstsL F ll ll.length).map (pr ll) := by
          rw [ef, List.map_cons]
          exact m1
        obtain ⟨k, mk, rfl⟩ := List.mem_map.mp mf
        obtain ⟨s, hs, esp, hL⟩ := least_of mk fun j hj => by
          have : pr ll j ∈ pr ll k0 :: kr.map (pr ll) := by
            rw [← List.map_cons, ← ef]
            exact List.mem_map_of_mem hj
          exact m3 _ this
        have dep : ∀ {l : List (Str × Int)}, PyData.depthAll (l.map dStep) < 64 := fun {l} => by
          have := deep_steps l
          omega
        refine ⟨D2, ys, dStep (pr ll k0), (kr.map (pr ll)).map dStep, rfl, SqL.of e7, hY, ⟨fun x hx y hy => ?_, fun x hx => ?_⟩, by rw [← List.map_cons (f := dStep)]; exact dep, fun i v hv hm => ?_⟩
        · rw [← List.map_cons (f := dStep)] at hx hy
          obtain ⟨u, _, rfl⟩ := List.mem_map.mp hx
          obtain ⟨w, _, rfl⟩ := List.mem_map.mp hy
          rfl
        · rw [← List.map_cons (f := dStep)] at hx
          obtain ⟨u, _, rfl⟩ := List.mem_map.mp hx
          intro q
          cases q
        · obtain ⟨d, g1, p1⟩ := hY.get hv
          rw [hm, m2] at g1
          cases g1
          obtain ⟨b, rfl, cb⟩ := p1.step
          refine ix1 cb ?_
          have s07 := (s05.trans s6).trans s7
          have hR7 := hR5.same (s6.trans s7)
          have hE7 := tS hE5 (s6.trans s7)
          obtain ⟨xs8, c, q1, q2, q3⟩ := hR7.get hs
          have kl : k < ll.length := (mem_firsts.mp mk).1
          refine ⟨_, rfl, _, rfl, _, rfl, _, _, _, _, rfl, rfl, q1, q2, one_sz, fun T8 n8 => upd_gen n8 fun H8 s8 e8 => ?_⟩
          refine catD (m := [s]) (tS hE7 s8) (.tup (SqT.of e8) (.cons (Dp.of_step (s := s) ((Tk.of s8).sqT q3)) .nil)) (by rw [List.length_singleton]; omega) fun H9 p9 s9 h9 => ?_
          have s79 := s8.trans s9
          refine ⟨_, rfl, ?_⟩
          refine noPart ?_
          refine ⟨_, rfl, (k : Int), rfl, rowTake (hR7.same s79) fun H10 p10 s10 h10 r10 => ?_⟩
          have s710 := s79.trans s10
          refine ⟨_, rfl, _, rfl, _, _, rfl, rfl, ((k + 1 : Nat) : Int), rfl, ?_⟩
          refine noPart ?_
          refine rowDrop (hR7.same s710) fun H11 p11 s11 h11 r11 => ?_
          refine rowCat (r10.same s11) r11 (by rw [List.length_take, List.length_drop]; omega) fun H12 p12 s12 h12 r12 => ?_
          have s912 := (s10.trans s11).trans s12
          refine ⟨two_sz, fun T13 n13 => upd_gen n13 fun H13 s13 e13 => ⟨T13, _, rfl, SqT.of e13, rfl, _, _, rfl, _, _, rfl, rfl, ?_⟩⟩
          have I2 : LJ F l fl (ll.take k ++ s :: ll.drop (k + 1)) := by
            rw [← esp]
            exact I
          exact ⟨_, by rw [List.length_append, List.length_take, List.length_drop]; omega, p12, p9, _, _, _, _, rfl, rfl, (s07.trans s79).trans (s912.trans s13), r12.same s13, tS h9 (s912.trans s13), I2.step hL⟩
end
end XB
set_option Elab.async false
set_option linter.all false
set_option maxRecDepth 100000
set_option maxHeartbeats 4000000
namespace XB
open PySem PySem.Spec PyProof.Rows L2
section
variable {P : Program} {w : World} {K : PySem.W.Frag} {mg : Str → Option Value} {base : Heap}
def spLength3 (K : PySem.W.Frag) (F : Fld) : Sp := fun vs H Q _ => ∃ (a p : Addr) (xs : List V) (l : List (Str × Int)), vs = [.ref a, .ref p] ∧ Dp K H (.ref a) (dField F) ∧ F.Ok ∧ SqX K H p xs ∧ DpAll K H xs (l.map dStep) ∧ Names F l ∧ XM.NZ l ∧ l.length ≤ 200 ∧
  ∀ H', Same H H' → Q (.int (XM.ln (XM.act (OF F) l []) : Nat)) H'
theorem c__law_length3 (T : Tx K mg) (F : Fld) : Cl P w K mg base CX0 4 "_law_length" (spLength3 K F) := by
  refine cl0 T.d__law_length (ps := ["field", "steps"]) (fun _ _ _ _ _ _ us hl => match us, hl with | [_, _], _ => rfl) sc__law_length (fun vs H Q E h => ?_) (fun f cdv A outer st H vs Q E hr h => ?_)
  · obtain ⟨a, p, xs, l, rfl, _⟩ := h
    rfl
  · obtain ⟨a, p, xs, l, rfl, hF, ok, hS, hV, hN, hZ, hl, q⟩ := h
    have nd := sc__law_length.nd
    refine ⟨_, pss_one (ps_ret (pe_callB (cr_sum rfl) (by rfl) T.b_sum (by decide +kernel) (pa_cons (pe_lc (own := [("name", 2), ("times", 3)]) (g := gTup K 2 (gCons (gName 2) (gCons (gName 3) gNil))) (tt := tYes) (by rfl) nd (pi_list (pe_k (c__law_pile3 T F) hr (by decide) (by rfl) (pa_cons (pv 0) (pa_cons (pv 1) pa_nil))))
      (blkOk_by (own := [("name", 2), ("times", 3)]) (N := ["field", "steps", "name", "times"]) (sc := defScope s__law_length) (by decide +kernel))
      (fun _ _ _ _ _ => pg_tup rfl (pgs_cons (pg_name (i := 2) nd rfl (Or.inl rfl)) (pgs_cons (pg_name (i := 3) nd rfl (Or.inl rfl)) pgs_nil))) (fun _ _ _ _ _ => pts_nil)
      (fun _ _ _ _ _ => pe_callB call_abs (by rfl) T.b_abs (by decide +kernel) (pa_cons (pv 3) pa_nil))) pa_nil))), ?_⟩
    refine ⟨_, rfl, _, rfl, a, p, xs, l, rfl, hF, ok, hS, hV, hN, hZ, hl, fun H1 r f s1 hR hD0 nf zf pf af lf => ?_⟩
    obtain ⟨ys, eR, hY⟩ := hR
    have hly := hY.len
    rw [List.length_map] at hly
    refine ⟨r, rfl, ⟨_, SqL.of eR⟩, fun D hD => ?_⟩
    refine lc_it (walk_list (xs := ys)) (fun i H' => H' D = some (.lst ((((f.take i).map fun s => if s.2 < 0 then -s.2 else s.2)).map V.int)) ∧ Same H1 H') ⟨upd_same, same_upd hD⟩ (fun _ _ _ ⟨_, s'⟩ => SqL.of (s' _ _ eR)) (fun i x H2o H2 hi ⟨eD, s'⟩ hy => ?_) (fun H2 ⟨eD, s'⟩ => ?_)
    · obtain ⟨rfl, hx⟩ := hy
      obtain ⟨dd, g1, p1⟩ := hY.get hx
      rw [List.getElem?_map] at g1
      obtain ⟨s, k1, rfl⟩ := Option.map_eq_some_iff.mp g1
      obtain ⟨b, rfl, cb⟩ := p1.step
      refine ⟨b, _, rfl, (Tk.of s').sqT cb, rfl, _, _, rfl, _, _, rfl, rfl, rfl, yes_ ?_⟩
      refine ⟨_, rfl, s.2, rfl, _, eD, ?_, ?_, same_put s' hD⟩
      · rw [List.length_map, List.length_map, List.length_take]
        exact small1000 (by omega)
      · rw [upd_same, take_snoc k1, List.map_append, List.map_append]
        rfl
    · rw [hly, List.take_length] at eD
      refine ⟨D, _, rfl, SqL.of eD, ?_⟩
      have e : lenOf f = (XM.ln (XM.act (OF F) l []) : Nat) := by
        rw [len_ln, ← XM.ln_pile zf pf, af]
      have := q H2 (s1.trans s')
      rw [← e] at this
      exact this
def spFar (K : PySem.W.Frag) (F : Fld) : Sp := fun vs H Q _ => ∃ (a p r : Addr) (l m : List (Str × Int)), vs = [.ref a, .ref p, .ref r] ∧ Dp K H (.ref a) (dField F) ∧ F.Ok ∧ Dp K H (.ref p) (dSteps l) ∧ Dp K H (.ref r) (dSteps m) ∧ Names F l ∧ Names F m ∧ XM.NZ l ∧ XM.NZ m ∧ l.length + m.length ≤ 200 ∧
  ∀ H', Same H H' → Q (.int (XM.far (OF F) l m : Nat)) H'
theorem c__law_far (T : Tx K mg) (F : Fld) : Cl P w K mg base CX0 5 "_law_far" (spFar K F) := by
  refine cl0 T.d__law_far (ps := ["field", "one", "other"]) (fun _ _ _ _ _ _ us hl => match us, hl with | [_, _, _], _ => rfl) sc__law_far (fun vs H Q E h => ?_) (fun f cdv A outer st H vs Q E hr h => ?_)
  · obtain ⟨a, p, r, l, m, rfl, _⟩ := h
    rfl
  · obtain ⟨a, p, r, l, m, rfl, hF, ok, hL, hM, nl, nm, zl, zm, hl, q⟩ := h
    have nd := sc__law_far.nd
    refine ⟨_, (pss_one (ps_ret (pe_k (c__law_length3 T F) hr (by decide) (by rfl) (pa_cons (pv 0) (pa_cons (pe_op (op_catAk (K := K) rfl) (pe_k (c__law_back3 T) hr (by decide) (by rfl) (pa_cons (pv 1) pa_nil)) (pe_tupleOf (by rfl) T.b_tuple (pv 2))) pa_nil))))), ?_⟩
    obtain ⟨_, ys, e, hyS, hyV⟩ := id hM.steps
    cases e
    refine ⟨_, rfl, _, rfl, p, l, rfl, hL, by omega, fun H1 b s1 hb => ⟨_, rfl, ?_⟩⟩
    refine .inr ⟨r, ys, rfl, (Tk.of s1).sqT hyS, catD hb (tS hM s1) (by rw [len_back]; omega) fun H2 p2 s2 h2 => ?_⟩
    have s12 := s1.trans s2
    obtain ⟨_, zs, e, hzS, hzV⟩ := id h2.steps
    cases e
    exact ⟨a, p2, zs, _, rfl, tF hF s12, ok, .inr hzS, hzV, fun z hz => (List.mem_append.mp hz).elim (names_back nl z) (nm z), (XM.back_nz zl).app zm, by rw [List.length_append, len_back]; omega, fun H3 s3 => q H3 (s12.trans s3)⟩
end
end XB
set_option Elab.async false
set_option linter.all false
set_option maxRecDepth 100000
set_option maxHeartbeats 4000000
namespace XB
open PySem PySem.Spec PyProof.Rows L2
/-! what two have in common, by the law's own look -/
def at1 (l : List (Str × Int)) (k : Nat) : Str × Int := (l[k]?).getD ("", 0)
theorem at1_of {l : List (Str × Int)} {k : Nat} {s : Str × Int} (h : l[k]? = some s) : at1 l k = s := by
  unfold at1
  rw [h]
  rfl
/-- the pieces that can stand first -/
def frow (F : Fld) (l : List (Str × Int)) : List (Str × Int) := (firstsL F l l.length).map (at1 l)
theorem nearS_first {F : Fld} {a : Str} {t : Int} {m v : List (Str × Int)} (h : ∀ w ∈ m, (OF F).tc w.1 a = false) : XM.nearS (OF F) a (m ++ (a, t) :: v) = some t := by
  induction m with
  | nil => simp [XM.nearS]
  | cons y m ih =>
    have hy := h y List.mem_cons_self
    show XM.nearS (OF F) a (y :: (m ++ (a, t) :: v)) = _
    unfold XM.nearS
    rw [if_neg (XM.ne_of_apart hy), if_neg (by rw [hy]; exact Bool.false_ne_true)]
    exact ih fun w hw => h w (List.mem_cons_of_mem _ hw)
theorem mem_frow {F : Fld} {l : List (Str × Int)} {a : Str} {t : Int} : (a, t) ∈ frow F l ↔ XM.nearS (OF F) a l = some t := by
  constructor
  · intro h
    obtain ⟨k, hk, e⟩ := List.mem_map.mp h
    obtain ⟨s, hs, hf⟩ := firsts_at hk
    rw [at1_of hs] at e
    subst e
    have e2 : l = l.take k ++ (a, t) :: l.drop (k + 1) := by
      rw [← drop_at hs, List.take_append_drop]
    rw [e2]
    exact nearS_first hf
  · intro h
    obtain ⟨m, v, rfl, hm⟩ := XM.nearS_split h
    have e : (m ++ (a, t) :: v)[m.length]? = some (a, t) := by
      rw [List.getElem?_append_right (Nat.le_refl _), Nat.sub_self]
      rfl
    refine List.mem_map.mpr ⟨m.length, mem_firsts.mpr ⟨by simp, ?_⟩, at1_of e⟩
    unfold free1
    rw [e]
    show ((m ++ (a, t) :: v).take m.length).all _ = true
    rw [List.take_left' rfl, List.all_eq_true]
    intro w hw
    rw [hm w hw]
    rfl
theorem frow_nodup {F : Fld} {l : List (Str × Int)} : ((frow F l).map Prod.fst).Nodup := by
  unfold frow
  rw [List.map_map]
  refine List.pairwise_map.mpr ?_
  have h : (firstsL F l l.length).Pairwise (· < ·) := List.Pairwise.filter _ List.pairwise_lt_range
  refine List.Pairwise.imp_of_mem (fun {i j} hi hj hlt e => ?_) h
  obtain ⟨s, hs, _⟩ := firsts_at hi
  obtain ⟨z, hz, hf⟩ := firsts_at hj
  have e : (at1 l i).1 = (at1 l j).1 := e
  rw [at1_of hs, at1_of hz] at e
  have := hf s (List.mem_of_getElem? (i := i) (by rw [List.getElem?_take_of_lt hlt]; exact hs))
  rw [e, (OF F).refl] at this
  cases this
/-- the entries of the dict of first pieces -/
def fkv (l : List (Str × Int)) : List (Key × V) := l.map fun s => (Sum.inr s.1, V.int s.2)
theorem merge_fkv : ∀ (l m : List (Str × Int)), ((m ++ l).map Prod.fst).Nodup → mergeK (fkv m) (fkv l) = fkv (m ++ l)
  | [], m, _ => by rw [List.append_nil]; rfl
  | s :: l, m, h => by
    have hv : valV (fkv m) (Sum.inr s.1) = none := by
      have h2 : s.1 ∉ m.map Prod.fst := fun q => by
        rw [List.map_append, List.nodup_append] at h
        exact h.2.2 _ q _ (by simp) rfl
      have : ∀ m : List (Str × Int), s.1 ∉ m.map Prod.fst → valV (fkv m) (Sum.inr s.1) = none := fun m => by
        induction m with
        | nil => exact fun _ => rfl
        | cons x m ih =>
          intro q
          rw [List.map_cons, List.mem_cons] at q
          refine (valV_neg fun e => ?_).trans (ih fun z => q (.inr z))
          exact q (.inl (Sum.inr.inj e).symm)
      exact this m h2
    show mergeK (putK (fkv m) (Sum.inr s.1) (V.int s.2)) (fkv l) = _
    rw [putK_new _ hv]
    have e : fkv m ++ [(Sum.inr s.1, V.int s.2)] = fkv (m ++ [s]) := by
      unfold fkv
      rw [List.map_append]
      rfl
    rw [e, merge_fkv l (m ++ [s]) (by simpa using h), List.append_assoc]
    rfl
theorem merge_frow {F : Fld} {l : List (Str × Int)} : mergeK [] (fkv (frow F l)) = fkv (frow F l) := merge_fkv _ [] frow_nodup
theorem valV_fkv {l : List (Str × Int)} {a : Str} {t : Int} (h : (l.map Prod.fst).Nodup) (m : (a, t) ∈ l) : valV (fkv l) (Sum.inr a) = some (.int t) := by
  induction l with
  | nil => cases m
  | cons x l ih =>
    rw [List.map_cons, List.nodup_cons] at h
    rcases List.mem_cons.mp m with e | m
    · rw [← e]
      exact valV_pos rfl
    · refine (valV_neg fun e => ?_).trans (ih h.2 m)
      have e : x.1 = a := Sum.inr.inj e
      exact h.1 (by rw [e]; exact List.mem_map.mpr ⟨_, m, rfl⟩)
theorem valV_fkv0 {l : List (Str × Int)} {a : Str} (h : ∀ t, (a, t) ∉ l) : valV (fkv l) (Sum.inr a) = none := by
  induction l with
  | nil => rfl
  | cons x l ih =>
    refine (valV_neg fun e => ?_).trans (ih fun t m => h t (List.mem_cons_of_mem _ m))
    have e : x.1 = a := Sum.inr.inj e
    exact h x.2 (by rw [← e]; exact List.mem_cons_self)
theorem val_frow {F : Fld} {l : List (Str × Int)} {a : Str} : valV (fkv (frow F l)) (Sum.inr a) = (XM.nearS (OF F) a l).map V.int := by
  cases h : XM.nearS (OF F) a l with
  | none => exact valV_fkv0 fun t m => by rw [mem_frow.mp m] at h; cases h
  | some t => exact valV_fkv frow_nodup (mem_frow.mpr h)
def comP (F : Fld) (m : List (Str × Int)) (s : Str × Int) : Bool := match XM.nearS (OF F) s.1 m with | some u => decide (0 < s.2 * u) | none => false
/-- the names that both have first, of one sign -/
def comN (F : Fld) (l m : List (Str × Int)) : List Str := ((frow F l).filter (comP F m)).map Prod.fst
theorem com_snoc {F : Fld} {l m : List (Str × Int)} {i : Nat} {s : Str × Int} (h : l[i]? = some s) : (((l.take (i + 1)).filter (comP F m)).map Prod.fst).map V.str = (((l.take i).filter (comP F m)).map Prod.fst).map V.str ++ if comP F m s then [V.str s.1] else [] := by
  rw [take_snoc h, List.filter_append, List.map_append, List.map_append]
  congr 1
  cases e : comP F m s <;> simp [e]
theorem comN_none {F : Fld} {l m : List (Str × Int)} (h : comN F l m = []) : ∀ a t u, XM.nearS (OF F) a l = some t → XM.nearS (OF F) a m = some u → ¬ 0 < t * u := fun a t u h1 h2 h3 => by
  unfold comN at h
  rw [List.map_eq_nil_iff, List.filter_eq_nil_iff] at h
  refine h (a, t) (mem_frow.mpr h1) ?_
  show (match XM.nearS (OF F) a m with | some u => decide (0 < t * u) | none => false) = true
  rw [h2]
  exact decide_eq_true h3
theorem comN_some {F : Fld} {l m : List (Str × Int)} {a : Str} {r : List Str} (h : comN F l m = a :: r) : ∃ t u, XM.nearS (OF F) a l = some t ∧ XM.nearS (OF F) a m = some u ∧ 0 < t * u := by
  have : a ∈ comN F l m := by rw [h]; exact List.mem_cons_self
  obtain ⟨s, hs, rfl⟩ := List.mem_map.mp this
  obtain ⟨h1, h2⟩ := List.mem_filter.mp hs
  have h2 : (match XM.nearS (OF F) s.1 m with | some u => decide (0 < s.2 * u) | none => false) = true := h2
  cases e : XM.nearS (OF F) s.1 m with
  | none => rw [e] at h2; cases h2
  | some u =>
    rw [e] at h2
    exact ⟨s.2, u, mem_frow.mp h1, rfl, of_decide_eq_true h2⟩
theorem nearS_le {F : Fld} {a : Str} {t : Int} {one found mine : List (Str × Int)} (zm : XM.NZ mine) (pm : XM.pl (OF F) mine = true) (lm : XM.gl (OF F) found + XM.gl (OF F) mine = XM.gl (OF F) one) (b : XM.ln one ≤ 10 ^ 40) (h : XM.nearS (OF F) a mine = some t) : t.natAbs.log2 < 200 ∧ t.natAbs ≤ 10 ^ 40 := by
  obtain ⟨u, v, e, _⟩ := XM.nearS_split h
  have h1 : t.natAbs ≤ XM.ln mine := by
    rw [e, XM.ln_app]
    have : XM.ln ((a, t) :: v) = t.natAbs + XM.ln v := rfl
    omega
  have h2 := XM.pl_red zm pm
  have h3 := XM.gl_le (O := OF F) (l := one)
  have h4 : t.natAbs ≤ 10 ^ 40 := by omega
  refine ⟨?_, h4⟩
  by_cases h0 : t.natAbs = 0
  · rw [h0]
    decide
  · exact (Nat.log2_lt h0).mpr (Nat.lt_of_le_of_lt h4 (by decide +kernel))
theorem sh_strlist {l : List Str} (h : ∀ s ∈ l, GoodName s) : SeqAt.shaped (.list (l.map .str)) = true := by
  have hl : ∀ {l : List Str}, (∀ s ∈ l, GoodName s) → PyData.canLayAll0 (l.map .str) = true := by
    intro l
    induction l with
    | nil => exact fun _ => rfl
    | cons s l ih =>
      intro h
      rw [List.map_cons, PyData.canLayAll0, ih fun x hx => h x (List.mem_cons_of_mem _ hx)]
      simp [PyData.canLay0, strOk_of (h s List.mem_cons_self)]
  have hd : ∀ l : List Str, PyData.depthAll (l.map .str) ≤ 2 := by
    intro l
    induction l with
    | nil => decide
    | cons s l ih =>
      rw [List.map_cons, PyData.depthAll]
      have : PyData.depth (.str s) ≤ 2 := by simp [PyData.depth]
      omega
  have h2 := hd l
  show (PyData.canLayAll0 (l.map .str) && decide (PyData.depthAll (l.map .str) + 1 ≤ 64)) = true
  rw [hl h, Bool.true_and]
  exact decide_eq_true (by omega)
def CoInv (K : PySem.W.Frag) (F : Fld) (H : Hp) (a p r : Addr) (l m : List (Str × Int)) : Nat → L2.St → Hp → Prop := fun n σ H2 => ∃ (fd D1 D2 : Addr) (found mine yours : List (Str × Int)) (y6 y7 y8 y9 y10 y11 : Option V), n = mine.length + yours.length ∧ σ = [some (.ref a), some (.ref p), some (.ref r), some (.ref fd), some (.ref D1), some (.ref D2), y6, y7, y8, y9, y10, y11] ∧ Same H H2 ∧
  Dp K H2 (.ref fd) (dSteps found) ∧ Row2 K H2 D1 mine ∧ Row2 K H2 D2 yours ∧ Names F found ∧ Names F mine ∧ Names F yours ∧ XM.CL (OF F) l m found mine yours ∧ found.length + (mine.length + yours.length) ≤ l.length + m.length
section
variable {P : Program} {w : World} {K : PySem.W.Frag} {mg : Str → Option Value} {base : Heap}
def spCommonL (K : PySem.W.Frag) (F : Fld) : Sp := fun vs H Q _ => ∃ (a p r : Addr) (l m : List (Str × Int)), vs = [.ref a, .ref p, .ref r] ∧ Dp K H (.ref a) (dField F) ∧ F.Ok ∧ Dp K H (.ref p) (dSteps l) ∧ Dp K H (.ref r) (dSteps m) ∧ Names F l ∧ Names F m ∧ XM.NZ l ∧ XM.NZ m ∧ l.length + m.length ≤ 60 ∧ XM.ln l ≤ 10 ^ 40 ∧ XM.ln m ≤ 10 ^ 40 ∧
  ∀ H' q, Same H H' → Dp K H' (.ref q) (dSteps (XM.cmm (OF F) l m)) → Q (.ref q) H'
theorem c__law_common (T : Tx K mg) (F : Fld) : Cl P w K mg base CX0 5 "_law_common" (spCommonL K F) := by
  refine cl0 T.d__law_common (ps := ["field", "one", "other"]) (fun _ _ _ _ _ _ us hl => match us, hl with | [_, _, _], _ => rfl) sc__law_common (fun vs H Q E h => ?_) (fun f cdv A outer st H vs Q E hr h => ?_)
  · obtain ⟨a, p, r, l, m, rfl, _⟩ := h
    rfl
  · obtain ⟨a, p, r, l, m, rfl, hF, ok, hL, hM, nl, nm, zl, zm, hl, bl, bm, q⟩ := h
    have nd := sc__law_common.nd
    have hu : (A.deeper (envOfC "_law_common" (defScope s__law_common) st.heap.objs.size f cdv)).units + 1 < cLine := by
      have := hr.un
      omega
    refine ⟨_, (pss_cons (ps_asg (pe_tup (pa_cons (pe_tup pa_nil) (pa_cons (pe_k (c__law_pile3 T F) hr (by decide) (by rfl) (pa_cons (pv 0) (pa_cons (pv 1) pa_nil))) (pa_cons (pe_k (c__law_pile3 T F) hr (by decide) (by rfl) (pa_cons (pv 0) (pa_cons (pv 2) pa_nil))) pa_nil)))) (pg_tup rfl (pgs_cons (pg_name (i := 3) nd rfl (.inl rfl)) (pgs_cons (pg_name (i := 4) nd rfl (.inr rfl)) (pgs_cons (pg_name (i := 5) nd rfl (.inr rfl)) pgs_nil)))))
    (pss_one (ps_while PassesOwn.never (pt_val pe_bl)
    (pss_cons (ps_set (i := 6) nd rfl (.inr rfl) (pe_callTy (call_dictP rfl) (by rfl) T.b_dict (by decide +kernel) (pa_cons (pe_lc (own := [("k", 10)]) (g := (gName 10)) (tt := tYes) (by rfl) nd (pi_list (pe_k (c__law_firsts3 T F) hr (by decide) (by rfl) (pa_cons (pv 0) (pa_cons (pv 4) pa_nil)))) (blkOk_by (own := [("k", 10)]) (N := ["field", "one", "other", "found", "mine", "yours", "some", "more", "names", "step", "k", "name"]) (sc := defScope s__law_common) (by decide +kernel)) (fun _ _ _ _ _ => (pg_name (i := 10) nd rfl (by first | exact Or.inl rfl | exact Or.inr rfl))) (fun _ _ _ _ _ => pts_nil) (fun _ _ _ _ _ => (pe_ix (ixk_list (K := K) rfl) (pv 4) (pv 10) (fun _ _ => rfl)))) pa_nil)))
    (pss_cons (ps_set (i := 7) nd rfl (.inr rfl) (pe_callTy (call_dictP rfl) (by rfl) T.b_dict (by decide +kernel) (pa_cons (pe_lc (own := [("k", 10)]) (g := (gName 10)) (tt := tYes) (by rfl) nd (pi_list (pe_k (c__law_firsts3 T F) hr (by decide) (by rfl) (pa_cons (pv 0) (pa_cons (pv 5) pa_nil)))) (blkOk_by (own := [("k", 10)]) (N := ["field", "one", "other", "found", "mine", "yours", "some", "more", "names", "step", "k", "name"]) (sc := defScope s__law_common) (by decide +kernel)) (fun _ _ _ _ _ => (pg_name (i := 10) nd rfl (by first | exact Or.inl rfl | exact Or.inr rfl))) (fun _ _ _ _ _ => pts_nil) (fun _ _ _ _ _ => (pe_ix (ixk_list (K := K) rfl) (pv 5) (pv 10) (fun _ _ => rfl)))) pa_nil)))
    (pss_cons (ps_lock (ps_setLc (i := 8) (own := [("name", 11)]) (g := (gName 11)) (tt := _) rfl nd rfl rfl (sw_true rfl rfl rfl (by decide +kernel)) (pi_keys (pv 6)) (blkOk_by (own := [("name", 11)]) (N := ["field", "one", "other", "found", "mine", "yours", "some", "more", "names", "step", "k", "name"]) (sc := defScope s__law_common) (by decide +kernel)) (fun _ _ _ _ _ => (pg_name (i := 11) nd rfl (by first | exact Or.inl rfl | exact Or.inr rfl))) (fun _ _ _ _ _ => pts_one (PW.pt (pw_and (pt_cmp (pc_din hu (pv 11) (pv 7))) (pw_and1 (pt_cmpR op_gt (pe_op op_mulW (pe_dget hu (pv 6) (pv 11) (fun _ _ => rfl)) (pe_dget hu (pv 7) (pv 11) (fun _ _ => rfl))) pe_int (nomark _)))))) (fun _ _ _ _ _ => (pv 11))))
    (pss_cons (ps_if (pt_cmpR (op_eqD hr.units) (pv 8) (pe_lst pa_nil) (nomark _)) (pss_one (ps_ret (pe_k (c__law_least3 T F) hr (by decide) (by rfl) (pa_cons (pv 0) (pa_cons (pv 3) pa_nil))))) pss_nil)
    (pss_cons (ps_set (i := 9) nd rfl (.inl rfl) (pe_tup (pa_cons (pe_ix (ixk_list (K := K) rfl) (pv 8) pe_int (fun _ _ => rfl)) (pa_cons (pe_op op_mul (pe_callB (call_min2 rfl) (by rfl) T.b_min (by decide +kernel) (pa_cons (pe_callB call_abs (by rfl) T.b_abs (by decide +kernel) (pa_cons (pe_dget hu (pv 6) (pe_ix (ixk_list (K := K) rfl) (pv 8) pe_int (fun _ _ => rfl)) (fun _ _ => rfl)) pa_nil)) (pa_cons (pe_callB call_abs (by rfl) T.b_abs (by decide +kernel) (pa_cons (pe_dget hu (pv 7) (pe_ix (ixk_list (K := K) rfl) (pv 8) pe_int (fun _ _ => rfl)) (fun _ _ => rfl)) pa_nil)) pa_nil))) (pe_ifExp (pt_cmpR op_gt (pe_dget hu (pv 6) (pe_ix (ixk_list (K := K) rfl) (pv 8) pe_int (fun _ _ => rfl)) (fun _ _ => rfl)) pe_int (nomark _)) pe_int (pe_un un_neg pe_int))) pa_nil))))
    (pss_cons (ps_set (i := 3) nd rfl (.inl rfl) (pe_op (op_catAk (K := K) rfl) (pv 3) (pe_tup (pa_cons (pv 9) pa_nil))))
    (pss_cons (ps_set (i := 4) nd rfl (.inr rfl) (pe_k (c__law_pile3 T F) hr (by decide) (by rfl) (pa_cons (pv 0) (pa_cons (pe_op (op_catAk (K := K) rfl) (pe_k (c__law_back3 T) hr (by decide) (by rfl) (pa_cons (pe_tup (pa_cons (pv 9) pa_nil)) pa_nil)) (pe_tupleOf (by rfl) T.b_tuple (pv 4))) pa_nil))))
    (pss_one (ps_set (i := 5) nd rfl (.inr rfl) (pe_k (c__law_pile3 T F) hr (by decide) (by rfl) (pa_cons (pv 0) (pa_cons (pe_op (op_catAk (K := K) rfl) (pe_k (c__law_back3 T) hr (by decide) (by rfl) (pa_cons (pe_tup (pa_cons (pv 9) pa_nil)) pa_nil)) (pe_tupleOf (by rfl) T.b_tuple (pv 5))) pa_nil))))))))))))))), ?_⟩
    --@
    obtain ⟨_, xl, ee, hlS, hlV⟩ := id hL.steps
    cases ee
    obtain ⟨_, xm, ee, hmS, hmV⟩ := id hM.steps
    cases ee
    refine ⟨Nat.zero_le _, fun fd hfd => upd_gen hfd fun H1 s1 e1 => ⟨_, rfl, _, rfl, a, p, xl, l, rfl, Dp.sm s1 _ hF, ok, .inr ((Tk.of s1).sqT hlS), DpAll.sm s1 _ hlV, nl, zl, by omega, fun H2 D1 f1 s2 hR1 _ nf1 zf1 pf1 af1 lf1 => ?_⟩⟩
    have s12 := s1.trans s2
    refine ⟨_, rfl, _, rfl, a, r, xm, m, rfl, Dp.sm s12 _ hF, ok, .inr ((Tk.of s12).sqT hmS), DpAll.sm s12 _ hmV, nm, zm, by omega, fun H3 D2 f2 s3 hR2 _ nf2 zf2 pf2 af2 lf2 => ?_⟩
    refine ⟨(show 3 ≤ sizeLine by decide), fun TT hT => upd_gen hT fun H4 s4 e4 => ⟨TT, _, rfl, SqT.of e4, rfl, _, _, rfl, _, _, rfl, _, _, rfl, rfl, ?_⟩⟩
    have s14 := (s12.trans s3).trans s4
    refine ⟨CoInv K F H a p r l m, ⟨_, fd, D1, D2, [], f1, f2, none, none, none, none, none, none, rfl, rfl, s14, .tup ((Tk.of ((s2.trans s3).trans s4)).sqT (SqT.of e1)) .nil, hR1.same (s3.trans s4), hR2.same s4, (fun _ h => nomatch h), nf1, nf2, .start zf1 zf2 pf1 pf2 af1 af2, by simp; omega⟩, ?_⟩
    rintro n σ H5 ⟨fd, D1, D2, found, mine, yours, y6, y7, y8, y9, y10, y11, rfl, rfl, s5, hfd, hR1, hR2, nfd, n1, n2, C, len⟩
    refine ⟨_, rfl, iteT ⟨fun σ' H' => ∃ m', m' < mine.length + yours.length ∧ CoInv K F H a p r l m m' σ' H', fun _ _ h => h, ?_⟩⟩
    obtain ⟨xs5, eD1, hX⟩ := id hR1
    refine ⟨_, rfl, _, rfl, a, D1, xs5, mine, rfl, Dp.sm s5 _ hF, ok, .inl (SqL.of eD1), hX, n1, by omega, fun H6 r1 s6 e6 _ => ⟨r1, rfl, ⟨_, SqL.of e6⟩, fun D3 hD3 => ?_⟩⟩
    have hlen1 := firsts_len (F := F) (l := mine) (n := mine.length)
    refine lc_it (walk_list (xs := (firstsL F mine mine.length).map fun k => V.int (k : Nat))) (fun i H' => (∃ ps, H' D3 = some (.lst (ps.map V.ref)) ∧ Paired (fun p kv => SqT K H' p [kV kv.1, kv.2]) ps (fkv (((firstsL F mine mine.length).take i).map (at1 mine)))) ∧ Same H6 H') ⟨⟨[], upd_same, .nil⟩, same_upd hD3⟩ (fun _ H' _ ⟨_, s'⟩ => SqL.of (s' _ _ e6)) (fun i x H7o H7 hi ⟨⟨ps, e7, hP⟩, s7⟩ hy => ?_) (fun H7 ⟨⟨ps, e7, hP⟩, s7⟩ => ?_)
    · obtain ⟨rfl, hx⟩ := hy
      rw [List.getElem?_map] at hx
      obtain ⟨k, hk, rfl⟩ := Option.map_eq_some_iff.mp hx
      obtain ⟨s, hs, _⟩ := firsts_at (List.mem_of_getElem? hk)
      obtain ⟨xs7, b, q1, q2, q3⟩ := (hR1.same (s6.trans s7)).get hs
      have lp := hP.length
      unfold fkv at lp
      rw [List.length_map, List.length_map, List.length_take] at lp
      refine ⟨rfl, yes_ ⟨_, rfl, _, rfl, _, _, _, _, rfl, rfl, q1, q2, _, e7, ?_, ⟨ps ++ [b], ?_, ?_⟩, same_put s7 hD3⟩⟩
      · rw [List.length_map]
        exact small1000 (by omega)
      · rw [upd_same, List.map_append]
        rfl
      · have t4 : Tk H7 (upd H7 D3 (.lst (ps.map V.ref ++ [.ref b]))) := Tk.refl.lst e7
        rw [take_snoc hk, List.map_append]
        unfold fkv
        rw [List.map_append]
        refine (hP.mono fun p kv z => t4.sqT z).snoc ?_
        show SqT K _ b [V.str (at1 mine k).1, V.int (at1 mine k).2]
        rw [at1_of hs]
        exact t4.sqT q3
    rw [List.length_map, List.take_length] at hP
    refine ⟨D3, ps, fkv (frow F mine), rfl, SqL.of e7, hP, fun S hS => ?_⟩
    rw [merge_frow]
    refine upd_gen hS fun H8 s8 e8 => ?_
    have s58 := (s6.trans s7).trans s8
    have s08 := s5.trans s58
    obtain ⟨xs8, eD2, hY⟩ := id (hR2.same s58)
    refine ⟨_, rfl, _, rfl, a, D2, xs8, yours, rfl, Dp.sm s08 _ hF, ok, .inl (SqL.of eD2), hY, n2, by omega, fun H9 r2 s9 e9 _ => ⟨r2, rfl, ⟨_, SqL.of e9⟩, fun D4 hD4 => ?_⟩⟩
    have hlen2 := firsts_len (F := F) (l := yours) (n := yours.length)
    refine lc_it (walk_list (xs := (firstsL F yours yours.length).map fun k => V.int (k : Nat))) (fun i H' => (∃ ps, H' D4 = some (.lst (ps.map V.ref)) ∧ Paired (fun p kv => SqT K H' p [kV kv.1, kv.2]) ps (fkv (((firstsL F yours yours.length).take i).map (at1 yours)))) ∧ Same H9 H') ⟨⟨[], upd_same, .nil⟩, same_upd hD4⟩ (fun _ H' _ ⟨_, s'⟩ => SqL.of (s' _ _ e9)) (fun i x H10o H10 hi ⟨⟨ps, e10, hP⟩, s10⟩ hy => ?_) (fun H10 ⟨⟨qs, e10, hQ⟩, s10⟩ => ?_)
    · obtain ⟨rfl, hx⟩ := hy
      rw [List.getElem?_map] at hx
      obtain ⟨k, hk, rfl⟩ := Option.map_eq_some_iff.mp hx
      obtain ⟨s, hs, _⟩ := firsts_at (List.mem_of_getElem? hk)
      obtain ⟨xs10, b, q1, q2, q3⟩ := (hR2.same (s58.trans (s9.trans s10))).get hs
      have lp := hP.length
      unfold fkv at lp
      rw [List.length_map, List.length_map, List.length_take] at lp
      refine ⟨rfl, yes_ ⟨_, rfl, _, rfl, _, _, _, _, rfl, rfl, q1, q2, _, e10, ?_, ⟨ps ++ [b], ?_, ?_⟩, same_put s10 hD4⟩⟩
      · rw [List.length_map]
        exact small1000 (by omega)
      · rw [upd_same, List.map_append]
        rfl
      · have t4 : Tk H10 (upd H10 D4 (.lst (ps.map V.ref ++ [.ref b]))) := Tk.refl.lst e10
        rw [take_snoc hk, List.map_append]
        unfold fkv
        rw [List.map_append]
        refine (hP.mono fun p kv z => t4.sqT z).snoc ?_
        show SqT K _ b [V.str (at1 yours k).1, V.int (at1 yours k).2]
        rw [at1_of hs]
        exact t4.sqT q3
    rw [List.length_map, List.take_length] at hQ
    refine ⟨D4, qs, fkv (frow F yours), rfl, SqL.of e10, hQ, fun M hM => ?_⟩
    rw [merge_frow]
    refine upd_gen hM fun H11 s11 e11 => ?_
    have s8b := (s9.trans s10).trans s11
    have e8 := s8b _ _ e8
    have s5b := s58.trans s8b
    have s0b := s5.trans s5b
    have nSM : M ≠ S := fun z => by rw [z, (s9.trans s10) _ _ (by assumption)] at hM; cases hM
    refine ⟨S, _, e8, trivial, fun od => ?_⟩
    have hSL : (upd H11 S (.frz od (.dK (fkv (frow F mine))))) S = some (.frz od (.dK (fkv (frow F mine)))) := upd_same
    have hML : (upd H11 S (.frz od (.dK (fkv (frow F mine))))) M = some (.dK (fkv (frow F yours))) := by
      rw [upd_ne nSM]
      exact e11
    have back : ∀ H', Same (upd H11 S (.frz od (.dK (fkv (frow F mine))))) H' → Same H11 (upd H' S (.dK (fkv (frow F mine)))) := fun H' s b o e => by
      by_cases h : b = S
      · subst h
        rw [upd_same]
        rw [e8] at e
        exact e
      · rw [upd_ne h]
        exact s b o (by rw [upd_ne h]; exact e)
    generalize upd H11 S (.frz od (.dK (fkv (frow F mine)))) = HL at hSL hML back ⊢
    refine ⟨_, rfl, S, od, rfl, .inl ⟨_, hSL, fun N hN => ?_⟩⟩
    have lk : (fkv (frow F mine)).length = (frow F mine).length := List.length_map _
    have lf : (frow F mine).length ≤ 60 := by
      unfold frow
      rw [List.length_map]
      omega
    refine lc_it (walk_keys (kvs := fkv (frow F mine))) (fun i H' => H' N = some (.lst (((((frow F mine).take i).filter (comP F yours)).map Prod.fst).map V.str)) ∧ Same HL H') ⟨upd_same, same_upd hN⟩ (fun _ H' _ ⟨_, s'⟩ => s' _ _ hSL) (fun i x H12o H12 hi ⟨eN, s12⟩ hy => ?_) (fun H12 ⟨eN, s12⟩ => ?_)
    · obtain ⟨rfl, k, v, hk, rfl⟩ := hy
      obtain ⟨s, hs, eq⟩ := Option.map_eq_some_iff.mp ((List.getElem?_map (f := fun s : Str × Int => ((Sum.inr s.1 : Key), V.int s.2)) (l := frow F mine) (i := i)).symm.trans hk)
      cases eq
      have hv := mem_frow.mp (show (s.1, s.2) ∈ frow F mine from List.mem_of_getElem? hs)
      have d1 : DGet H12 S (.str s.1) (some (.int s.2)) := .inl ⟨_, .inr s.1, .inr ⟨od, s12 _ _ hSL⟩, rfl, by rw [val_frow, hv]; rfl⟩
      have d2 : DGet H12 M (.str s.1) ((XM.nearS (OF F) s.1 yours).map V.int) := by
        rw [← val_frow]
        exact DGet.k (k := .inr s.1) (s12 _ _ hML)
      refine ⟨rfl, ?_⟩
      refine ⟨_, rfl, _, rfl, M, _, rfl, d2, _, rfl, ?_⟩
      cases hu2 : XM.nearS (OF F) s.1 yours with
      | none =>
        have e0 : comP F yours s = false := by
          unfold comP
          rw [hu2]
        rw [hu2] at d2
        exact iteF (iteF ⟨by rw [com_snoc hs, e0, if_neg Bool.false_ne_true, List.append_nil]; exact eN, s12⟩)
      | some u =>
        have e0 : comP F yours s = decide (0 < s.2 * u) := by
          unfold comP
          rw [hu2]
        rw [hu2] at d2
        have b1 := (nearS_le C.zm C.pm C.lm bl hv).1
        have b2 := (nearS_le C.zy C.py C.ly bm hu2).1
        refine iteT ⟨_, rfl, _, rfl, S, .int s.2, rfl, d1, _, rfl, _, rfl, M, .int u, rfl, d2, _, _, rfl, rfl, (show _ < 1000000 by omega), _, _, rfl, rfl, _, rfl, ?_⟩
        refine ite2 (fun h => ?_) (fun h => ?_)
        · refine ⟨_, rfl, _, eN, ?_, ?_, same_put s12 hN⟩
          · rw [List.length_map, List.length_map]
            have l1 := List.length_filter_le (comP F yours) ((frow F mine).take i)
            rw [List.length_take] at l1
            exact small1000 (by omega)
          · rw [upd_same, com_snoc hs, e0, if_pos h]
            rfl
        · exact ⟨by rw [com_snoc hs, e0, if_neg h, List.append_nil]; exact eN, s12⟩
    · rw [lk, List.take_length] at eN
      have eN : H12 N = some (.lst ((comN F mine yours).map V.str)) := eN
      refine ⟨s12 _ _ hSL, ?_⟩
      have sF := back _ s12
      have nNS : N ≠ S := fun z => by rw [z, hSL] at hN; cases hN
      have eN : (upd H12 S (.dK (fkv (frow F mine)))) N = some (.lst ((comN F mine yours).map V.str)) := by
        rw [upd_ne nNS]
        exact eN
      clear back s12 hSL hML hN
      generalize upd H12 S (.dK (fkv (frow F mine))) = HF at sF eN ⊢
      have s0F := s0b.trans sF
      have s5F := s5b.trans sF
      refine ⟨_, rfl, Nat.zero_le _, fun p0 h0 => upd_gen h0 fun H13 s13 e13 => ?_⟩
      refine ⟨.list ((comN F mine yours).map .str), .list [], .lst (SqL.of (s13 _ _ eN)) (DpAll.strs _), .lst (SqL.of e13) .nil, ?_, rfl, _, rfl, ?_⟩
      · exact sh_strlist fun x hx => by
          obtain ⟨z, hz, rfl⟩ := List.mem_map.mp hx
          have := mem_frow.mp (show (z.1, z.2) ∈ frow F mine from (List.mem_filter.mp hz).1)
          exact ok.sgn _ (n1 _ (XM.nearS_mem this))
      have s0G := s0F.trans s13
      have s5G := s5F.trans s13
      have eqn : PyData.eqv (.list ((comN F mine yours).map .str)) (.list []) = (comN F mine yours).isEmpty := by
        cases comN F mine yours <;> rfl
      rw [eqn]
      cases hc : comN F mine yours with
      | nil =>
        have hCm := C.done zl zm (comN_none hc)
        obtain ⟨_, xf, ee, hfS, hfV⟩ := id (Dp.sm s5G _ hfd).steps
        cases ee
        refine iteT ⟨_, rfl, _, rfl, a, fd, xf, found, rfl, Dp.sm s0G _ hF, ok, .inr hfS, hfV, nfd, C.zf, by omega, fun H14 r s14 hr => q H14 r (s0G.trans s14) ?_⟩
        rw [← XM.cmm_of C.zf zl zm hCm]
        exact hr
      | cons b rest =>
        refine iteF ?_
        obtain ⟨t, u, k1, k2, k3⟩ := comN_some hc
        rw [hc] at eN
        have dS : DGet H13 S (.str b) (some (.int t)) := by
          have := DGet.k (k := .inr b) ((sF.trans s13) _ _ e8)
          rwa [val_frow, k1] at this
        have dM : DGet H13 M (.str b) (some (.int u)) := by
          have := DGet.k (k := .inr b) ((sF.trans s13) _ _ e11)
          rwa [val_frow, k2] at this
        have eN13 := s13 _ _ eN
        refine ⟨_, rfl, ix0L eN13 ?_⟩
        obtain ⟨sg, esh⟩ := XM.shr_min k3
        refine by_q (fun v H' => v = .int (XM.shr t u) ∧ H' = H13) (fun Qx hQ => ?_) (fun v H' ⟨ev, eH⟩ => ?_)
        · refine ⟨_, rfl, _, rfl, ix0L eN13 ⟨S, .int t, rfl, dS, _, rfl, _, rfl, _, rfl, ix0L eN13 ⟨M, .int u, rfl, dM, _, rfl, _, _, rfl, ?_⟩⟩⟩
          refine by_q (fun v H' => v = .int (if 0 < t then 1 else -1) ∧ H' = H13) (fun Qy hQ2 => ?_) (fun v H' ⟨ev, eH⟩ => ?_)
          · refine ⟨_, rfl, _, rfl, ix0L eN13 ⟨S, .int t, rfl, dS, _, _, rfl, rfl, _, rfl, ite2 (fun h => ?_) (fun h => ?_)⟩⟩
            · exact hQ2 _ _ ⟨by rw [if_pos (of_decide_eq_true h)], rfl⟩
            · exact ⟨_, rfl, hQ2 _ _ ⟨by rw [if_neg (fun z => h (decide_eq_true z))], rfl⟩⟩
          subst ev
          subst eH
          refine ⟨_, _, rfl, rfl, .inr (by split <;> decide), hQ _ _ ⟨congrArg V.int ?_, rfl⟩⟩
          rw [esh]
          congr 1
          repeat' split
          all_goals omega
        subst ev
        subst eH
        refine ⟨two_sz, fun z9 m9 => upd_gen m9 fun H14 s14 e14 => ?_⟩
        have hst : Dp K H14 (.ref z9) (dStep (b, XM.shr t u)) := Dp.of_step (s := (b, XM.shr t u)) (SqT.of e14)
        have nb : b ∈ F.names := n1 _ (XM.nearS_mem k1)
        have ns : Names F [(b, XM.shr t u)] := fun s hs => by rw [List.mem_singleton.mp hs]; exact nb
        have hs0 := (XM.shr_sg sg).1
        have zs : XM.NZ [(b, XM.shr t u)] := XM.nz1 hs0
        have zb : XM.NZ (XM.back [(b, XM.shr t u)]) := XM.back_nz zs
        refine ⟨_, rfl, _, rfl, one_sz, fun z2 m2 => upd_gen m2 fun H15 s15 e15 => ?_⟩
        have s515 := (s5G.trans s14).trans s15
        refine catD (m := [(b, XM.shr t u)]) (Dp.sm s515 _ hfd) (.tup (SqT.of e15) (.cons (Dp.sm s15 _ hst) .nil)) (by rw [List.length_singleton]; omega) fun H16 fd' s16 hfd' => ?_
        have s516 := s515.trans s16
        have s516' := s5.trans s516
        refine ⟨_, rfl, _, rfl, one_sz, fun z3 m3 => upd_gen m3 fun H17 s17 e17 => ⟨z3, [(b, XM.shr t u)], rfl, .tup (SqT.of e17) (.cons (Dp.sm ((s15.trans s16).trans s17) _ hst) .nil), by rw [List.length_singleton]; omega, fun H18 bk s18 hbk => ?_⟩⟩
        have s518 := (s516.trans s17).trans s18
        have rows : ∀ {D : Addr} {row : List (Str × Int)} {J : Hp}, Same H5 J → Row2 K H5 D row → ∃ xs, J D = some (.lst xs) ∧ DpAll K J xs (row.map dStep) := fun s h => h.same s
        obtain ⟨ys1, f1, g1⟩ := rows s518 hR1
        refine ⟨_, rfl, .inl ⟨D1, ys1, rfl, SqL.of f1, fun z4 m4 => upd_gen m4 fun H19 s19 e19 => ?_⟩⟩
        refine catD (m := mine) (Dp.sm s19 _ hbk) (.tup (SqT.of e19) (DpAll.sm s19 _ g1)) (by rw [len_back, List.length_singleton]; omega) fun H20 c1 s20 hc1 => ?_
        have s520 := (s518.trans s19).trans s20
        obtain ⟨_, zs1, ee, hzS1, hzV1⟩ := id hc1.steps
        cases ee
        have nback := names_back ns
        refine ⟨a, c1, zs1, _, rfl, Dp.sm (s5.trans s520) _ hF, ok, .inr hzS1, hzV1, fun s hs => (List.mem_append.mp hs).elim (nback s) (n1 s), zb.app C.zm, by rw [List.length_append, len_back, List.length_singleton]; omega, fun H21 E1 mine' s21 hE1 _ nm1 zm1 pm1 am1 _ => ?_⟩
        have s521 := s520.trans s21
        have sH14 := ((((((s15.trans s16).trans s17).trans s18).trans s19).trans s20).trans s21)
        refine ⟨_, rfl, _, rfl, one_sz, fun z5 m5 => upd_gen m5 fun H22 s22 e22 => ⟨z5, [(b, XM.shr t u)], rfl, .tup (SqT.of e22) (.cons (Dp.sm (sH14.trans s22) _ hst) .nil), by rw [List.length_singleton]; omega, fun H23 bk2 s23 hbk2 => ?_⟩⟩
        have s523 := (s521.trans s22).trans s23
        obtain ⟨ys2, f2, g2⟩ := rows s523 hR2
        refine ⟨_, rfl, .inl ⟨D2, ys2, rfl, SqL.of f2, fun z6 m6 => upd_gen m6 fun H24 s24 e24 => ?_⟩⟩
        refine catD (m := yours) (Dp.sm s24 _ hbk2) (.tup (SqT.of e24) (DpAll.sm s24 _ g2)) (by rw [len_back, List.length_singleton]; omega) fun H25 c2 s25 hc2 => ?_
        have s525 := (s523.trans s24).trans s25
        obtain ⟨_, zs2, ee, hzS2, hzV2⟩ := id hc2.steps
        cases ee
        refine ⟨a, c2, zs2, _, rfl, Dp.sm (s5.trans s525) _ hF, ok, .inr hzS2, hzV2, fun s hs => (List.mem_append.mp hs).elim (nback s) (n2 s), zb.app C.zy, by rw [List.length_append, len_back, List.length_singleton]; omega, fun H26 E2 yours' s26 hE2 _ nm2 zm2 pm2 am2 _ => ?_⟩
        have s526 := s525.trans s26
        have am1 : XM.act (OF F) mine' [] = XM.act (OF F) ((b, -(XM.shr t u)) :: mine) [] := am1
        have am2 : XM.act (OF F) yours' [] = XM.act (OF F) ((b, -(XM.shr t u)) :: yours) [] := am2
        obtain ⟨C', lt⟩ := C.step k1 k2 sg zm1 zm2 pm1 pm2 am1 am2
        refine ⟨_, lt, fd', E1, E2, _, mine', yours', _, _, _, _, _, _, rfl, rfl, s5.trans s526, Dp.sm ((((((((((s17.trans s18).trans s19).trans s20).trans s21).trans s22).trans s23).trans s24).trans s25).trans s26)) _ hfd', hE1.same ((((s22.trans s23).trans s24).trans s25).trans s26), hE2, fun s hs => (List.mem_append.mp hs).elim (nfd s) (ns s), nm1, nm2, C', ?_⟩
        rw [List.length_append, List.length_singleton]
        omega
end
end XB
set_option Elab.async false
set_option linter.all false
set_option maxRecDepth 100000
set_option maxHeartbeats 4000000
namespace XB
open PySem PySem.Spec PyProof.Rows L2
/-! the law's least one over both -/
section
variable {P : Program} {w : World} {K : PySem.W.Frag} {mg : Str → Option Value} {base : Heap}
def spOverL (K : PySem.W.Frag) (F : Fld) : Sp := fun vs H Q _ => ∃ (a p r : Addr) (l m : List (Str × Int)), vs = [.ref a, .ref p, .ref r] ∧ Dp K H (.ref a) (dField F) ∧ F.Ok ∧ Dp K H (.ref p) (dSteps l) ∧ Dp K H (.ref r) (dSteps m) ∧ Names F l ∧ Names F m ∧ XM.NZ l ∧ XM.NZ m ∧ l.length + m.length ≤ 30 ∧ XM.ln l ≤ 10 ^ 40 ∧ XM.ln m ≤ 10 ^ 40 ∧
  (XM.ovr (OF F) (lpile F l) (lpile F m) = none → ∀ H', Same H H' → Q .non H') ∧ (∀ z, XM.ovr (OF F) (lpile F l) (lpile F m) = some z → ∀ H' q, Same H H' → Dp K H' (.ref q) (dSteps z) → Q (.ref q) H')
theorem c__law_over (T : Tx K mg) (F : Fld) : Cl P w K mg base CX0 6 "_law_over" (spOverL K F) := by
  refine cl0 T.d__law_over (ps := ["field", "one", "other"]) (fun _ _ _ _ _ _ us hl => match us, hl with | [_, _, _], _ => rfl) sc__law_over (fun vs H Q E h => ?_) (fun f cdv A outer st H vs Q E hr h => ?_)
  · obtain ⟨a, p, r, l, m, rfl, _⟩ := h
    rfl
  · obtain ⟨a, p, r, l, m, rfl, hF, ok, hL, hM, nl, nm, zl, zm, hl, bl, bm, q1, q2⟩ := h
    have nd := sc__law_over.nd
    refine ⟨_, (pss_cons (ps_set (i := 3) nd rfl (.inl rfl) (pe_k (c__law_common T F) hr (by decide) (by rfl) (pa_cons (pv 0) (pa_cons (pv 1) (pa_cons (pv 2) pa_nil)))))
    (pss_cons (ps_par (i := 4) (j := 5) rfl nd rfl rfl (by decide) rfl rfl (pa_cons (pe_k (c__law_pile3 T F) hr (by decide) (by rfl) (pa_cons (pv 0) (pa_cons (pe_op (op_catAk (K := K) rfl) (pe_k (c__law_back3 T) hr (by decide) (by rfl) (pa_cons (pv 3) pa_nil)) (pv 1)) pa_nil))) (pa_cons (pe_k (c__law_pile3 T F) hr (by decide) (by rfl) (pa_cons (pv 0) (pa_cons (pe_op (op_catAk (K := K) rfl) (pe_k (c__law_back3 T) hr (by decide) (by rfl) (pa_cons (pv 3) pa_nil)) (pv 2)) pa_nil))) pa_nil)) rfl)
    (pss_cons (ps_for PassesOwn.never rfl (pi_list (pv 4)) (pg_name (i := 6) nd rfl (.inr rfl))
    (pss_one (ps_if (pt_cmpR (op_neD hr.units) (pe_lc (own := [("far", 7)]) (g := (gName 7)) (tt := _) (by rfl) nd (pi_list (pv 5)) (blkOk_by (own := [("far", 7)]) (N := ["field", "one", "other", "part", "more", "rest", "near", "far"]) (sc := defScope s__law_over) (by decide +kernel)) (fun _ _ _ _ _ => (pg_name (i := 7) nd rfl (by first | exact Or.inl rfl | exact Or.inr rfl))) (fun _ _ _ _ _ => pts_one (pt_not (pt_val (pe_k (c__law_apart2 T F) hr (by decide) (by rfl) (pa_cons (pv 0) (pa_cons (pe_ix (ixk_tup (K := K) rfl) (pv 6) pe_int (fun _ _ => rfl)) (pa_cons (pe_ix (ixk_tup (K := K) rfl) (pv 7) pe_int (fun _ _ => rfl)) pa_nil))))))) (fun _ _ _ _ _ => (pv 7))) (pe_lst pa_nil) (nomark _)) (pss_one (ps_ret pe_non)) pss_nil)))
    (pss_one (ps_ret (pe_k (c__law_least3 T F) hr (by decide) (by rfl) (pa_cons (pv 0) (pa_cons (pe_op (op_catAk (K := K) rfl) (pe_op (op_catAk (K := K) rfl) (pv 3) (pe_tupleOf (by rfl) T.b_tuple (pv 4))) (pe_tupleOf (by rfl) T.b_tuple (pv 5))) pa_nil)))))))), ?_⟩
    --@
    refine ⟨_, rfl, _, rfl, _, rfl, a, p, r, l, m, rfl, hF, ok, hL, hM, nl, nm, zl, zm, by omega, bl, bm, fun H1 c s1 hc => ?_⟩
    have zc := XM.cmm_nz (O := OF F) zl zm
    obtain ⟨nc, lc⟩ : Names F (XM.cmm (OF F) l m) ∧ (XM.cmm (OF F) l m).length ≤ l.length := by
      have k := cmn_cb (F := F) (l := lpile F l) (m := lpile F m) (names_rev (names_act (r := []) nl fun _ h => nomatch h)) (names_rev (names_act (r := []) nm fun _ h => nomatch h))
      have k1 := act_len1 (F := F) (l := l)
      exact ⟨k.1, Nat.le_trans k.2 k1⟩
    have zb := XM.back_nz zc
    have nb := names_back nc
    have lb : (XM.back (XM.cmm (OF F) l m)).length ≤ l.length := by rw [len_back]; exact lc
    refine ⟨_, rfl, _, rfl, c, _, rfl, hc, by omega, fun H2 b s2 hb => ⟨_, rfl, catD hb (Dp.sm (s1.trans s2) _ hL) (by omega) fun H3 d s3 hd => ?_⟩⟩
    have s13 := (s1.trans s2).trans s3
    obtain ⟨_, xs, ee, hxS, hxD⟩ := hd.steps
    cases ee
    refine ⟨a, d, xs, _, rfl, Dp.sm s13 _ hF, ok, .inr hxS, hxD, fun s hs => (List.mem_append.mp hs).elim (nb s) (nl s), zb.app zl, by rw [List.length_append]; omega, fun H4 D1 more s4 hR1 _ nf1 z1 p1 a1 l1 => ?_⟩
    have s14 := s13.trans s4
    refine ⟨_, rfl, _, rfl, c, _, rfl, Dp.sm ((s2.trans s3).trans s4) _ hc, by omega, fun H5 b2 s5 hb2 => ⟨_, rfl, catD hb2 (Dp.sm (s14.trans s5) _ hM) (by omega) fun H6 d2 s6 hd2 => ?_⟩⟩
    have s16 := (s14.trans s5).trans s6
    obtain ⟨_, ys, ee, hyS, hyD⟩ := hd2.steps
    cases ee
    refine ⟨a, d2, ys, _, rfl, Dp.sm s16 _ hF, ok, .inr hyS, hyD, fun s hs => (List.mem_append.mp hs).elim (nb s) (nm s), zb.app zm, by rw [List.length_append]; omega, fun H7 D2 rest s7 hR2 _ nf2 z2 p2 a2 l2 => ?_⟩
    have s17 := s16.trans s7
    have hR1 := hR1.same ((s5.trans s6).trans s7)
    rw [List.length_append] at l1 l2
    have eo := XM.ovr_law (O := OF F) zl zm z1 z2 p1 p2 a1 a2
    have eo : XM.ovr (OF F) (lpile F l) (lpile F m) = if XM.tch (OF F) more rest then none else some (lpile F (XM.cmm (OF F) l m ++ more ++ rest)) := eo
    obtain ⟨xs1, e1, v1⟩ := id hR1
    obtain ⟨xs2, e2, v2⟩ := id hR2
    have lx1 := v1.len
    rw [List.length_map] at lx1
    have lx2 := v2.len
    rw [List.length_map] at lx2
    refine ⟨_, _, rfl, _, rfl, D1, rfl, ⟨_, SqL.of e1⟩, ?_⟩
    refine for_it (walk_list (xs := xs1)) (fun i σ H8 => ∃ (y6 : Option V), σ = [some (.ref a), some (.ref p), some (.ref r), some (.ref c), some (.ref D1), some (.ref D2), y6, none] ∧ Same H7 H8 ∧ ((more.take i).any fun x => rest.any fun y => (OF F).tc x.1 y.1) = false)
      ⟨none, rfl, fun _ _ h => h, rfl⟩ (fun i σ H8 _ ⟨_, _, s', _⟩ => SqL.of (s' _ _ e1)) (fun i x σ H8o H8 hi ⟨y6, eσ, s8, en⟩ hy => ?_) (fun σ H8 ⟨y6, eσ, s8, en⟩ => ?_)
    · obtain ⟨rfl, hx⟩ := hy
      subst eσ
      obtain ⟨dd, g1, pp1⟩ := v1.get hx
      rw [List.getElem?_map] at g1
      obtain ⟨s, k1, rfl⟩ := Option.map_eq_some_iff.mp g1
      obtain ⟨b3, rfl, cb⟩ := pp1.step
      have ms := nf1 s (List.mem_of_getElem? k1)
      refine ⟨_, rfl, D2, rfl, ⟨_, SqL.of (s8 _ _ e2)⟩, fun E hE => ?_⟩
      refine lc_it (walk_list (xs := xs2)) (fun j H' => Row2 K H' E ((rest.take j).filter fun y => (OF F).tc s.1 y.1) ∧ Same H8 H') ⟨⟨[], upd_same, .nil⟩, same_upd hE⟩ (fun _ H' _ ⟨_, s'⟩ => SqL.of ((s8.trans s') _ _ e2)) (fun j y H10o H10 hj ⟨hE10, s10⟩ hz => ?_) (fun H10 ⟨hE10, s10⟩ => ?_)
      · obtain ⟨rfl, hy⟩ := hz
        obtain ⟨dd, g2, pp2⟩ := v2.get hy
        rw [List.getElem?_map] at g2
        obtain ⟨z, k2, rfl⟩ := Option.map_eq_some_iff.mp g2
        obtain ⟨b4, rfl, cc⟩ := pp2.step
        have mz := nf2 z (List.mem_of_getElem? k2)
        have s810 := s8.trans s10
        refine ⟨rfl, _, rfl, _, rfl, ix0 ((Tk.of s810).sqT cb) ⟨_, rfl, ix0 ((Tk.of s810).sqT cc) ⟨a, s.1, z.1, rfl, Dp.sm (s17.trans s810) _ hF, ok, ms, mz, fun H11 s11 => ?_⟩⟩⟩
        have et : (!apart F s.1 z.1) = (OF F).tc s.1 z.1 := (tc_eq ok _ _).symm
        refine ⟨_, rfl, ?_⟩
        obtain ⟨zs, eE, vE⟩ := id hE10
        have lE := vE.len
        rw [List.length_map] at lE
        have lq := List.length_filter_le (fun y : Str × Int => (OF F).tc s.1 y.1) (rest.take j)
        rw [List.length_take] at lq
        refine ite2 (fun h => ?_) (fun h => ?_) <;> rw [et] at h
        · refine ⟨_, rfl, zs, s11 _ _ eE, small1000 (by omega), ⟨_, upd_same, ?_⟩, same_put (s10.trans s11) hE⟩
          rw [take_snoc k2, List.filter_append, List.map_append, List.filter_cons_of_pos (by exact h)]
          have t4 : Tk H11 (upd H11 E (.lst (zs ++ [.ref b4]))) := Tk.refl.lst (s11 _ _ eE)
          exact (DpAll.tk ((Tk.of s11).trans t4) _ (flat_all_steps _) vE).app (.cons (Dp.of_step (s := z) (t4.sqT ((Tk.of (s810.trans s11)).sqT cc))) .nil)
        · refine ⟨⟨zs, s11 _ _ eE, ?_⟩, s10.trans s11⟩
          rw [take_snoc k2, List.filter_append, List.map_append, List.filter_cons_of_neg (by exact h), List.filter_nil, List.map_nil, List.append_nil]
          exact DpAll.tk (Tk.of s11) _ (flat_all_steps _) vE
      · rw [lx2, List.take_length] at hE10
        obtain ⟨zs, eE, vE⟩ := id hE10
        refine ⟨Nat.zero_le _, fun p0 h0 => upd_gen h0 fun H11 s11 e11 => ?_⟩
        have vE2 := DpAll.sm s11 _ vE
        refine ⟨.list ((rest.filter fun y : Str × Int => (OF F).tc s.1 y.1).map dStep), .list [], .lst (SqL.of (s11 _ _ eE)) vE2, .lst (SqL.of e11) .nil, sh_steps (fun y hy => ok.sgn _ (nf2 y (List.mem_filter.mp hy).1)), rfl, _, rfl, ?_⟩
        rw [ne_steps]
        have ef : (!(rest.filter fun y => (OF F).tc s.1 y.1).isEmpty) = rest.any fun y => (OF F).tc s.1 y.1 := by
          rw [Bool.eq_iff_iff, Bool.not_eq_true', List.any_eq_true, List.isEmpty_eq_false_iff, ne_eq, List.filter_eq_nil_iff]
          simp
        have s811 := s8.trans (s10.trans s11)
        rw [ef]
        refine ite2 (fun h => ?_) (fun h => ?_)
        · refine q1 ?_ _ (s17.trans s811)
          rw [eo]
          refine if_pos ?_
          unfold XM.tch
          exact List.any_eq_true.mpr ⟨s, List.mem_of_getElem? k1, h⟩
        · refine ⟨_, rfl, s811, ?_⟩
          rw [take_snoc k1, List.any_append, en, Bool.false_or]
          simpa using h
    · subst eσ
      rw [lx1, List.take_length] at en
      have en : XM.tch (OF F) more rest = false := en
      rw [en, if_neg Bool.false_ne_true] at eo
      refine ⟨_, rfl, _, rfl, _, rfl, .inl ⟨D1, _, rfl, SqL.of (s8 _ _ e1), fun z4 m4 => upd_gen m4 fun H9 s9 e9 => ?_⟩⟩
      have s79 := s8.trans s9
      refine catD (m := more) (Dp.sm ((((((s2.trans s3).trans s4).trans s5).trans s6).trans s7).trans s79) _ hc) (.tup (SqT.of e9) (DpAll.sm s79 _ v1)) (by omega) fun H10 c3 s10 hc3 => ?_
      have s710 := s79.trans s10
      refine ⟨_, rfl, .inl ⟨D2, _, rfl, SqL.of (s710 _ _ e2), fun z5 m5 => upd_gen m5 fun H11 s11 e11 => ?_⟩⟩
      have s711 := s710.trans s11
      refine catD (m := rest) (Dp.sm s11 _ hc3) (.tup (SqT.of e11) (DpAll.sm s711 _ v2)) (by rw [List.length_append]; omega) fun H12 c4 s12 hc4 => ?_
      obtain ⟨_, zs, ee, hzS, hzD⟩ := id hc4.steps
      cases ee
      refine ⟨a, c4, zs, _, rfl, Dp.sm ((s17.trans s711).trans s12) _ hF, ok, .inr hzS, hzD, fun s hs => (List.mem_append.mp hs).elim (fun hs => (List.mem_append.mp hs).elim (nc s) (nf1 s)) (nf2 s), (zc.app z1).app z2, by rw [List.length_append, List.length_append]; omega, fun H13 r3 s13 hr3 => q2 _ eo _ r3 (((s17.trans s711).trans s12).trans s13) hr3⟩
end
end XB
set_option Elab.async false
set_option linter.all false
set_option maxRecDepth 100000
set_option maxHeartbeats 4000000
namespace XB
open PySem PySem.Spec PyProof.Rows L2
/-! what a Pile shows -/
theorem sh_one {n : Str} (h : GoodName n) : SeqAt.shaped (.str n) = true := by
  show (PyData.canLay0 (.str n) && decide (PyData.depth (.str n) ≤ 64)) = true
  simp [PyData.canLay0, strOk_of h, PyData.depth]
theorem any_eqv_str {l : List (Str × Int)} {n : Str} : ((l.map fun s => PyData.str s.1).any fun y => PyData.eqv y (.str n)) = (l.map Prod.fst).contains n := by
  induction l with
  | nil => rfl
  | cons s l ih =>
    rw [List.map_cons, List.any_cons, ih, List.map_cons, List.contains_cons]
    congr 1
    show decide (s.1 = n) = (n == s.1)
    by_cases h : s.1 = n
    · rw [h]
      simp
    · rw [decide_eq_false h]
      exact (beq_eq_false_iff_ne.mpr fun q => h q.symm).symm
theorem any_eqv_non {l : List (Str × Int)} {d : PyData} (h : ∀ s, PyData.eqv (.str s) d = false) : ((l.map fun s => PyData.str s.1).any fun y => PyData.eqv y d) = false := by
  rw [List.any_eq_false]
  intro x hx
  obtain ⟨s, _, rfl⟩ := List.mem_map.mp hx
  rw [h]
  exact Bool.false_ne_true
theorem mem_ln {l : List (Str × Int)} {s : Str × Int} (h : s ∈ l) : s.2.natAbs ≤ XM.ln l := by
  induction l with
  | nil => cases h
  | cons x l ih =>
    have e : XM.ln (x :: l) = x.2.natAbs + XM.ln l := rfl
    rcases List.mem_cons.mp h with q | q
    · rw [q, e]
      omega
    · have := ih q
      omega
theorem ln_lpile {F : Fld} {l : List (Str × Int)} : XM.ln (lpile F l) ≤ XM.ln l := by
  unfold lpile
  rw [XM.ln_rev]
  exact XM.ln_act
theorem okd_bool (b : Bool) : Okd 0 0 (.bool b) := by cases b <;> exact okd_dec (by decide +kernel)
theorem okd_pieces {F : Fld} (ok : F.Ok) {l : List (Str × Int)} (hn : Names F l) (hb : XM.ln l ≤ 10 ^ 41) (hl : l.length ≤ 60) : (∀ d ∈ (lpile F l).map dStep, Okd 1 8 d) ∧ ((lpile F l).map dStep).length ≤ 60 := by
  refine ⟨fun d hd => ?_, ?_⟩
  · obtain ⟨s, hs, rfl⟩ := List.mem_map.mp hd
    refine okd_two (okd_str (good_pile ok hn s hs)) (okd_int ?_)
    have h1 := mem_ln hs
    have h2 := ln_lpile (F := F) (l := l)
    have h3 : 10 ^ 41 < 10 ^ 50 := by decide +kernel
    omega
  · rw [List.length_map]
    exact Nat.le_trans act_len1 hl
def bls (l : List Bool) : List PyData := l.map .bool
theorem DpAll.bls {K : PySem.W.Frag} {H : Hp} : ∀ l : List Bool, DpAll K H (l.map V.bl) (XB.bls l)
  | [] => .nil
  | b :: l => .cons (.bl b) (DpAll.bls l)
section
variable {P : Program} {w : World} {K : PySem.W.Frag} {mg : Str → Option Value} {base : Heap}
def spShows (K : PySem.W.Frag) (mg : Str → Option Value) : Sp := fun vs H Q _ => ∃ (p a s : Addr) (F : Fld) (l : List (Str × Int)), vs = [.ref p, .ref a, .ref s] ∧ PV K mg H p F (lpile F l) ∧ Dp K H (.ref a) (dField F) ∧ F.Ok ∧ Dp K H (.ref s) (dSteps l) ∧ Names F l ∧ XM.NZ l ∧ l.length ≤ 60 ∧ XM.ln l ≤ 10 ^ 41 ∧ ∀ H', Same H H' → Q (.bl true) H'
theorem c__law_shows (T : Tx K mg) : Cg P w K mg base CX0 5 "_law_shows" (spShows K mg) := by
  refine cg0 T.d__law_shows (ps := ["pile", "field", "steps"]) (fun _ _ _ _ _ _ us hl => match us, hl with | [_, _, _], _ => rfl) sc__law_shows (fun vs H Q E h => ?_) (fun f cdv A outer st H vs Q E hgu hr h => ?_)
  · obtain ⟨p, a, s, F, l, rfl, _⟩ := h
    rfl
  · obtain ⟨p, a, s, F, l, rfl, hP, hF, ok, hL, nl, zl, ll, bl, q⟩ := h
    have nd := sc__law_shows.nd
    refine ⟨_, (pss_cons (ps_set (i := 3) nd rfl (.inr rfl) (pe_k (c__law_least3 T F) hr (by decide) (by rfl) (pa_cons (pv 1) (pa_cons (pv 2) pa_nil))))
    (pss_cons (ps_set (i := 4) nd rfl (.inl rfl) (pe_lst (pa_cons (pe_ptO T.o_Pile (c_Pile_field T) (pv 0) hr (by decide) (E := E0) passL rfl) (pa_cons (pe_ptO T.o_Pile (c_Pile_steps T) (pv 0) hr (by decide) (E := E0) passL rfl) (pa_cons (pe_ptO T.o_Pile (c_Pile_length T) (pv 0) hr (by decide) (E := E0) passL rfl) (pa_cons (pe_callB (call_lenO (c_Pile_len T) hr (by decide) (E := E0) passL) (by rfl) T.b_len (by decide +kernel) (pa_cons (pv 0) pa_nil)) (pa_cons (pe_lc (own := [("k", 6)]) (g := (gName 6)) (tt := tYes) (by rfl) nd (pi_range1 (by rfl) T.b_range (pa_cons (pe_lenS (by rfl) T.b_len (pv 3)) pa_nil)) (blkOk_by (own := [("k", 6)]) (N := ["pile", "field", "steps", "least", "told_so", "due", "k", "name", "step"]) (sc := defScope s__law_shows) (by decide +kernel)) (fun _ _ _ _ _ => (pg_name (i := 6) nd rfl (by first | exact Or.inl rfl | exact Or.inr rfl))) (fun _ _ _ _ _ => pts_nil) (fun _ _ _ _ _ => (pe_ixOk (K := K) (mg := mg) rfl rfl (c_Pile_item T) hr (by decide) (E := E0) passL (pv 0) (pv 6)))) pa_nil)))))))
    (pss_cons (ps_set (i := 5) nd rfl (.inl rfl) (pe_lst (pa_cons (pv 1) (pa_cons (pv 3) (pa_cons (pe_k (c__law_length3 T F) hr (by decide) (by rfl) (pa_cons (pv 1) (pa_cons (pv 2) pa_nil))) (pa_cons (pe_lenS (by rfl) T.b_len (pv 3)) (pa_cons (pe_callTy call_list_of (by rfl) T.b_list (by decide +kernel) (pa_cons (pv 3) pa_nil)) pa_nil)))))))
    (pss_cons (ps_set (i := 4) nd rfl (.inl rfl) (pe_op op_cat (pe_op op_cat (pv 4) (pe_lc (own := [("name", 7)]) (g := (gName 7)) (tt := tYes) (by rfl) nd (pi_tup (pe_ix (ixk_tup (K := K) rfl) (pv 1) pe_int (fun _ _ => rfl))) (blkOk_by (own := [("name", 7)]) (N := ["pile", "field", "steps", "least", "told_so", "due", "k", "name", "step"]) (sc := defScope s__law_shows) (by decide +kernel)) (fun _ _ _ _ _ => (pg_name (i := 7) nd rfl (by first | exact Or.inl rfl | exact Or.inr rfl))) (fun _ _ _ _ _ => pts_nil) (fun _ _ _ _ _ => (pe_cmpR (op_inOk (K := K) (mg := mg) rfl rfl (c_Pile_in T) hr (by decide) (E := E0) passL) (pv 7) (pv 0) (by rfl))))) (pe_lst (pa_cons (pe_cmpR (op_inO (c_Pile_in T) hr (by decide) (E := E0) passL) pe_non (pv 0) (by rfl)) (pa_cons (pe_cmpR (op_inO (c_Pile_in T) hr (by decide) (E := E0) passL) (pe_tup (pa_cons pe_str pa_nil)) (pv 0) (by rfl)) (pa_cons (pe_cmpR (op_inO (c_Pile_in T) hr (by decide) (E := E0) passL) pe_int (pv 0) (by rfl)) pa_nil))))))
    (pss_one (ps_ret (pe_g (g__law_like T) hgu hr (by decide) (by rfl) (pa_cons (pv 4) (pa_cons (pe_op op_cat (pe_op op_cat (pv 5) (pe_lc (own := [("name", 7)]) (g := (gName 7)) (tt := tYes) (by rfl) nd (pi_tup (pe_ix (ixk_tup (K := K) rfl) (pv 1) pe_int (fun _ _ => rfl))) (blkOk_by (own := [("name", 7)]) (N := ["pile", "field", "steps", "least", "told_so", "due", "k", "name", "step"]) (sc := defScope s__law_shows) (by decide +kernel)) (fun _ _ _ _ _ => (pg_name (i := 7) nd rfl (by first | exact Or.inl rfl | exact Or.inr rfl))) (fun _ _ _ _ _ => pts_nil) (fun _ _ _ _ _ => (pe_cmpR (opk_in_seq (K := K) rfl) (pv 7) (pe_lc (own := [("step", 8)]) (g := (gName 8)) (tt := tYes) (by rfl) nd (pi_tupk (K := K) rfl (pv 3)) (blkOk_by (own := [("step", 8)]) (N := ["pile", "field", "steps", "least", "told_so", "due", "k", "name", "step"]) (sc := _) (by rfl)) (fun _ _ _ _ _ => (pg_name (i := 8) nd rfl (by first | exact Or.inl rfl | exact Or.inr rfl))) (fun _ _ _ _ _ => pts_nil) (fun _ _ _ _ _ => (pe_ix (ixk_tup (K := K) rfl) (pv 8) pe_int (fun _ _ => rfl)))) (by rfl))))) (pe_op op_rep (pe_lst (pa_cons pe_bl pa_nil)) pe_int)) pa_nil))))))))), ?_⟩
    --@
    obtain ⟨_, xl, ee, hlS, hlV⟩ := id hL.steps
    cases ee
    refine ⟨_, rfl, _, rfl, a, s, xl, l, rfl, hF, ok, .inr hlS, hlV, nl, zl, by omega, fun H1 r1 s1 h1 => ?_⟩
    obtain ⟨pf, ps, hA, hf, hs⟩ := id hP
    obtain ⟨fs, hI, _⟩ := id hA
    have lu : (lpile F l).length ≤ l.length := act_len1
    obtain ⟨_, xu, ee, huS, huV⟩ := id h1.steps
    cases ee
    obtain ⟨_, xs, ee, hsS, hsV⟩ := id hs.steps
    cases ee
    have lxu := huV.len
    rw [List.length_map] at lxu
    have lxs := hsV.len
    rw [List.length_map] at lxs
    refine ⟨_, rfl, p, fs, rfl, Ins.same hI s1, p, _, _, rfl, hA.same s1, _, rfl, p, fs, rfl, Ins.same hI s1, p, _, _, rfl, hA.same s1, _, rfl, p, fs, rfl, Ins.same hI s1, p, F, lpile F l, rfl, hP.same s1, by omega, fun H2 s2 => ?_⟩
    have s12 := s1.trans s2
    refine ⟨_, rfl, p, fs, rfl, Ins.same hI s12, p, ps, _, xs, rfl, hA.same s12, (Tk.of s12).sqT hsS, _, rfl, by omega, ?_⟩
    refine ⟨_, rfl, r1, xu, rfl, .inr ((Tk.of s2).sqT huS), ?_⟩
    refine ⟨_, rfl, by omega, by omega, fun D hD => ?_⟩
    refine lc_it walk_range (fun i H' => Row2 K H' D ((lpile F l).take i) ∧ Same H2 H') ⟨⟨[], upd_same, .nil⟩, same_upd hD⟩ (fun _ _ _ _ => trivial) (fun i x H3o H3 hi ⟨hD3, s3⟩ hy => ?_) (fun H3 ⟨hD3, s3⟩ => ?_)
    · obtain ⟨rfl, rfl⟩ := hy
      have e0 : ((fun i : Nat => V.int (0 + (i : Int))) i) = V.int (i : Int) := by
        show V.int (0 + (i : Int)) = _
        rw [Int.zero_add]
      rw [e0]
      have hi : i < xu.length := hi
      have hk : (lpile F l)[i]? = some (lpile F l)[i] := List.getElem?_eq_getElem (by omega)
      generalize (lpile F l)[i] = z at hk
      have s13 := s12.trans s3
      obtain ⟨ys, e3, v3⟩ := id hD3
      have l3 := v3.len
      rw [List.length_map, List.length_take] at l3
      refine ⟨rfl, yes_ ⟨_, rfl, _, rfl, p, fs, rfl, Ins.same hI s13, p, F, _, i, z, rfl, hP.same s13, hk, by omega, fun r hr => ⟨ys, e3, small1000 (by omega), ⟨_, upd_same, ?_⟩, same_put s3 hD⟩⟩⟩
      have t4 : Tk H3 (upd H3 D (.lst (ys ++ [.ref r]))) := Tk.refl.lst e3
      rw [take_snoc hk, List.map_append]
      exact (DpAll.tk t4 _ (flat_all_steps _) v3).app (.cons (Dp.tk t4 _ rfl hr) .nil)
    · have hD3 : Row2 K H3 D ((lpile F l).take xu.length) := hD3
      rw [lxu, List.take_length] at hD3
      have s13 := s12.trans s3
      obtain ⟨ys, eD, vD⟩ := id hD3
      refine ⟨(show 5 ≤ sizeLine by decide), fun T1 nT1 => upd_gen nT1 fun H4 s4 e4 => ?_⟩
      have s14 := s13.trans s4
      have s24 := s3.trans s4
      have DT : RowG K H4 T1 [dField F, dSteps (lpile F l), .int (lenOf (lpile F l)), .int ((lpile F l).length : Int), .list ((lpile F l).map dStep)] := ⟨_, e4, .cons (Dp.sm s14 _ hf) (.cons (Dp.sm s14 _ hs) (.cons (.int _) (.cons (by rw [lxs]; exact .int _) (.cons (.lst (SqL.of (s4 _ _ eD)) (DpAll.sm s4 _ vD)) .nil))))⟩
      refine ⟨_, rfl, _, rfl, _, rfl, _, rfl, a, s, xl, l, rfl, Dp.sm s14 _ hF, ok, .inr ((Tk.of s14).sqT hlS), DpAll.sm s14 _ hlV, nl, zl, by omega, fun H5 s5 => ?_⟩
      have s15 := s14.trans s5
      have s25 := s24.trans s5
      refine ⟨_, rfl, r1, xu, rfl, .inr ((Tk.of (s2.trans s25)).sqT huS), ?_⟩
      refine ⟨_, rfl, r1, xu, rfl, .inr ((Tk.of (s2.trans s25)).sqT huS), fun L nL => upd_gen nL fun H6 s6 e6 => ⟨(show 5 ≤ sizeLine by decide), fun T2 nT2 => upd_gen nT2 fun H7 s7 e7 => ?_⟩⟩
      have s57 := s6.trans s7
      have s17 := s15.trans s57
      have DT := DT.same (s5.trans s57)
      have DU : RowG K H7 T2 [dField F, dSteps (lpile F l), .int (lenOf (lpile F l)), .int ((lpile F l).length : Int), .list ((lpile F l).map dStep)] := ⟨_, e7, .cons (Dp.sm s17 _ hF) (.cons (Dp.sm ((s2.trans s25).trans s57) _ h1) (.cons (by
        have : lenOf (lpile F l) = (XM.ln (XM.act (OF F) l []) : Nat) := by
          unfold lpile
          rw [len_ln, XM.ln_rev]
        rw [this]
        exact .int _) (.cons (by rw [lxu]; exact .int _) (.cons (.lst (SqL.of (s7 _ _ e6)) (DpAll.sm (((s2.trans s25).trans s57)) _ huV)) .nil))))⟩
      generalize eB : [dField F, dSteps (lpile F l), .int (lenOf (lpile F l)), .int ((lpile F l).length : Int), .list ((lpile F l).map dStep)] = B at DT DU
      have lB : B.length = 5 := by rw [← eB]; rfl
      obtain ⟨_, n, pr, prs, e, hAf, hN, _, _⟩ := hF.field
      cases e
      have nu : Names F (lpile F l) := names_rev (names_act (r := []) nl fun _ h => nomatch h)
      have n6 := ok.n6
      -- the names in the Pile
      refine ⟨_, rfl, _, rfl, ix0 ((Tk.of s17).sqT hAf) ⟨n, rfl, ⟨_, (Tk.of s17).sqT hN⟩, fun D2 hD2 => ?_⟩⟩
      refine lc_it (walk_tup (xs := F.names.map V.str)) (fun i H' => H' D2 = some (.lst (((F.names.take i).map fun x => ((lpile F l).map Prod.fst).contains x).map V.bl)) ∧ Same H7 H') ⟨upd_same, same_upd hD2⟩ (fun _ _ _ ⟨_, s'⟩ => (Tk.of (s17.trans s')).sqT hN) (fun i x H8o H8 hi ⟨e8, s8⟩ hy => ?_) (fun H8 ⟨e8, s8⟩ => ?_)
      · obtain ⟨rfl, hx⟩ := hy
        rw [List.getElem?_map] at hx
        obtain ⟨nm, hnm, rfl⟩ := Option.map_eq_some_iff.mp hx
        have s18 := s17.trans s8
        have mn := List.mem_of_getElem? hnm
        have hi := (List.getElem?_eq_some_iff.mp hnm).1
        refine ⟨rfl, yes_ ⟨_, rfl, _, rfl, p, fs, rfl, Ins.same hI s18, p, .str nm, .str nm, F, lpile F l, rfl, hP.same s18, ok, nu, by omega, .str _, sh_one (ok.sgn _ mn), fun H9 s9 => ⟨_, rfl, _, s9 _ _ e8, ?_, ?_, same_put (s8.trans s9) hD2⟩⟩⟩
        · rw [List.length_map, List.length_map, List.length_take]
          exact small1000 (by omega)
        · rw [upd_same, any_eqv_str, take_snoc hnm, List.map_append, List.map_append]
          rfl
      rw [List.length_map, List.take_length] at e8
      have hG : RowG K H8 D2 (bls (F.names.map fun x => ((lpile F l).map Prod.fst).contains x)) := ⟨_, e8, DpAll.bls _⟩
      generalize ebs : bls (F.names.map fun x => ((lpile F l).map Prod.fst).contains x) = bs at hG
      have lbs : bs.length ≤ 6 := by
        rw [← ebs]
        unfold bls
        rw [List.length_map, List.length_map]
        exact n6
      have s18 := s17.trans s8
      refine rowCatG (DT.same s8) hG (by omega) fun H9 U s9 _ hU => ?_
      have s19 := s18.trans s9
      refine ⟨_, rfl, p, fs, rfl, Ins.same hI s19, p, .non, .none, F, lpile F l, rfl, hP.same s19, ok, nu, by omega, .non, rfl, fun H10 s10 => ⟨_, rfl, one_sz, fun z nz => upd_gen nz fun H11 s11 e11 => ?_⟩⟩
      have s1b := (s19.trans s10).trans s11
      refine ⟨_, rfl, p, fs, rfl, Ins.same hI s1b, p, .ref z, .tuple [.str "a"], F, lpile F l, rfl, hP.same s1b, ok, nu, by omega, .tup (SqT.of e11) (.cons (.str _) .nil), (by decide +kernel), fun H12 s12' => ⟨_, rfl, ?_⟩⟩
      have s1c := s1b.trans s12'
      refine ⟨_, rfl, p, fs, rfl, Ins.same hI s1c, p, .int 5, .int 5, F, lpile F l, rfl, hP.same s1c, ok, nu, by omega, .int _, rfl, fun H13 s13' => ⟨_, rfl, (show 3 ≤ sizeLine by decide), fun W nW => upd_gen nW fun H14 s14' e14 => ?_⟩⟩
      rw [any_eqv_non (fun _ => rfl), any_eqv_non (fun _ => rfl), any_eqv_non (fun _ => rfl)] at e14
      have s9e := (((s10.trans s11).trans s12').trans s13').trans s14'
      have hW : RowG K H14 W (bls [false, false, false]) := ⟨_, e14, DpAll.bls [false, false, false]⟩
      refine rowCatG (hU.same s9e) hW (by rw [List.length_append, lB]; show 5 + bs.length + 3 ≤ 9000; omega) fun H15 U2 s15' _ hU2 => ?_
      have s9f := s9e.trans s15'
      have s1f := s19.trans s9f
      have s8f := s9.trans s9f
      have DUf := DU.same (s8.trans s8f)
      refine ⟨_, rfl, _, rfl, _, rfl, ix0 ((Tk.of s1f).sqT hAf) ⟨n, rfl, ⟨_, (Tk.of s1f).sqT hN⟩, fun D3 hD3 => ?_⟩⟩
      refine lc_it (walk_tup (xs := F.names.map V.str)) (fun i H' => H' D3 = some (.lst (((F.names.take i).map fun x => ((lpile F l).map Prod.fst).contains x).map V.bl)) ∧ Same H15 H') ⟨upd_same, same_upd hD3⟩ (fun _ _ _ ⟨_, s'⟩ => (Tk.of (s1f.trans s')).sqT hN) (fun i x H16o H16 hi ⟨e16, s16⟩ hy => ?_) (fun H16 ⟨e16, s16⟩ => ?_)
      · obtain ⟨rfl, hx⟩ := hy
        rw [List.getElem?_map] at hx
        obtain ⟨nm, hnm, rfl⟩ := Option.map_eq_some_iff.mp hx
        have s1g := s1f.trans s16
        have s4g := (((s5.trans s57).trans s8).trans s8f).trans s16
        have huS := (Tk.of ((s2.trans s24).trans s4g)).sqT huS
        have huV := DpAll.sm ((s2.trans s24).trans s4g) _ huV
        refine ⟨rfl, yes_ ⟨_, rfl, _, rfl, r1, rfl, ⟨_, huS⟩, fun E0 hE0 => ?_⟩⟩
        refine lc_it (walk_tup (xs := xu)) (fun j H' => H' E0 = some (.lst ((((lpile F l).take j).map Prod.fst).map V.str)) ∧ Same H16 H') ⟨upd_same, same_upd hE0⟩ (fun _ _ _ ⟨_, s'⟩ => (Tk.of s').sqT huS) (fun j y H17o H17 hj ⟨e17, s17'⟩ hz => ?_) (fun H17 ⟨e17, s17'⟩ => ?_)
        · obtain ⟨rfl, hy⟩ := hz
          obtain ⟨dd, g2, pp2⟩ := huV.get hy
          rw [List.getElem?_map] at g2
          obtain ⟨z, k2, rfl⟩ := Option.map_eq_some_iff.mp g2
          obtain ⟨b4, rfl, cc⟩ := pp2.step
          refine ⟨rfl, yes_ ⟨_, rfl, ix0 ((Tk.of s17').sqT cc) ⟨_, e17, ?_, ?_, same_put s17' hE0⟩⟩⟩
          · rw [List.length_map, List.length_map, List.length_take]
            exact small1000 (by omega)
          · rw [upd_same, take_snoc k2, List.map_append, List.map_append]
            rfl
        rw [lxu, List.take_length] at e17
        refine ⟨E0, _, rfl, .inl (SqL.of e17), rfl, flat_strs _, ?_⟩
        rw [inV_strs]
        refine ⟨_, s17' _ _ e16, ?_, ?_, same_put (s16.trans s17') hD3⟩
        · rw [List.length_map, List.length_map, List.length_take]
          exact small1000 (by omega)
        · rw [upd_same, take_snoc hnm, List.map_append, List.map_append]
          rfl
      rw [List.length_map, List.take_length] at e16
      have hG2 : RowG K H16 D3 bs := ⟨_, e16, by rw [← ebs]; exact DpAll.bls _⟩
      refine rowCatG (DUf.same s16) hG2 (by omega) fun H17 U3 s17' _ hU3 => ?_
      refine ⟨one_sz, fun q1 m1 => upd_gen m1 fun H18 s18' e18 => ⟨q1, 3, _, rfl, rfl, e18, by decide, by decide, (by decide : 1 * 3 ≤ sizeLine), fun q2 m2 => upd_gen m2 fun H19 s19' e19 => ?_⟩⟩
      have hW2 : RowG K H19 q2 (bls [false, false, false]) := ⟨_, e19, DpAll.bls [false, false, false]⟩
      refine rowCatG (hU3.same (s18'.trans s19')) hW2 (by rw [List.length_append, lB]; show 5 + bs.length + 3 ≤ 9000; omega) fun H20 U4 s20 _ hU4 => ?_
      have sfin := (s16.trans s17').trans ((s18'.trans s19').trans s20)
      obtain ⟨zs1, ez1, vz1⟩ := hU2.same sfin
      obtain ⟨zs2, ez2, vz2⟩ := hU4
      refine ⟨_, _, .list (B ++ bs ++ bls [false, false, false]), rfl, .lst (SqL.of ez1) vz1, .lst (SqL.of ez2) vz2, ?_, q H20 (s1f.trans sfin)⟩
      obtain ⟨k1, k2⟩ := okd_pieces (F := F) ok nl bl ll
      have h3 : 10 ^ 41 < 10 ^ 50 := by decide +kernel
      have h4 := ln_lpile (F := F) (l := l)
      refine (okd_lst (j := 3) (n := 1546) (k := 20) (fun d hd => ?_) (by rw [List.length_append, List.length_append, lB]; show 5 + bs.length + 3 ≤ 20; omega)).sz (by decide) |>.mono (by decide)
      rw [List.mem_append, List.mem_append] at hd
      rcases hd with (hd | hd) | hd
      · rw [← eB] at hd
        simp only [List.mem_cons, List.not_mem_nil, or_false] at hd
        rcases hd with e | e | e | e | e <;> rw [e]
        · exact fld_okd ok
        · exact (okd_tup (k := 60) k1 k2).mono (by decide) (by decide)
        · refine (okd_int ?_).mono (by decide) (by decide)
          rw [len_ln]
          omega
        · refine (okd_int ?_).mono (by decide) (by decide)
          have : (((lpile F l).length : Int)).natAbs ≤ 60 := by omega
          exact Nat.lt_of_le_of_lt this (by decide +kernel)
        · exact (okd_lst (k := 60) k1 k2).mono (by decide) (by decide)
      · rw [← ebs] at hd
        obtain ⟨b, _, rfl⟩ := List.mem_map.mp hd
        exact (okd_bool b).mono (by decide) (by decide)
      · obtain ⟨b, _, rfl⟩ := List.mem_map.mp hd
        exact (okd_bool b).mono (by decide) (by decide)
end
end XB
set_option Elab.async false
set_option linter.all false
set_option maxRecDepth 100000
set_option maxHeartbeats 4000000
namespace XB
open PySem PySem.Spec PyProof.Rows L2
/-! whether the operators tell what is due -/
theorem names_lpile {F : Fld} {l : List (Str × Int)} (h : Names F l) : Names F (lpile F l) := names_rev (names_act (r := []) h fun _ h => nomatch h)
theorem names_app {F : Fld} {l m : List (Str × Int)} (h : Names F l) (g : Names F m) : Names F (l ++ m) := fun s hs => (List.mem_append.mp hs).elim (h s) (g s)
theorem lpile_app {F : Fld} {l m : List (Str × Int)} (zl : XM.NZ l) (zm : XM.NZ m) : lpile F (lpile F l ++ lpile F m) = lpile F (l ++ m) :=
  XM.pile_eq (O := OF F) (XM.eq_app (O := OF F) (u := lpile F l) (v := lpile F m) zl (XM.pile_nz zm) zm (XM.pile_act zl XM.n00) (XM.pile_act zm XM.n00))
theorem lpile_back {F : Fld} {l : List (Str × Int)} (zl : XM.NZ l) : lpile F (XM.back (lpile F l)) = lpile F (XM.back l) :=
  XM.pile_eq (O := OF F) (XM.act_back_eq (O := OF F) (XM.pile_nz zl) zl (XM.pile_act zl XM.n00) XM.n00)
theorem lenOf_lpile {F : Fld} {l : List (Str × Int)} : lenOf (lpile F l) = (XM.ln (XM.act (OF F) l []) : Nat) := by
  unfold lpile
  rw [len_ln, XM.ln_rev]
theorem far_lpile {F : Fld} {l m : List (Str × Int)} (zl : XM.NZ l) (zm : XM.NZ m) : XM.far (OF F) (lpile F l) (lpile F m) = XM.far (OF F) l m := XM.far_piles zl zm
theorem low_is {F : Fld} {l m : List (Str × Int)} (zl : XM.NZ l) (zm : XM.NZ m) : decide (lenOf (lpile F l) + (XM.far (OF F) (lpile F l) (lpile F m) : Nat) = lenOf (lpile F m)) = decide ((XM.ln (XM.act (OF F) l []) : Int) + (XM.far (OF F) l m : Nat) = (XM.ln (XM.act (OF F) m []) : Nat)) := by
  rw [lenOf_lpile, lenOf_lpile, far_lpile zl zm]
theorem low_same {F : Fld} {l : List (Str × Int)} (zl : XM.NZ l) : decide (lenOf (lpile F l) + (XM.far (OF F) (lpile F l) (lpile F l) : Nat) = lenOf (lpile F l)) = true := by
  rw [far_lpile zl zl, XM.far_self zl]
  exact decide_eq_true (by omega)
theorem low_prod {F : Fld} {l m : List (Str × Int)} (zl : XM.NZ l) (zm : XM.NZ m) : decide (lenOf (lpile F l) + (XM.far (OF F) (lpile F l) (lpile F m) : Nat) = lenOf (lpile F m)) = decide (lpile F l = XM.cmm (OF F) l m) := by
  rw [lenOf_lpile, lenOf_lpile, far_lpile zl zm, decide_eq_decide]
  refine Iff.trans ?_ (XM.low_cmm (O := OF F) zl zm)
  show _ ↔ XM.ln (XM.act (OF F) l []) + XM.far (OF F) l m = XM.ln (XM.act (OF F) m [])
  omega
theorem mid_law {F : Fld} {l m n : List (Str × Int)} (zl : XM.NZ l) (zm : XM.NZ m) (zn : XM.NZ n) : XM.mid (OF F) (lpile F l) (lpile F m) (lpile F n) = lpile F (l ++ XM.cmm (OF F) (lpile F (XM.back l ++ m)) (lpile F (XM.back l ++ n))) := by
  have zP := XM.pile_nz (O := OF F) zl
  have k : ∀ {m : List (Str × Int)}, XM.NZ m → XM.pile (OF F) (XM.back (lpile F l) ++ lpile F m) = lpile F (XM.back l ++ m) := fun {m} zm =>
    XM.pile_eq (O := OF F) (XM.eq_app (O := OF F) (u := XM.back (lpile F l)) (v := lpile F m) (XM.back_nz zl) (XM.pile_nz zm) zm (XM.act_back_eq (O := OF F) zP zl (XM.pile_act zl XM.n00) XM.n00) (XM.pile_act zm XM.n00))
  unfold XM.mid
  rw [k zm, k zn]
  have e : XM.cmm (OF F) (lpile F (XM.back l ++ m)) (lpile F (XM.back l ++ n)) = XM.cmn (OF F) (lpile F (XM.back l ++ m)) (lpile F (XM.back l ++ n)) := by
    have pp : ∀ {x : List (Str × Int)}, XM.NZ x → XM.pile (OF F) (lpile F x) = lpile F x := fun z => XM.pile_of (O := OF F) (XM.pile_nf z)
    unfold XM.cmm
    rw [pp ((XM.back_nz zl).app zm), pp ((XM.back_nz zl).app zn)]
  rw [e]
  have zc : XM.NZ (XM.cmn (OF F) (lpile F (XM.back l ++ m)) (lpile F (XM.back l ++ n))) := XM.cmn_nz (O := OF F) (XM.pile_nz ((XM.back_nz zl).app zm)) (XM.pile_nz ((XM.back_nz zl).app zn)) (XM.pile_gl ((XM.back_nz zl).app zm)) (XM.pile_pl ((XM.back_nz zl).app zn))
  exact XM.pile_eq (O := OF F) (XM.eq_app (O := OF F) (u := lpile F l) (v := _) zl zc zc (XM.pile_act zl XM.n00) rfl)
theorem eqv_bool (a b : Bool) : PyData.eqv (.bool a) (.bool b) = decide (a = b) := by cases a <;> cases b <;> rfl
theorem ln_lt {F : Fld} : ∀ {l : List (Str × Int)}, GoodAll F l → XM.ln l ≤ l.length * 10 ^ 30
  | [], _ => Nat.le_refl _
  | s :: l, h => by
    have h1 := (h s List.mem_cons_self).2
    have := ln_lt (l := l) fun x hx => h x (List.mem_cons_of_mem _ hx)
    have e : XM.ln (s :: l) = s.2.natAbs + XM.ln l := rfl
    obtain ⟨_, a, b⟩ := h1
    rw [e, List.length_cons, Nat.add_mul]
    omega
theorem lpile_of {F : Fld} {l : List (Str × Int)} (h : XM.NF (OF F) l.reverse) : lpile F l = l := XM.pile_of h
theorem ln_lpile2 {F : Fld} {l : List (Str × Int)} : XM.ln (XM.pile (OF F) l) ≤ XM.ln l := ln_lpile
/-- what both have in common, and what is over both: how great they are -/
theorem cmm_some {F : Fld} {l m : List (Str × Int)} (nl : Names F l) (nm : Names F m) (zl : XM.NZ l) (zm : XM.NZ m) : Names F (XM.cmm (OF F) l m) ∧ XM.NZ (XM.cmm (OF F) l m) ∧ lpile F (XM.cmm (OF F) l m) = XM.cmm (OF F) l m ∧ (XM.cmm (OF F) l m).length ≤ l.length ∧ XM.ln (XM.cmm (OF F) l m) ≤ XM.ln l := by
  have k := cmn_cb (F := F) (l := lpile F l) (m := lpile F m) (names_lpile nl) (names_lpile nm)
  have k1 : (lpile F l).length ≤ l.length := act_len1
  have e : lpile F (XM.cmm (OF F) l m) = XM.cmm (OF F) l m := lpile_of (XM.cmm_nf zl)
  refine ⟨k.1, XM.cmm_nz zl zm, e, Nat.le_trans k.2 k1, ?_⟩
  have h1 := (XM.cmm_cm (O := OF F) zl zm).1
  have h2 := XM.gl_le (O := OF F) (l := l)
  have h3 : XM.ln (XM.pile (OF F) (XM.cmm (OF F) l m)) = XM.gl (OF F) (XM.cmm (OF F) l m) := XM.pile_ln
  have e : XM.pile (OF F) (XM.cmm (OF F) l m) = XM.cmm (OF F) l m := e
  rw [e] at h3
  unfold XM.Low at h1
  omega
theorem ovr_some {F : Fld} {l m w : List (Str × Int)} (nl : Names F l) (nm : Names F m) (zl : XM.NZ l) (zm : XM.NZ m) (h : XM.ovr (OF F) (lpile F l) (lpile F m) = some w) : Names F w ∧ XM.NZ w ∧ lpile F w = w ∧ w.length ≤ l.length + (l.length + m.length) ∧ XM.ln w ≤ XM.ln l + (XM.ln l + XM.ln m) := by
  obtain ⟨c1, c2, _, c4, c5⟩ := cmm_some nl nm zl zm
  have hc : XM.cmn (OF F) (lpile F l) (lpile F m) = XM.cmm (OF F) l m := rfl
  unfold XM.ovr at h
  rw [hc] at h
  by_cases q : XM.tch (OF F) (XM.pile (OF F) (XM.back (XM.cmm (OF F) l m) ++ lpile F l)) (XM.pile (OF F) (XM.back (XM.cmm (OF F) l m) ++ lpile F m)) = true
  · rw [if_pos q] at h
    cases h
  rw [if_neg q] at h
  have h := Option.some.inj h
  have zP := XM.pile_nz (O := OF F) zl
  have zQ := XM.pile_nz (O := OF F) zm
  have zb := (XM.back_nz c2).app zQ
  have zz := zP.app (XM.pile_nz (O := OF F) zb)
  have n1 : Names F (XM.back (XM.cmm (OF F) l m) ++ lpile F m) := names_app (names_back c1) (names_lpile nm)
  have n2 : Names F (lpile F l ++ lpile F (XM.back (XM.cmm (OF F) l m) ++ lpile F m)) := names_app (names_lpile nl) (names_lpile n1)
  have e1 : w = lpile F (lpile F l ++ lpile F (XM.back (XM.cmm (OF F) l m) ++ lpile F m)) := h.symm
  rw [e1]
  refine ⟨names_lpile n2, XM.pile_nz zz, lpile_of (XM.pile_nf zz), ?_, ?_⟩
  · have k1 : (lpile F (lpile F l ++ lpile F (XM.back (XM.cmm (OF F) l m) ++ lpile F m))).length ≤ _ := act_len1
    have k2 : (lpile F (XM.back (XM.cmm (OF F) l m) ++ lpile F m)).length ≤ _ := act_len1
    have k3 : (lpile F l).length ≤ _ := act_len1
    have k4 : (lpile F m).length ≤ _ := act_len1
    rw [List.length_append] at k1 k2
    rw [len_back] at k2
    omega
  · have k1 := ln_lpile (F := F) (l := lpile F l ++ lpile F (XM.back (XM.cmm (OF F) l m) ++ lpile F m))
    have k2 := ln_lpile (F := F) (l := XM.back (XM.cmm (OF F) l m) ++ lpile F m)
    have k3 := ln_lpile (F := F) (l := l)
    have k4 := ln_lpile (F := F) (l := m)
    rw [XM.ln_app] at k1 k2
    rw [XM.ln_back] at k2
    omega
section
variable {K : PySem.W.Frag} {mg : Str → Option Value} {H : Hp} {F G : Fld} {x y : Addr} {u v : List (Str × Int)} {sp : Sp} {E : XK} {Q : VK}
theorem PV.ins (h : PV K mg H x F u) : ∃ fs, Ins mg "Pile" H x fs := by
  obtain ⟨_, _, ⟨fs, hI, _⟩, _⟩ := h
  exact ⟨fs, hI⟩
theorem o2_pv (hx : PV K mg H x F u) (hy : PV K mg H y G v) (h : sp [.ref x, .ref y] H Q E) : rO2 mg "Pile" sp E (.ref x) (.ref y) H Q := by
  obtain ⟨fs, h1⟩ := hx.ins
  obtain ⟨gs, h2⟩ := hy.ins
  exact ⟨x, fs, y, gs, rfl, rfl, h1, h2, h⟩
theorem inv_pv (hx : PV K mg H x F u) (h : sp [.ref x] H Q E) : rOInv mg "Pile" sp E (.ref x) H Q := by
  obtain ⟨fs, h1⟩ := hx.ins
  exact ⟨x, fs, rfl, h1, h⟩
theorem pt_pv {R : Prop} (hx : PV K mg H x F u) (h : R) : ∃ a fs, V.ref x = .ref a ∧ Ins mg "Pile" H a fs ∧ R := by
  obtain ⟨fs, h1⟩ := hx.ins
  exact ⟨x, fs, rfl, h1, h⟩
theorem mt_pv {R : Prop} (m : Str) (hx : PV K mg H x F u) (h1 : (m == ("_field" : Str)) = false) (h2 : (m == ("_steps" : Str)) = false) (h : R) : ∃ a fs, V.ref x = .ref a ∧ Ins mg "Pile" H a fs ∧ fs.lookup m = none ∧ R := by
  obtain ⟨_, _, ⟨fs, hI, _, _, n⟩, _⟩ := hx
  exact ⟨x, fs, rfl, hI, n m h1 h2, h⟩
theorem mk_pv {f p : Addr} {l : List (Str × Int)} {R : Addr → Hp → Prop} (hF : Dp K H (.ref f) (dField F)) (ok : F.Ok) (hL : Dp K H (.ref p) (dSteps l)) (g : GoodScript F l)
    (q : ∀ H' a, Same H H' → PV K mg H' a F (lpile F l) → R a H') :
    ∀ C, mg "Pile" = some (.ref C) → ∀ a dx, H a = none → H dx = none → dx ≠ a → spInit K mg [.ref a, .ref f, .ref p] (upd (upd H dx (.own a)) a (.ins C dx [])) (fun v H2 => v = .non ∧ R a H2) E := fun C hC a dx na nd ne => by
  have n2 : (upd H dx (.own a)) a = none := by
    rw [upd_ne ne.symm]
    exact na
  have s : Same H (upd (upd H dx (.own a)) a (.ins C dx [])) := (same_upd nd).trans (same_upd n2)
  refine ⟨F, a, dx, f, p, C, l, rfl, hC, upd_same, Dp.sm s _ hF, ok, Dp.sm s _ hL, g, fun H' r sm ha hd => ?_⟩
  have sH : Same H H' := fun b o e => sm b o (by
    have nb : b ≠ a := ne_of_none e na
    show (if b = a then none else _) = some o
    rw [if_neg nb]
    exact s b o e)
  exact ⟨rfl, q H' a sH ⟨f, r, ha, Dp.sm sH _ hF, hd⟩⟩
end
section
variable {P : Program} {w : World} {K : PySem.W.Frag} {mg : Str → Option Value} {base : Heap}
def spRight (K : PySem.W.Frag) : Sp := fun vs H Q _ => ∃ (a p r t : Addr) (F : Fld) (l m n : List (Str × Int)), vs = [.ref a, .ref p, .ref r, .ref t] ∧ Dp K H (.ref a) (dField F) ∧ F.Ok ∧ Dp K H (.ref p) (dSteps l) ∧ Dp K H (.ref r) (dSteps m) ∧ Dp K H (.ref t) (dSteps n) ∧ GoodAll F l ∧ GoodAll F m ∧ GoodAll F n ∧ l.length ≤ 6 ∧ m.length ≤ 6 ∧ n.length ≤ 6 ∧ ∀ H', Same H H' → Q (.bl true) H'
theorem c__law_right (T : Tx K mg) : Cg P w K mg base CX0 9 "_law_right" (spRight K) := by
  refine cg0 T.d__law_right (ps := ["field", "one", "other", "third"]) (fun _ _ _ _ _ _ us hl => match us, hl with | [_, _, _, _], _ => rfl) sc__law_right (fun vs H Q E h => ?_) (fun f cdv A outer st H vs Q E hgu hr h => ?_)
  · obtain ⟨a, p, r, t, F, l, m, n, rfl, _⟩ := h
    rfl
  · obtain ⟨a, p, r, t, F, l, m, n, rfl, hF, ok, hL, hM, hN, gl, gm, gn, ll, lm, ln, q⟩ := h
    have nd := sc__law_right.nd
    refine ⟨_, (pss_cons (ps_par3 (i := 4) (j := 5) (l := 6) rfl nd rfl rfl rfl (by decide) (by decide) (by decide) rfl rfl rfl (pa_cons (pe_mkO T.o_Pile (c_Pile_init T) hr (by decide) (by rfl) (E := E0) passL (pa_cons (pv 0) (pa_cons (pv 1) pa_nil))) (pa_cons (pe_mkO T.o_Pile (c_Pile_init T) hr (by decide) (by rfl) (E := E0) passL (pa_cons (pv 0) (pa_cons (pv 2) pa_nil))) (pa_cons (pe_mkO T.o_Pile (c_Pile_init T) hr (by decide) (by rfl) (E := E0) passL (pa_cons (pv 0) (pa_cons (pv 3) pa_nil))) pa_nil))) rfl)
    (pss_cons (ps_if (PW.pt (pw_or (pt_not (pt_val (pe_g (c__law_shows T) hgu hr (by decide) (by rfl) (pa_cons (pe_op (op_O2e .Mult (by rfl) T.o_Pile (c_Pile_mul T F) hr (by decide) (E := E0) passL) (pv 4) (pv 5)) (pa_cons (pv 0) (pa_cons (pe_op (op_catAk (K := K) rfl) (pv 1) (pv 2)) pa_nil)))))) (pw_or1 (pt_not (pt_val (pe_g (c__law_shows T) hgu hr (by decide) (by rfl) (pa_cons (pe_un (un_invO (c_Pile_invert T F) hr (by decide) (E := E0) passL) (pv 4)) (pa_cons (pv 0) (pa_cons (pe_k (c__law_back3 T) hr (by decide) (by rfl) (pa_cons (pv 1) pa_nil)) pa_nil))))))))) pss_never pss_nil)
    (pss_cons (ps_set (i := 7) nd rfl (.inl rfl) (pe_cmpR op_eq (pe_op op_add (pe_k (c__law_length3 T F) hr (by decide) (by rfl) (pa_cons (pv 0) (pa_cons (pv 1) pa_nil))) (pe_k (c__law_far T F) hr (by decide) (by rfl) (pa_cons (pv 0) (pa_cons (pv 1) (pa_cons (pv 2) pa_nil))))) (pe_k (c__law_length3 T F) hr (by decide) (by rfl) (pa_cons (pv 0) (pa_cons (pv 2) pa_nil))) (nomark _)))
    (pss_cons (ps_set (i := 8) nd rfl (.inl rfl) (pe_lst (pa_cons (pv 7) (pa_cons pe_bl (pa_cons (pe_cmpR (op_eqD hr.units) (pe_ptO T.o_Pile (c_Pile_steps T) (pv 4) hr (by decide) (E := E0) passL rfl) (pe_k (c__law_common T F) hr (by decide) (by rfl) (pa_cons (pv 0) (pa_cons (pv 1) (pa_cons (pe_op (op_catAk (K := K) rfl) (pv 1) (pv 2)) pa_nil)))) (nomark _)) pa_nil)))))
    (pss_cons (ps_if (pt_not (pt_val (pe_g (g__law_like T) hgu hr (by decide) (by rfl) (pa_cons (pe_lst (pa_cons (pe_mtO T.o_Pile (c_Pile_is_lower T F) (pv 4) hr (by decide) (E := E0) passL (pa_cons (pv 5) pa_nil)) (pa_cons (pe_mtO T.o_Pile (c_Pile_is_lower T F) (pv 4) hr (by decide) (E := E0) passL (pa_cons (pv 4) pa_nil)) (pa_cons (pe_mtO T.o_Pile (c_Pile_is_lower T F) (pv 4) hr (by decide) (E := E0) passL (pa_cons (pe_op (op_O2e .Mult (by rfl) T.o_Pile (c_Pile_mul T F) hr (by decide) (E := E0) passL) (pv 4) (pv 5)) pa_nil)) pa_nil)))) (pa_cons (pv 8) pa_nil))))) pss_never pss_nil)
    (pss_cons (ps_par (i := 9) (j := 10) rfl nd rfl rfl (by decide) rfl rfl (pa_cons (pe_k (c__law_common T F) hr (by decide) (by rfl) (pa_cons (pv 0) (pa_cons (pv 1) (pa_cons (pv 2) pa_nil)))) (pa_cons (pe_k (c__law_over T F) hr (by decide) (by rfl) (pa_cons (pv 0) (pa_cons (pv 1) (pa_cons (pv 2) pa_nil)))) pa_nil)) rfl)
    (pss_cons (ps_set (i := 11) nd rfl (.inl rfl) (pe_mtO T.o_Pile (c_Pile_over_both T F) (pv 4) hr (by decide) (E := E0) passL (pa_cons (pv 5) pa_nil)))
    (C8.pss_cut (ps_if (PW.pt (pw_or (pt_not (pt_val (pe_g (c__law_shows T) hgu hr (by decide) (by rfl) (pa_cons (pe_op (op_O2e .BitAnd (by rfl) T.o_Pile (c_Pile_and T F) hr (by decide) (E := E0) passL) (pv 4) (pv 5)) (pa_cons (pv 0) (pa_cons (pv 9) pa_nil)))))) (pw_or1 (pt_cmpR op_ne (pe_cmpR op_isN (pv 11) pe_non (nomark _)) (pe_cmpR op_isN (pv 10) pe_non (nomark _)) (nomark _))))) pss_never pss_nil)
    (C8.pss_cut (ps_if (PW.pt (pw_and (pt_cmpR op_notN (pv 10) pe_non (nomark _)) (pw_and1 (pt_not (pt_val (pe_g (c__law_shows T) hgu hr (by decide) (by rfl) (pa_cons (pv 11) (pa_cons (pv 0) (pa_cons (pv 10) pa_nil))))))))) pss_never pss_nil)
    (pss_cons (ps_if (pt_cmpR op_ne (pe_mtO T.o_Pile (c_Pile_distance T F) (pv 4) hr (by decide) (E := E0) passL (pa_cons (pv 5) pa_nil)) (pe_k (c__law_far T F) hr (by decide) (by rfl) (pa_cons (pv 0) (pa_cons (pv 1) (pa_cons (pv 2) pa_nil)))) (nomark _)) pss_never pss_nil)
    (pss_cons (ps_set (i := 12) nd rfl (.inl rfl) (pe_lst (pa_cons (pe_k (c__law_least3 T F) hr (by decide) (by rfl) (pa_cons (pv 0) (pa_cons (pe_op (op_catAk (K := K) rfl) (pe_k (c__law_back3 T) hr (by decide) (by rfl) (pa_cons (pv 1) pa_nil)) (pv 2)) pa_nil))) (pa_cons (pe_k (c__law_least3 T F) hr (by decide) (by rfl) (pa_cons (pv 0) (pa_cons (pe_op (op_catAk (K := K) rfl) (pe_k (c__law_back3 T) hr (by decide) (by rfl) (pa_cons (pv 1) pa_nil)) (pv 3)) pa_nil))) pa_nil))))
    (pss_cons (ps_set (i := 9) nd rfl (.inl rfl) (pe_op (op_catAk (K := K) rfl) (pv 1) (pe_k (c__law_common T F) hr (by decide) (by rfl) (pa_cons (pv 0) (pa_cons (pe_ix (ixk_list (K := K) rfl) (pv 12) pe_int (fun _ _ => rfl)) (pa_cons (pe_ix (ixk_list (K := K) rfl) (pv 12) pe_int (fun _ _ => rfl)) pa_nil))))))
    (pss_cons (ps_if (pt_not (pt_val (pe_g (c__law_shows T) hgu hr (by decide) (by rfl) (pa_cons (pe_mtO T.o_Pile (c_Pile_middle T F) (pv 4) hr (by decide) (E := E0) passL (pa_cons (pv 5) (pa_cons (pv 6) pa_nil))) (pa_cons (pv 0) (pa_cons (pv 9) pa_nil)))))) pss_never pss_nil)
    (pss_one (ps_ret (pe_and (pe_g (c__law_shows T) hgu hr (by decide) (by rfl) (pa_cons (pv 4) (pa_cons (pv 0) (pa_cons (pv 1) pa_nil)))) (pe_and (pe_g (c__law_shows T) hgu hr (by decide) (by rfl) (pa_cons (pv 5) (pa_cons (pv 0) (pa_cons (pv 2) pa_nil)))) (pe_one (pe_g (c__law_shows T) hgu hr (by decide) (by rfl) (pa_cons (pv 6) (pa_cons (pv 0) (pa_cons (pv 3) pa_nil)))))))))))))))))))))), ?_⟩
    --@
    have zl := gl.nz
    have zm := gm.nz
    have zn := gn.nz
    have nl := gl.names
    have nm := gm.names
    have nn := gn.names
    have pl := names_lpile (F := F) nl
    have pm := names_lpile (F := F) nm
    have pn := names_lpile (F := F) nn
    have kl : (lpile F l).length ≤ l.length := act_len1
    have km : (lpile F m).length ≤ m.length := act_len1
    have kn : (lpile F n).length ≤ n.length := act_len1
    have big : 100 * 10 ^ 30 ≤ 10 ^ 40 := by decide +kernel
    have big2 : 10 ^ 40 ≤ 10 ^ 41 := by decide +kernel
    have bd : ∀ {x : List (Str × Int)}, GoodAll F x → x.length ≤ 100 → XM.ln x ≤ 10 ^ 40 := fun {x} g h => Nat.le_trans (ln_lt g) (Nat.le_trans (Nat.mul_le_mul_right _ h) big)
    refine ⟨_, rfl, _, rfl, mk_pv hF ok hL ⟨by omega, gl⟩ fun H1 x s1 hx => ⟨_, rfl, _, rfl, mk_pv (Dp.sm s1 _ hF) ok (Dp.sm s1 _ hM) ⟨by omega, gm⟩ fun H2 y s2 hy => ⟨_, rfl, _, rfl, mk_pv (Dp.sm (s1.trans s2) _ hF) ok (Dp.sm (s1.trans s2) _ hN) ⟨by omega, gn⟩ fun H3 z s3 hz => ⟨_, _, _, rfl, ?_⟩⟩⟩⟩
    have s13 := (s1.trans s2).trans s3
    have hx := hx.same (s2.trans s3)
    have hy := hy.same s3
    have hF := Dp.sm s13 _ hF
    have hL := Dp.sm s13 _ hL
    have hM := Dp.sm s13 _ hM
    have hN := Dp.sm s13 _ hN
    have q : ∀ H', Same H3 H' → Q (.bl true) H' := fun H' s => q H' (s13.trans s)
    clear s13 s1 s2 s3
    -- product, taking back
    refine ⟨_, rfl, _, rfl, o2_pv hx hy ⟨x, y, _, _, rfl, hx, hy, ok, pl, pm, by omega, fun H4 c s4 hc => ?_⟩⟩
    rw [show (XM.act (OF F) (lpile F l ++ lpile F m) []).reverse = lpile F (l ++ m) from lpile_app zl zm] at hc
    refine ⟨_, rfl, _, rfl, _, rfl, catD (Dp.sm s4 _ hL) (Dp.sm s4 _ hM) (by omega) fun H5 d s5 hd => ?_⟩
    have s35 := s4.trans s5
    refine ⟨c, a, d, F, l ++ m, rfl, hc.same s5, Dp.sm s35 _ hF, ok, hd, names_app nl nm, zl.app zm, by rw [List.length_append]; omega, Nat.le_trans (bd (gl.app gm) (by rw [List.length_append]; omega)) big2, fun H6 s6 => ⟨_, rfl, iteF ?_⟩⟩
    have s36 := s35.trans s6
    refine ⟨_, rfl, inv_pv (hx.same s36) ⟨x, _, rfl, hx.same s36, ok, pl, by omega, fun H7 c2 s7 hc2 => ?_⟩⟩
    rw [show (XM.act (OF F) (XM.back (lpile F l)) []).reverse = lpile F (XM.back l) from lpile_back zl] at hc2
    have s37 := s36.trans s7
    refine ⟨_, rfl, _, rfl, p, l, rfl, Dp.sm s37 _ hL, by omega, fun H8 d2 s8 hd2 => ?_⟩
    have s38 := s37.trans s8
    refine ⟨c2, a, d2, F, XM.back l, rfl, hc2.same s8, Dp.sm s38 _ hF, ok, hd2, names_back nl, XM.back_nz zl, by rw [len_back]; omega, Nat.le_trans (bd (good_back gl) (by rw [len_back]; omega)) big2, fun H9 s9 => ⟨_, rfl, iteF ?_⟩⟩
    have s39 := s38.trans s9
    obtain ⟨_, xl, ee, hlS, hlV⟩ := id (Dp.sm s39 _ hL).steps
    cases ee
    refine ⟨_, rfl, _, rfl, a, p, xl, l, rfl, Dp.sm s39 _ hF, ok, .inr hlS, hlV, nl, zl, by omega, fun H10 s10 => ?_⟩
    have s310 := s39.trans s10
    refine ⟨_, rfl, _, rfl, _, rfl, a, p, r, l, m, rfl, Dp.sm s310 _ hF, ok, Dp.sm s310 _ hL, Dp.sm s310 _ hM, nl, nm, zl, zm, by omega, fun H11 s11 => ?_⟩
    have s311 := s310.trans s11
    obtain ⟨_, xm, ee, hmS, hmV⟩ := id (Dp.sm s311 _ hM).steps
    cases ee
    refine ⟨_, _, rfl, rfl, _, rfl, _, rfl, a, r, xm, m, rfl, Dp.sm s311 _ hF, ok, .inr hmS, hmV, nm, zm, by omega, fun H12 s12 => ⟨rfl, ?_⟩⟩
    have s312 := s311.trans s12
    have e7 : decide (V.int ((XM.ln (XM.act (OF F) l []) : Nat) + (XM.far (OF F) l m : Nat)) = V.int (XM.ln (XM.act (OF F) m []) : Nat)) = decide (lenOf (lpile F l) + (XM.far (OF F) (lpile F l) (lpile F m) : Nat) = lenOf (lpile F m)) := by
      rw [low_is zl zm]
      exact decide_eq_decide.mpr ⟨fun h => by injection h, fun h => by rw [h]⟩
    rw [e7]
    generalize eb1 : decide (lenOf (lpile F l) + (XM.far (OF F) (lpile F l) (lpile F m) : Nat) = lenOf (lpile F m)) = b1
    -- what is due
    obtain ⟨f1, st1, hA1, hf1, hst1⟩ := id hx
    refine ⟨_, rfl, _, rfl, pt_pv (hx.same s312) ⟨x, _, _, rfl, hA1.same s312, ?_⟩⟩
    refine ⟨_, rfl, _, rfl, _, rfl, _, rfl, catD (Dp.sm s312 _ hL) (Dp.sm s312 _ hM) (by omega) fun H13 d3 s13 hd3 => ?_⟩
    have s313 := s312.trans s13
    refine ⟨a, p, d3, l, l ++ m, rfl, Dp.sm s313 _ hF, ok, Dp.sm s313 _ hL, hd3, nl, names_app nl nm, zl, zl.app zm, by rw [List.length_append]; omega, bd gl (by omega), bd (gl.app gm) (by rw [List.length_append]; omega), fun H14 cq s14 hcq => ?_⟩
    have s314 := s313.trans s14
    have nc1 : Names F (XM.cmm (OF F) l (l ++ m)) := (cmn_cb (F := F) pl (names_lpile (names_app nl nm))).1
    refine ⟨_, _, Dp.sm s314 _ hst1, hcq, sh_dsteps (good_pile ok nl), sh_dsteps (fun s hs => ok.sgn _ (nc1 s hs)), ?_⟩
    rw [eqv_steps, ← low_prod zl (zl.app zm)]
    generalize eb2 : decide (lenOf (lpile F l) + (XM.far (OF F) (lpile F l) (lpile F (l ++ m)) : Nat) = lenOf (lpile F (l ++ m))) = b2
    refine ⟨(show 3 ≤ sizeLine by decide), fun D nD => upd_gen nD fun H15 s15 e15 => ?_⟩
    have s315 := s314.trans s15
    have hx15 := hx.same s315
    have hy15 := hy.same s315
    refine ⟨_, rfl, mt_pv "is_lower" hx15 (by decide) (by decide) ⟨_, rfl, x, y, _, _, rfl, hx15, hy15, ok, pl, pm, by omega, fun H16 s16 => ?_⟩⟩
    rw [eb1]
    have hx16 := hx15.same s16
    refine ⟨_, rfl, mt_pv "is_lower" hx16 (by decide) (by decide) ⟨_, rfl, x, x, _, _, rfl, hx16, hx16, ok, pl, pl, by omega, fun H17 s17 => ?_⟩⟩
    rw [low_same zl]
    have hx17 := hx16.same s17
    have hy17 := hy15.same (s16.trans s17)
    refine ⟨_, rfl, mt_pv "is_lower" hx17 (by decide) (by decide) ⟨_, rfl, _, rfl, o2_pv hx17 hy17 ⟨x, y, _, _, rfl, hx17, hy17, ok, pl, pm, by omega, fun H18 c3 s18 hc3 => ?_⟩⟩⟩
    rw [show (XM.act (OF F) (lpile F l ++ lpile F m) []).reverse = lpile F (l ++ m) from lpile_app zl zm] at hc3
    have kc : (lpile F (l ++ m)).length ≤ (l ++ m).length := act_len1
    rw [List.length_append] at kc
    refine ⟨x, c3, _, _, rfl, hx17.same s18, hc3, ok, pl, names_lpile (names_app nl nm), by omega, fun H19 s19 => ?_⟩
    rw [eb2]
    refine ⟨(show 3 ≤ sizeLine by decide), fun D2 nD2 => upd_gen nD2 fun H20 s20 e20 => ?_⟩
    have s1520 := (((s16.trans s17).trans s18).trans s19).trans s20
    refine ⟨_, rfl, _, _, .list (bls [b1, true, b2]), rfl, .lst (SqL.of e20) (DpAll.bls [b1, true, b2]), .lst (SqL.of (s1520 _ _ e15)) (DpAll.bls [b1, true, b2]), ?_, ⟨_, rfl, iteF ?_⟩⟩
    · exact ((okd_lst (k := 3) (j := 0) (n := 0) (ds := bls [b1, true, b2]) (fun d hd => by
        obtain ⟨b, _, rfl⟩ := List.mem_map.mp hd
        exact okd_bool b) (Nat.le_refl 3)).sz (by decide)).mono (by decide)
    have s320 := s315.trans s1520
    clear e15 e20
    refine ⟨_, rfl, _, rfl, _, rfl, a, p, r, l, m, rfl, Dp.sm s320 _ hF, ok, Dp.sm s320 _ hL, Dp.sm s320 _ hM, nl, nm, zl, zm, by omega, bd gl (by omega), bd gm (by omega), fun H21 part s21 hpart => ?_⟩
    have s321 := s320.trans s21
    refine by_q (t := tCall (spOverL K F) [] E0 (tCons (tVar 0) (tCons (tVar 1) (tCons (tVar 2) tNil)))) (fun v H' => Same H21 H' ∧ ((XM.ovr (OF F) (lpile F l) (lpile F m) = none ∧ v = .non) ∨ ∃ z o, XM.ovr (OF F) (lpile F l) (lpile F m) = some z ∧ v = .ref o ∧ Dp K H' (.ref o) (dSteps z))) (fun Qx hQ => ?_) (fun v H22 ⟨s22, hv⟩ => ?_)
    · exact ⟨_, rfl, _, rfl, _, rfl, a, p, r, l, m, rfl, Dp.sm s321 _ hF, ok, Dp.sm s321 _ hL, Dp.sm s321 _ hM, nl, nm, zl, zm, by omega, bd gl (by omega), bd gm (by omega), fun e0 H' s' => hQ _ _ ⟨s', .inl ⟨e0, rfl⟩⟩, fun z e0 H' o s' ho => hQ _ _ ⟨s', .inr ⟨z, o, e0, rfl, ho⟩⟩⟩
    have s322 := s321.trans s22
    have hx22 := hx.same s322
    have hy22 := hy.same s322
    refine ⟨_, _, rfl, ?_⟩
    refine by_q (t := tMtO mg "Pile" "over_both" (spOverP K mg F) E0 (tVar 4) (tCons (tVar 5) tNil)) (fun u H' => Same H22 H' ∧ ((XM.ovr (OF F) (lpile F l) (lpile F m) = none ∧ u = .non) ∨ ∃ z o, XM.ovr (OF F) (lpile F l) (lpile F m) = some z ∧ u = .ref o ∧ PV K mg H' o F z)) (fun Qx hQ => ?_) (fun u H23 ⟨s23, hu⟩ => ?_)
    · refine ⟨_, rfl, mt_pv "over_both" hx22 (by decide) (by decide) ⟨_, rfl, x, y, _, _, rfl, hx22, hy22, ok, pl, pm, by omega, by omega, fun e0 H' s' => hQ _ _ ⟨s', .inl ⟨e0, rfl⟩⟩, fun z e0 => ⟨?_, fun H' o s' ho => hQ _ _ ⟨s', .inr ⟨z, o, e0, rfl, ho⟩⟩⟩⟩⟩
      have := (ovr_some nl nm zl zm e0).2.2.2.1
      omega
    have s323 := s322.trans s23
    obtain ⟨c1, c2, c3e, c4, c5⟩ := cmm_some nl nm zl zm
    have hx23 := hx.same s323
    have hy23 := hy.same s323
    have hvu : (v = .non ∧ u = .non) ∨ ∃ w o c, v = .ref o ∧ u = .ref c ∧ XM.ovr (OF F) (lpile F l) (lpile F m) = some w ∧ Dp K H23 (.ref o) (dSteps w) ∧ PV K mg H23 c F w := by
      rcases hv with ⟨e0, ev⟩ | ⟨w, o, e0, ev, ho⟩ <;> rcases hu with ⟨e1, eu⟩ | ⟨w', c, e1, eu, hc⟩
      · exact .inl ⟨ev, eu⟩
      · rw [e0] at e1
        cases e1
      · rw [e0] at e1
        cases e1
      · rw [e0] at e1
        cases e1
        exact .inr ⟨w, o, c, ev, eu, e0, Dp.sm s23 _ ho, hc⟩
    clear hv hu
    refine ⟨fun σ H' => σ = [some (.ref a), some (.ref p), some (.ref r), some (.ref t), some (.ref x), some (.ref y), some (.ref z), some (.bl b1), some (.ref D), some (.ref part), some v, some u, none] ∧ Same H23 H', ?_, ?_⟩
    · refine ⟨_, rfl, _, rfl, o2_pv hx23 hy23 ⟨x, y, _, _, rfl, hx23, hy23, ok, pl, pm, by omega, by omega, Nat.le_trans c4 (by omega), fun H24 c s24 hc => ?_⟩⟩
      have hc : PV K mg H24 c F (lpile F (XM.cmm (OF F) l m)) := by
        rw [c3e]
        exact hc
      have s324 := s323.trans s24
      refine ⟨_, rfl, _, rfl, c, a, part, F, XM.cmm (OF F) l m, rfl, hc, Dp.sm s324 _ hF, ok, Dp.sm ((s22.trans s23).trans s24) _ hpart, c1, c2, by omega, Nat.le_trans c5 (Nat.le_trans (bd gl (by omega)) big2), fun H25 s25 => ⟨_, rfl, iteF ?_⟩⟩
      have e2 : decide (u = V.non) = decide (v = V.non) := by
        rcases hvu with ⟨h1, h2⟩ | ⟨w, o, c, h1, h2, _⟩ <;> rw [h1, h2] <;> rfl
      refine ⟨_, rfl, rfl, _, rfl, rfl, ?_⟩
      rw [e2]
      exact ⟨rfl, _, rfl, ite2 (fun h => absurd h (by simp)) (fun _ => ⟨rfl, s24.trans s25⟩)⟩
    · rintro σ H24 ⟨rfl, s24⟩
      have s324 := s323.trans s24
      refine ⟨fun σ H' => σ = [some (.ref a), some (.ref p), some (.ref r), some (.ref t), some (.ref x), some (.ref y), some (.ref z), some (.bl b1), some (.ref D), some (.ref part), some v, some u, none] ∧ Same H24 H', ?_, ?_⟩
      · rcases hvu with ⟨rfl, rfl⟩ | ⟨w, o, c, rfl, rfl, e0, ho, hc⟩
        · exact ⟨_, rfl, rfl, _, rfl, iteF (iteF ⟨rfl, fun _ _ h => h⟩)⟩
        · obtain ⟨w1, w2, w3, w4, w5⟩ := ovr_some nl nm zl zm e0
          have hc : PV K mg H23 c F (lpile F w) := by
            rw [w3]
            exact hc
          refine ⟨_, rfl, rfl, _, rfl, iteT ⟨_, rfl, _, rfl, _, rfl, c, a, o, F, w, rfl, hc.same s24, Dp.sm s324 _ hF, ok, Dp.sm s24 _ ho, w1, w2, by omega, ?_, fun H25 s25 => ⟨_, rfl, iteF ⟨rfl, s25⟩⟩⟩⟩
          have b1 := ln_lt gl
          have b2 := ln_lt gm
          have : l.length * 10 ^ 30 ≤ 6 * 10 ^ 30 := Nat.mul_le_mul_right _ ll
          have : m.length * 10 ^ 30 ≤ 6 * 10 ^ 30 := Nat.mul_le_mul_right _ lm
          have : 18 * 10 ^ 30 ≤ 10 ^ 41 := by decide +kernel
          omega
      rintro σ H25 ⟨rfl, s25⟩
      have s325 := s324.trans s25
      have hx25 := hx.same s325
      have hy25 := hy.same s325
      refine ⟨_, rfl, mt_pv "distance" hx25 (by decide) (by decide) ⟨_, rfl, x, y, _, _, rfl, hx25, hy25, ok, pl, pm, by omega, fun H26 s26 => ?_⟩⟩
      have s326 := s325.trans s26
      refine ⟨_, rfl, _, rfl, _, rfl, a, p, r, l, m, rfl, Dp.sm s326 _ hF, ok, Dp.sm s326 _ hL, Dp.sm s326 _ hM, nl, nm, zl, zm, by omega, fun H27 s27 => ?_⟩
      rw [far_lpile zl zm]
      refine ⟨rfl, _, rfl, ite2 (fun h => absurd h (by simp)) (fun _ => ?_)⟩
      have s327 := s326.trans s27
      have zb := XM.back_nz zl
      have nb := names_back nl
      have lb : (XM.back l).length = l.length := len_back
      refine ⟨_, rfl, _, rfl, p, l, rfl, Dp.sm s327 _ hL, by omega, fun H28 k1 s28 hk1 => ⟨_, rfl, catD hk1 (Dp.sm (s327.trans s28) _ hM) (by omega) fun H29 d1 s29 hd1 => ?_⟩⟩
      have s329 := (s327.trans s28).trans s29
      obtain ⟨_, x1, ee, hx1S, hx1V⟩ := id hd1.steps
      cases ee
      refine ⟨a, d1, x1, XM.back l ++ m, rfl, Dp.sm s329 _ hF, ok, .inr hx1S, hx1V, names_app nb nm, zb.app zm, by rw [List.length_append]; omega, fun H30 A1 s30 hA1 => ?_⟩
      have s330 := s329.trans s30
      refine ⟨_, rfl, _, rfl, p, l, rfl, Dp.sm s330 _ hL, by omega, fun H31 k2 s31 hk2 => ⟨_, rfl, catD hk2 (Dp.sm (s330.trans s31) _ hN) (by omega) fun H32 d2 s32 hd2 => ?_⟩⟩
      have s332 := (s330.trans s31).trans s32
      obtain ⟨_, x2, ee, hx2S, hx2V⟩ := id hd2.steps
      cases ee
      refine ⟨a, d2, x2, XM.back l ++ n, rfl, Dp.sm s332 _ hF, ok, .inr hx2S, hx2V, names_app nb nn, zb.app zn, by rw [List.length_append]; omega, fun H33 A2 s33 hA2 => ⟨two_sz, fun S nS => upd_gen nS fun H34 s34 e34 => ?_⟩⟩
      have s334 := (s332.trans s33).trans s34
      have hA1 := Dp.sm (((s31.trans s32).trans s33).trans s34) _ hA1
      have hA2 := Dp.sm s34 _ hA2
      have k1 : (lpile F (XM.back l ++ m)).length ≤ (XM.back l ++ m).length := act_len1
      have k2 : (lpile F (XM.back l ++ n)).length ≤ (XM.back l ++ n).length := act_len1
      rw [List.length_append] at k1 k2
      have n1 := names_lpile (F := F) (names_app nb nm)
      have n2 := names_lpile (F := F) (names_app nb nn)
      have z1 : XM.NZ (lpile F (XM.back l ++ m)) := XM.pile_nz (zb.app zm)
      have z2 : XM.NZ (lpile F (XM.back l ++ n)) := XM.pile_nz (zb.app zn)
      have l1 := ln_lpile (F := F) (l := XM.back l ++ m)
      have l2 := ln_lpile (F := F) (l := XM.back l ++ n)
      have b1 := bd ((good_back gl).app gm) (by rw [List.length_append]; omega)
      have b2 := bd ((good_back gl).app gn) (by rw [List.length_append]; omega)
      obtain ⟨g1, g2, g3, g4, g5⟩ := cmm_some n1 n2 z1 z2
      refine ⟨_, rfl, _, rfl, _, rfl, ix0L e34 ⟨_, rfl, S, _, 1, .ref A2, rfl, rfl, SqL.of e34, at_one, a, A1, A2, _, _, rfl, Dp.sm s334 _ hF, ok, hA1, hA2, n1, n2, z1, z2, by omega, by omega, by omega, fun H35 cq s35 hcq => ?_⟩⟩
      have s335 := s334.trans s35
      refine catD (Dp.sm s335 _ hL) hcq (by omega) fun H36 pt s36 hpt => ?_
      have s336 := s335.trans s36
      have hx36 := hx.same s336
      have hy36 := hy.same s336
      have hz36 := hz.same s336
      have em := mid_law (F := F) zl zm zn
      have k3 : (lpile F (l ++ XM.cmm (OF F) (lpile F (XM.back l ++ m)) (lpile F (XM.back l ++ n)))).length ≤ (l ++ XM.cmm (OF F) (lpile F (XM.back l ++ m)) (lpile F (XM.back l ++ n))).length := act_len1
      rw [List.length_append] at k3
      refine ⟨_, rfl, mt_pv "middle" hx36 (by decide) (by decide) ⟨_, rfl, _, rfl, x, y, z, _, _, _, rfl, hx36, hy36, hz36, ok, pl, pm, pn, by omega, by omega, by omega, by rw [em]; omega, fun H37 c3 s37 hc3 => ?_⟩⟩
      rw [em] at hc3
      have s337 := s336.trans s37
      have b3 := bd gl (by omega)
      have e3 : 2 * 10 ^ 40 ≤ 10 ^ 41 := by decide +kernel
      refine ⟨_, rfl, _, rfl, c3, a, pt, F, _, rfl, hc3, Dp.sm s337 _ hF, ok, Dp.sm s37 _ hpt, names_app nl g1, zl.app g2, by rw [List.length_append]; omega, by rw [XM.ln_app]; omega, fun H38 s38 => ⟨_, rfl, iteF ?_⟩⟩
      have s338 := s337.trans s38
      refine ⟨_, rfl, _, rfl, _, rfl, x, a, p, F, l, rfl, hx.same s338, Dp.sm s338 _ hF, ok, Dp.sm s338 _ hL, nl, zl, by omega, Nat.le_trans b3 big2, fun H39 s39 => ?_⟩
      have s339 := s338.trans s39
      refine ⟨_, rfl, iteT ⟨_, rfl, _, rfl, _, rfl, y, a, r, F, m, rfl, hy.same s339, Dp.sm s339 _ hF, ok, Dp.sm s339 _ hM, nm, zm, by omega, Nat.le_trans (bd gm (by omega)) big2, fun H40 s40 => ⟨_, rfl, iteT ?_⟩⟩⟩
      have s340 := s339.trans s40
      exact ⟨_, rfl, _, rfl, _, rfl, z, a, t, F, n, rfl, hz.same s340, Dp.sm s340 _ hF, ok, Dp.sm s340 _ hN, nn, zn, by omega, Nat.le_trans (bd gn (by omega)) big2, fun H41 s41 => q H41 (s340.trans s41)⟩
end
end XB
set_option Elab.async false
set_option linter.all false
set_option maxRecDepth 100000
set_option maxHeartbeats 4000000
namespace XB
open PySem PySem.Spec PyProof.Rows L2
/-! products and takings back in a field that is not told beforehand; a field with one name more -/
def wideF (F : Fld) (x : Str) : Fld := ⟨F.names ++ [x], F.pairs⟩
theorem wide_ok {F : Fld} {x : Str} (ok : F.Ok) (h5 : F.names.length ≤ 5) (g : GoodName x) (lt : ∀ y ∈ F.names, sLt y x = true) : (wideF F x).Ok := by
  refine ⟨?_, ?_, ok.asc, fun p hp => ⟨List.mem_append_left _ (ok.inN p hp).1, List.mem_append_left _ (ok.inN p hp).2⟩, fun y hy => ?_, ?_, ok.asP, ok.len⟩
  · show 0 < (F.names ++ [x]).length
    rw [List.length_append]
    exact Nat.succ_pos _
  · show (F.names ++ [x]).length ≤ 6
    rw [List.length_append]
    exact Nat.succ_le_succ h5
  · rcases List.mem_append.mp hy with h | h
    · exact ok.sgn y h
    · rw [List.mem_singleton.mp h]
      exact g
  · refine List.pairwise_append.mpr ⟨ok.asN, List.pairwise_singleton _ _, fun a ha b hb => ?_⟩
    rw [List.mem_singleton.mp hb]
    exact lt a ha
theorem lt_z : ∀ y ∈ ML, sLt y ("z" : Str) = true := by decide +kernel
theorem lt_y : ∀ y ∈ ML, sLt y ("y" : Str) = true := by decide +kernel
theorem eqv_strs (l m : List Str) : PyData.eqvAll (l.map PyData.str) (m.map PyData.str) = decide (l = m) := by
  induction l generalizing m with
  | nil => cases m <;> simp [PyData.eqvAll]
  | cons a l ih =>
    cases m with
    | nil => simp [PyData.eqvAll]
    | cons b m =>
      rw [List.map_cons, List.map_cons, PyData.eqvAll, ih]
      show ((a == b) && decide (l = m)) = decide (a :: l = b :: m)
      by_cases h1 : a = b
      · by_cases h2 : l = m
        · simp [h1, h2]
        · simp [h2]
      · simp [h1]
/-- fields of unlike names are unlike -/
theorem eqv_fld {F G : Fld} (h : F.names ≠ G.names) : PyData.eqv (dField F) (dField G) = false := by
  show (PyData.eqvAll (F.names.map PyData.str) (G.names.map PyData.str) && _) = false
  rw [eqv_strs, decide_eq_false h, Bool.false_and]
theorem app_ne {l : List Str} {x : Str} : l ++ [x] ≠ l := fun h => by
  have := congrArg List.length h
  rw [List.length_append] at this
  simp at this
section
variable {P : Program} {w : World} {K : PySem.W.Frag} {mg : Str → Option Value} {base : Heap}
theorem wide_dp {H : Hp} {F : Fld} {x : Str} {n pp f : Addr} {ps : List V} (hN : SqT K H n ((F.names ++ [x]).map V.str)) (hP : SqT K H pp ps) (hD : DpAll K H ps (F.pairs.map dPair)) (hf : SqT K H f [.ref n, .ref pp]) : Dp K H (.ref f) (dField (wideF F x)) :=
  .tup hf (.cons (.tup hN (DpAll.strs _)) (.cons (.tup hP hD) .nil))
theorem c_Pile_invX (T : Tx K mg) : MCl P w K mg base (L2.CX P w) 5 "Pile" "__invert__" (fun vs H Q E => ∃ F, spInv K mg F vs H Q E) := by
  refine mclX T.m_Pile___invert__ (ps := ["self"]) (fun _ _ _ _ _ _ us hl => match us, hl with | [_], _ => rfl) sc_Pile___invert__ (fun vs H Q E h => ?_) (fun f cdv A outer st H vs Q E hr h => ?_)
  · obtain ⟨F, a, u, rfl, _⟩ := h
    rfl
  · obtain ⟨F, a, u, rfl, hP, ok, nu, lu, q⟩ := h
    refine ⟨_, (pss_one (ps_ret (pe_k (c_made_pile T) hr (by decide) (by rfl) (pa_cons (pe_fld (pv 0) rfl) (pa_cons (pe_k (c_piled T F) hr (by decide) (by rfl) (pa_cons (pe_k (c_touch_table T) hr (by decide) (by rfl) (pa_cons (pe_fld (pv 0) rfl) pa_nil)) (pa_cons (pe_k (c_back T) hr (by decide) (by rfl) (pa_cons (pe_fld (pv 0) rfl) pa_nil)) pa_nil))) pa_nil))))), ?_⟩
    --@
    obtain ⟨f1, s1, ⟨fs, ⟨C, dx, hm, hi⟩, l1, l2, _⟩, hF, hu⟩ := id hP
    have fld : ∀ {H' : Hp}, Same H H' → H' a = some (.ins C dx fs) := fun s => s _ _ hi
    refine ⟨_, rfl, a, C, dx, fs, .ref f1, rfl, hi, oc_cls T.o_Pile hm, T.n_Pile__field C hm, l1, ?_⟩
    refine ⟨_, rfl, a, C, dx, fs, .ref f1, rfl, hi, oc_cls T.o_Pile hm, T.n_Pile__field C hm, l1, f1, F, rfl, hF, ok, fun H1 t t1 nt hT => ?_⟩
    refine ⟨_, rfl, a, C, dx, fs, .ref s1, rfl, fld t1, oc_cls T.o_Pile hm, T.n_Pile__steps C hm, l2, s1, u, rfl, Dp.sm t1 _ hu, by omega, fun H2 r t2 hr2 => ?_⟩
    obtain ⟨_, xs, e, hS, hV⟩ := hr2.steps
    cases e
    refine ⟨t, r, xs, XM.back u, rfl, hT.same t2, ok, hS, hV, ?_, ?_, fun H3 r3 t3 hd3 => ?_⟩
    · rw [len_back]
      omega
    · exact names_back nu
    · have t13 := t1.trans (t2.trans t3)
      have la := act_len1 (F := F) (l := XM.back u)
      rw [len_back] at la
      exact ⟨F, f1, r3, _, rfl, Dp.sm t13 _ hF, hd3, by omega, fun H4 c t4 hP4 => q H4 c (t13.trans t4) hP4⟩
theorem c_Pile_mulX (T : Tx K mg) : MCl P w K mg base (L2.CX P w) 5 "Pile" "__mul__" (fun vs H Q E => ∃ F, spMulP K mg F vs H Q E) := by
  refine mclX T.m_Pile___mul__ (ps := ["self", "other"]) (fun _ _ _ _ _ _ us hl => match us, hl with | [_, _], _ => rfl) sc_Pile___mul__ (fun vs H Q E h => ?_) (fun f cdv A outer st H vs Q E hr h => ?_)
  · obtain ⟨F, a, b, u, v, rfl, _⟩ := h
    rfl
  · obtain ⟨F, a, b, u, v, rfl, hP, hR, ok, nu, nv, lu, q⟩ := h
    have tk : Takes (cxOf (L2.CX P w) P w K mg base ["self", "other"] "Pile.__mul__" (defScope s_Pile___mul__) f cdv A outer st H E) fun cls d _ H => E cls d H := takes_of rfl rfl rfl rfl
    obtain ⟨D, hD⟩ : ∃ D, mg "Pile" = some (.ref D) := by
      obtain ⟨D, hD, _⟩ := T.o_Pile.ex
      exact ⟨D, hD⟩
    refine ⟨_, (pss_cons (ps_if (pt_not (pt_val (pe_callB call_isi (by rfl) T.b_isinstance (by decide +kernel) (pa_cons (pv 1) (pa_cons (pe_glob (v := .ref D) (by rfl) hD rfl) pa_nil))))) pss_never pss_nil)
    (pss_cons (ps_expr (pe_kX (c_need_like T) hr (by decide) tk (by rfl) (pa_cons (pv 0) (pa_cons (pv 1) pa_nil))))
    (pss_one (ps_ret (pe_k (c_made_pile T) hr (by decide) (by rfl) (pa_cons (pe_fld (pv 0) rfl) (pa_cons (pe_k (c_piled T F) hr (by decide) (by rfl) (pa_cons (pe_k (c_touch_table T) hr (by decide) (by rfl) (pa_cons (pe_fld (pv 0) rfl) pa_nil)) (pa_cons (pe_op (op_catAk (K := K) rfl) (pe_fld (pv 0) rfl) (pe_fld (pv 1) rfl)) pa_nil))) pa_nil))))))), ?_⟩
    --@
    obtain ⟨f1, s1, hPA, hF, hu⟩ := id hP
    obtain ⟨f2, s2, hRA, hG, hv⟩ := id hR
    obtain ⟨fs, ⟨C, dx, hm, hi⟩, l1, l2, _⟩ := id hPA
    obtain ⟨gs, ⟨C2, dy, hm2, hj⟩, k1, k2, _⟩ := id hRA
    have sh := (fld_fok ok).sh
    refine ⟨_, rfl, .ref b, .ref D, _, _, _, rfl, .own D, tyx_ins T.o_Pile hD ⟨C2, dy, hm2, hj⟩, T.i_Pile_Pile D D hD hD, _, rfl, iteF ⟨_, rfl, _, rfl, a, b, .ref f1, .ref s1, .ref f2, .ref s2, dField F, dField F, rfl, hPA, hRA, hF, hG, sh, sh, .inl ⟨PySem.SeqAt.eqv_refl _ ?_, ?_⟩⟩⟩
    · exact (fld_okd ok).lay
    refine ⟨_, rfl, a, C, dx, fs, .ref f1, rfl, hi, oc_cls T.o_Pile hm, T.n_Pile__field C hm, l1, ?_⟩
    refine ⟨_, rfl, a, C, dx, fs, .ref f1, rfl, hi, oc_cls T.o_Pile hm, T.n_Pile__field C hm, l1, f1, F, rfl, hF, ok, fun H1 t t1 nt hT => ?_⟩
    refine ⟨_, rfl, a, C, dx, fs, .ref s1, rfl, t1 _ _ hi, oc_cls T.o_Pile hm, T.n_Pile__steps C hm, l2, _, rfl, b, C2, dy, gs, .ref s2, rfl, t1 _ _ hj, oc_cls T.o_Pile hm2, T.n_Pile__steps C2 hm2, k2, ?_⟩
    obtain ⟨_, xs, e, hS, hV⟩ := hu.steps
    cases e
    obtain ⟨_, ys, e, hS2, hV2⟩ := hv.steps
    cases e
    have lx := hV.len
    have ly := hV2.len
    rw [List.length_map] at lx ly
    refine catA ((Tk.of t1).sqT hS) ((Tk.of t1).sqT hS2) (Nat.le_of_lt (small1000 (by omega))) fun H2 r t2 hS3 => ?_
    refine ⟨t, r, xs ++ ys, u ++ v, rfl, hT.same t2, ok, hS3, ?_, by rw [List.length_append]; omega, ?_, fun H3 r3 t3 hd3 => ?_⟩
    · rw [List.map_append]
      exact (DpAll.sm (t1.trans t2) _ hV).app (DpAll.sm (t1.trans t2) _ hV2)
    · exact fun s hs => (List.mem_append.mp hs).elim (nu s) (nv s)
    · have t13 := t1.trans (t2.trans t3)
      have la := act_len1 (F := F) (l := u ++ v)
      rw [List.length_append] at la
      exact ⟨F, f1, r3, _, rfl, Dp.sm t13 _ hF, hd3, by omega, fun H4 c t4 hP4 => q H4 c (t13.trans t4) hP4⟩
end
end XB
set_option Elab.async false
set_option linter.all false
set_option maxRecDepth 100000
set_option maxHeartbeats 8000000
namespace XB
open PySem PySem.Spec PyProof.Rows L2
/-! the law -/
theorem flat_all (ls : List (List (Str × Int))) : flatAll (ls.map dSteps) = true := flatAll_of fun d hd => by
  obtain ⟨l, _, rfl⟩ := List.mem_map.mp hd
  exact flat_steps l
theorem lpile_same {F : Fld} {l m : List (Str × Int)} (zl : XM.NZ l) (zm : XM.NZ m) : decide (lpile F l = lpile F m) = decide (XM.far (OF F) l m = 0) := by
  rw [decide_eq_decide, XM.far_zero zl zm]
  exact ⟨fun h => XM.pile_inj (O := OF F) h, fun h => XM.pile_eq (O := OF F) h⟩
theorem lpile_gone {F : Fld} {l : List (Str × Int)} (zl : XM.NZ l) : lpile F (lpile F l ++ lpile F (XM.back l)) = [] := by
  rw [lpile_app zl (XM.back_nz zl)]
  unfold lpile
  rw [XM.act_app, XM.act_back zl XM.n00]
  rfl
section
variable {P : Program} {w : World} {K : PySem.W.Frag} {mg : Str → Option Value} {base : Heap}
theorem right_pv {H : Hp} {y : Addr} {G : Fld} {v : List (Str × Int)} (h : PV K mg H y G v) : RightEq K mg "Pile" H (.ref y) := by
  obtain ⟨gs, h2⟩ := h.ins
  exact .inl ⟨y, gs, rfl, h2⟩
theorem eq_pv {H : Hp} {x y : Addr} {F G : Fld} {u v : List (Str × Int)} {Q : VK} (hx : PV K mg H x F u) (hy : PV K mg H y G v) (ok : F.Ok) (ok2 : G.Ok) (nu : Names F u) (nv : Names G v) (q : Q (.bl (PyData.eqv (dField F) (dField G) && decide (u = v))) H) : rOEq K mg "Pile" (spEqP K mg) E0 (.ref x) (.ref y) H Q := by
  obtain ⟨fs, h1⟩ := hx.ins
  refine ⟨x, fs, rfl, h1, right_pv hy, x, .ref y, F, u, rfl, hx, ok, sh_dsteps (fun s hs => ok.sgn _ (nu s hs)), .inl ⟨y, G, v, rfl, hy, ok2, sh_dsteps (fun s hs => ok2.sgn _ (nv s hs)), ?_⟩⟩
  rw [eqv_steps]
  exact q
theorem ne_pv {H : Hp} {x y : Addr} {F G : Fld} {u v : List (Str × Int)} {Q : VK} (hx : PV K mg H x F u) (hy : PV K mg H y G v) (ok : F.Ok) (ok2 : G.Ok) (nu : Names F u) (nv : Names G v) (q : Q (.bl (!(PyData.eqv (dField F) (dField G) && decide (u = v)))) H) : rONe K mg "Pile" (spEqP K mg) E0 (.ref x) (.ref y) H Q := by
  obtain ⟨fs, h1⟩ := hx.ins
  refine ⟨x, fs, rfl, h1, right_pv hy, x, .ref y, F, u, rfl, hx, ok, sh_dsteps (fun s hs => ok.sgn _ (nu s hs)), .inl ⟨y, G, v, rfl, hy, ok2, sh_dsteps (fun s hs => ok2.sgn _ (nv s hs)), _, rfl, ?_⟩⟩
  rw [eqv_steps]
  exact q
theorem eq_dat {H : Hp} {x : Addr} {v : V} {d : PyData} {F : Fld} {u : List (Str × Int)} {Q : VK} (hx : PV K mg H x F u) (ok : F.Ok) (nu : Names F u) (hr : RightEq K mg "Pile" H v) (hd : Dp K H v d) (q : Q (.bl false) H) : rOEq K mg "Pile" (spEqP K mg) E0 (.ref x) v H Q := by
  obtain ⟨fs, h1⟩ := hx.ins
  exact ⟨x, fs, rfl, h1, hr, x, v, F, u, rfl, hx, ok, sh_dsteps (fun s hs => ok.sgn _ (nu s hs)), .inr ⟨d, hd, q⟩⟩
theorem fld_same {F : Fld} (ok : F.Ok) : PyData.eqv (dField F) (dField F) = true := PySem.SeqAt.eqv_refl _ (fld_okd ok).lay
theorem fg_law (T : Tx K mg) {fl : Addr} {fd : FuncData} (FL : Fun K "law" "law" s_law fl fd) : FnG P w K mg base CX0 10 fl fd ["script"] (spLaw K) := by
  refine fg0 FL sc_law (fun vs H Q E h => sp_law_len h) (fun fa cdv A outer st H vs Q E hgu hr h => ?_)
  · obtain ⟨a, ns, rfl, hS, hl, q⟩ := h
    have nd := sc_law.nd
    have hu : (A.deeper (envOfC "law" (defScope s_law) st.heap.objs.size fa cdv)).units + 1 < cLine := by
      have := hr.un
      omega
    refine ⟨_, (pss_cons (ps_set (i := 1) nd rfl (.inr rfl) (pe_k (c_begun T) hr (by decide) (by rfl) (pa_cons (pv 0) pa_nil)))
    (pss_cons (ps_for PassesOwn.never rfl (pi_range1 (by rfl) T.b_range (pa_cons (pe_op op_add pe_int (pe_callB (call_min2 rfl) (by rfl) T.b_min (by decide +kernel) (pa_cons pe_int (pa_cons (pe_lenS (by rfl) T.b_len (pv 0)) pa_nil)))) pa_nil)) (pg_name (i := 2) nd rfl (.inl rfl))
    (pss_cons (ps_set (i := 3) nd rfl (.inr rfl) (pe_k (c__law_field3 T) hr (by decide) (by rfl) (pa_cons (pv 1) (pa_cons pe_int pa_nil))))
    (pss_cons (ps_asg (pe_lc (own := [("k", 10)]) (g := (gName 10)) (tt := tYes) (by rfl) nd (pi_range1 (by rfl) T.b_range (pa_cons pe_int pa_nil)) (blkOk_by (own := [("k", 10)]) (N := ["script", "m", "turn", "field", "one", "other", "third", "near", "far", "wide", "k"]) (sc := defScope s_law) (by decide +kernel)) (fun _ _ _ _ _ => (pg_name (i := 10) nd rfl (by first | exact Or.inl rfl | exact Or.inr rfl))) (fun _ _ _ _ _ => pts_nil) (fun _ _ _ _ _ => (pe_k (c__law_steps T) hr (by decide) (by rfl) (pa_cons (pv 1) (pa_cons (pv 3) (pa_cons pe_int (pa_cons pe_bl pa_nil))))))) (pg_unl rfl (pgs_cons (pg_name (i := 4) nd rfl (.inl rfl)) (pgs_cons (pg_name (i := 5) nd rfl (.inl rfl)) (pgs_cons (pg_name (i := 6) nd rfl (.inl rfl)) pgs_nil)))))
    (pss_cons (ps_if (PW.pt (pw_or (pt_not (pt_val (pe_g (c__law_shows T) hgu hr (by decide) (by rfl) (pa_cons (pe_mkO T.o_Pile (c_Pile_init T) hr (by decide) (by rfl) (E := E0) passL (pa_cons (pv 3) (pa_cons (pv 4) pa_nil))) (pa_cons (pv 3) (pa_cons (pv 4) pa_nil)))))) (pw_or1 (pt_not (pt_val (pe_g (c__law_right T) hgu hr (by decide) (by rfl) (pa_cons (pv 3) (pa_cons (pv 4) (pa_cons (pv 5) (pa_cons (pv 6) pa_nil)))))))))) pss_never pss_nil)
    (pss_cons (ps_if (PW.pt (pw_or (pt_not (pt_val (pe_g (c__law_right T) hgu hr (by decide) (by rfl) (pa_cons (pv 3) (pa_cons (pv 4) (pa_cons (pv 4) (pa_cons (pv 5) pa_nil))))))) (pw_or1 (pt_not (pt_val (pe_g (c__law_right T) hgu hr (by decide) (by rfl) (pa_cons (pv 3) (pa_cons (pe_tup pa_nil) (pa_cons (pv 5) (pa_cons (pv 4) pa_nil)))))))))) pss_never pss_nil)
    (pss_cons (ps_par (i := 7) (j := 8) rfl nd rfl rfl (by decide) rfl rfl (pa_cons (pe_mkO T.o_Pile (c_Pile_init T) hr (by decide) (by rfl) (E := E0) passL (pa_cons (pv 3) (pa_cons (pe_op (op_catAk (K := K) rfl) (pv 4) (pv 5)) pa_nil))) (pa_cons (pe_op (op_O2e .Mult (by rfl) T.o_Pile (c_Pile_mulX T) hr (by decide) (E := E0) passL) (pe_mkO T.o_Pile (c_Pile_init T) hr (by decide) (by rfl) (E := E0) passL (pa_cons (pv 3) (pa_cons (pv 4) pa_nil))) (pe_mkO T.o_Pile (c_Pile_init T) hr (by decide) (by rfl) (E := E0) passL (pa_cons (pv 3) (pa_cons (pv 5) pa_nil)))) pa_nil)) rfl)
    (pss_cons (ps_if (PW.pt (pw_or (pt_not (pt_cmpR (op_eqO (c_Pile_eq T) hr.units0 hr (by decide) (E := E0) passL) (pv 7) (pv 8) (nomark _))) (pw_or1 (pt_cmpR (op_neO (c_Pile_eq T) T.o_Pile T.q_Pile hu hr (by decide) (E := E0) passL) (pv 7) (pv 8) (nomark _))))) pss_never pss_nil)
    (pss_cons (ps_if (pt_cmpR op_ne (pe_cmpR (op_eqO (c_Pile_eq T) hr.units0 hr (by decide) (E := E0) passL) (pe_mkO T.o_Pile (c_Pile_init T) hr (by decide) (by rfl) (E := E0) passL (pa_cons (pv 3) (pa_cons (pv 4) pa_nil))) (pe_mkO T.o_Pile (c_Pile_init T) hr (by decide) (by rfl) (E := E0) passL (pa_cons (pv 3) (pa_cons (pv 5) pa_nil))) (nomark _)) (pe_cmpR op_eq (pe_gF (fun F => (c__law_far T F).toG) hgu hr (by decide) (by rfl) (pa_cons (pv 3) (pa_cons (pv 4) (pa_cons (pv 5) pa_nil)))) pe_int (nomark _)) (nomark _)) pss_never pss_nil)
    (pss_cons (ps_if (PW.pt (pw_or (pt_cmpR (op_eqO (c_Pile_eq T) hr.units0 hr (by decide) (E := E0) passL) (pe_mkO T.o_Pile (c_Pile_init T) hr (by decide) (by rfl) (E := E0) passL (pa_cons (pv 3) (pa_cons (pv 4) pa_nil))) (pv 4) (nomark _)) (pw_or1 (pt_cmpR (op_eqO (c_Pile_eq T) hr.units0 hr (by decide) (E := E0) passL) (pe_mkO T.o_Pile (c_Pile_init T) hr (by decide) (by rfl) (E := E0) passL (pa_cons (pv 3) (pa_cons (pv 4) pa_nil))) pe_int (nomark _))))) pss_never pss_nil)
    (pss_cons (ps_if (pt_not (pt_cmpR (op_eqO (c_Pile_eq T) hr.units0 hr (by decide) (E := E0) passL) (pe_op (op_O2e .Mult (by rfl) T.o_Pile (c_Pile_mulX T) hr (by decide) (E := E0) passL) (pe_mkO T.o_Pile (c_Pile_init T) hr (by decide) (by rfl) (E := E0) passL (pa_cons (pv 3) (pa_cons (pv 4) pa_nil))) (pe_un (un_invO (c_Pile_invX T) hr (by decide) (E := E0) passL) (pe_mkO T.o_Pile (c_Pile_init T) hr (by decide) (by rfl) (E := E0) passL (pa_cons (pv 3) (pa_cons (pv 4) pa_nil))))) (pe_mkO T.o_Pile (c_Pile_init T) hr (by decide) (by rfl) (E := E0) passL (pa_cons (pv 3) (pa_cons (pe_tup pa_nil) pa_nil))) (nomark _))) pss_never pss_nil)
    (pss_cons (ps_set (i := 9) nd rfl (.inl rfl) (pe_tup (pa_cons (pe_op (op_catAk (K := K) rfl) (pe_ix (ixk_tup (K := K) rfl) (pv 3) pe_int (fun _ _ => rfl)) (pe_tup (pa_cons pe_str pa_nil))) (pa_cons (pe_ix (ixk_tup (K := K) rfl) (pv 3) pe_int (fun _ _ => rfl)) pa_nil))))
    (pss_one (ps_if (PW.pt (pw_or (pt_cmpR (op_eqO (c_Pile_eq T) hr.units0 hr (by decide) (E := E0) passL) (pe_mkO T.o_Pile (c_Pile_init T) hr (by decide) (by rfl) (E := E0) passL (pa_cons (pv 3) (pa_cons (pv 4) pa_nil))) (pe_mkO T.o_Pile (c_Pile_init T) hr (by decide) (by rfl) (E := E0) passL (pa_cons (pv 9) (pa_cons (pv 4) pa_nil))) (nomark _)) (pw_or1 (pt_not (pt_cmpR (op_neO (c_Pile_eq T) T.o_Pile T.q_Pile hu hr (by decide) (E := E0) passL) (pe_mkO T.o_Pile (c_Pile_init T) hr (by decide) (by rfl) (E := E0) passL (pa_cons (pv 3) (pa_cons (pv 4) pa_nil))) (pe_mkO T.o_Pile (c_Pile_init T) hr (by decide) (by rfl) (E := E0) passL (pa_cons (pv 9) (pa_cons (pv 4) pa_nil))) (nomark _)))))) pss_never pss_nil)))))))))))))
    (pss_one (ps_ret pe_bl)))), ?_⟩
    --@
    refine ⟨_, rfl, a, ns, rfl, hS, hl, fun H1 m c g s1 _ _ _ R1 => ?_⟩
    have lns : (ns.map V.int).length = ns.length := List.length_map ..
    refine ⟨_, rfl, a, _, rfl, .inl (s1.seq hS), 6, _, rfl, 3, _, rfl, rfl, _, rfl, by split <;> omega, by split <;> omega, ?_⟩
    have hcnt : (3 + (if ((ns.map V.int).length : Int) < 6 then ((ns.map V.int).length : Int) else 6)).toNat ≤ 9 := by split <;> omega
    refine for_range (lo := 0) (n := _) (fun i σ H2 => ∃ (y2 y3 y4 y5 y6 y7 y8 y9 y10 : Option V) (s2 : Int), σ = [some (.ref a), some (.ref m), y2, y3, y4, y5, y6, y7, y8, y9, y10] ∧ Dr H2 m c g s2 ∧ s2 ≤ 120 * (i : Int))
      ⟨_, _, _, _, _, _, _, _, _, 0, rfl, R1, by omega⟩ (fun i σ H2 hi ⟨y2, y3, y4, y5, y6, y7, y8, y9, y10, s2, eσ, R2, hs2⟩ => ?_) (fun σ H2 ⟨y2, y3, y4, y5, y6, y7, y8, y9, y10, s2, eσ, R2, hs2⟩ => ?_)
    · subst eσ
      refine ⟨_, rfl, m, c, g, s2, 5, rfl, R2, by decide, by decide, by omega, fun H3 f F s3 R3 hs3 k3 hF3 ok hML hn5 hp36 => ?_⟩
      refine ⟨3, rfl, by decide, by decide, fun D hD => ?_⟩
      have nD := R3.nm hD
      refine lc_range (lo := 0) (n := 3) (fun j H' => ∃ (rs : List V) (ls : List (List (Str × Int))) (s' : Int), H' D = some (.lst rs) ∧ DpAll K H' rs (ls.map dSteps) ∧ (∀ l ∈ ls, GoodAll F l ∧ l.length ≤ 6) ∧ ls.length = j ∧ Dr H' m c g s' ∧ s' ≤ s3 + 25 * (j : Int) ∧ Tk H3 H')
        ⟨[], [], s3, upd_same, .nil, (fun _ h => nomatch h), rfl, R3.same (same_upd hD), by omega, Tk.of (same_upd hD)⟩ (fun j H4 hj ⟨rs, ls, s4, eD, hR, hg, hlj, R4, hs4, t4⟩ => ?_) (fun H4 ⟨rs, ls, s4, eD, hR, hg, hlj, R4, hs4, t4⟩ => ?_)
      · have lrs := hR.len
        rw [List.length_map] at lrs
        refine ⟨rfl, yes_ ⟨_, rfl, _, rfl, m, c, g, f, s4, 6, true, F, rfl, R4, Dp.tk t4 _ (flat_field F) hF3, ok, by decide, by decide, by omega, fun H5 r l s5 R5 hs5 k5 hL gL hl6 => ?_⟩⟩
        have eD5 := k5 _ _ nD.1 nD.2.2 eD
        have t5 := R4.tk k5
        have tP : Tk H5 (upd H5 D (.lst (rs ++ [.ref r]))) := Tk.refl.lst eD5
        refine ⟨rs, eD5, small1000 (by omega), rs ++ [.ref r], ls ++ [l], s5, upd_same, ?_, fun z hz => ?_, by rw [List.length_append, hlj]; rfl, R5.put nD, by omega, (t4.trans t5).trans tP⟩
        · rw [List.map_append]
          exact (DpAll.tk (t5.trans tP) _ (flat_all ls) hR).app (.cons (Dp.tk tP _ (flat_steps l) hL) .nil)
        · rcases List.mem_append.mp hz with h | h
          · exact hg z h
          · rw [List.mem_singleton.mp h]
            exact ⟨gL, by omega⟩
      · obtain ⟨l1, l2, l3, rfl⟩ : ∃ l1 l2 l3, ls = [l1, l2, l3] := by
          match ls, hlj with
          | [x, y, z], _ => exact ⟨x, y, z, rfl⟩
        obtain ⟨r1, r2, r3, rfl, h1, h2, h3⟩ : ∃ r1 r2 r3 : Addr, rs = [.ref r1, .ref r2, .ref r3] ∧ Dp K H4 (.ref r1) (dSteps l1) ∧ Dp K H4 (.ref r2) (dSteps l2) ∧ Dp K H4 (.ref r3) (dSteps l3) := by
          cases hR with
          | cons d1 hR =>
          cases hR with
          | cons d2 hR =>
          cases hR with
          | cons d3 hR =>
          cases hR
          obtain ⟨_, _, e1, _⟩ := id d1.steps
          obtain ⟨_, _, e2, _⟩ := id d2.steps
          obtain ⟨_, _, e3, _⟩ := id d3.steps
          subst e1 e2 e3
          exact ⟨_, _, _, rfl, d1, d2, d3⟩
        obtain ⟨g1, n1⟩ := hg l1 (by simp)
        obtain ⟨g2, n2⟩ := hg l2 (by simp)
        obtain ⟨g3, n3⟩ := hg l3 (by simp)
        have hF4 := Dp.tk t4 _ (flat_field F) hF3
        have gs1 : GoodScript F l1 := ⟨by omega, g1⟩
        have gs2 : GoodScript F l2 := ⟨by omega, g2⟩
        have gs3 : GoodScript F l3 := ⟨by omega, g3⟩
        clear hg hR hF3
        refine ⟨D, _, rfl, SqL.of eD, rfl, _, _, rfl, _, _, rfl, _, _, rfl, rfl, ?_⟩
        have big2 : 100 * 10 ^ 30 ≤ 10 ^ 41 := by decide +kernel
        have bd : ∀ {x : List (Str × Int)}, GoodAll F x → x.length ≤ 100 → XM.ln x ≤ 10 ^ 41 := fun {x} g h => Nat.le_trans (ln_lt g) (Nat.le_trans (Nat.mul_le_mul_right _ h) big2)
        have z1 := g1.nz
        have z2 := g2.nz
        have m1 := g1.names
        have m2 := g2.names
        have p1 := names_lpile (F := F) m1
        have p2 := names_lpile (F := F) m2
        have k1 : (lpile F l1).length ≤ l1.length := act_len1
        have k2 : (lpile F l2).length ≤ l2.length := act_len1
        have g0 : GoodAll F [] := fun _ h => nomatch h
        -- what a Pile shows, what the operators tell
        refine ⟨_, rfl, _, rfl, mk_pv hF4 ok h1 gs1 fun H5 x5 s5 hx5 => ⟨_, rfl, _, rfl, x5, f, r1, F, l1, rfl, hx5, Dp.sm s5 _ hF4, ok, Dp.sm s5 _ h1, m1, z1, by omega, bd g1 (by omega), fun H6 s6 => ⟨_, rfl, iteF ?_⟩⟩⟩
        have s46 := s5.trans s6
        refine ⟨_, rfl, _, rfl, _, rfl, _, rfl, f, r1, r2, r3, F, l1, l2, l3, rfl, Dp.sm s46 _ hF4, ok, Dp.sm s46 _ h1, Dp.sm s46 _ h2, Dp.sm s46 _ h3, g1, g2, g3, n1, n2, n3, fun H7 s7 => ⟨_, rfl, iteF ?_⟩⟩
        have s47 := s46.trans s7
        refine ⟨_, rfl, _, rfl, _, rfl, _, rfl, f, r1, r1, r2, F, l1, l1, l2, rfl, Dp.sm s47 _ hF4, ok, Dp.sm s47 _ h1, Dp.sm s47 _ h1, Dp.sm s47 _ h2, g1, g1, g2, n1, n1, n2, fun H8 s8 => ⟨_, rfl, iteF ?_⟩⟩
        have s48 := s47.trans s8
        refine ⟨_, rfl, Nat.zero_le _, fun e9 ne9 => upd_gen ne9 fun H9 s9 q9 => ⟨_, rfl, _, rfl, f, e9, r2, r1, F, [], l2, l1, rfl, Dp.sm (s48.trans s9) _ hF4, ok, .tup (SqT.of q9) .nil, Dp.sm (s48.trans s9) _ h2, Dp.sm (s48.trans s9) _ h1, g0, g2, g1, Nat.zero_le _, n2, n1, fun H10 s10 => ⟨_, rfl, iteF ?_⟩⟩⟩
        have s410 := (s48.trans s9).trans s10
        -- products
        refine ⟨_, rfl, _, rfl, _, rfl, catD (Dp.sm s410 _ h1) (Dp.sm s410 _ h2) (by omega) fun H11 d11 s11 hd11 => ?_⟩
        have s411 := s410.trans s11
        have g12 := g1.app g2
        have l12 : (l1 ++ l2).length ≤ 12 := by rw [List.length_append]; omega
        refine mk_pv (Dp.sm s411 _ hF4) ok hd11 ⟨by omega, g12⟩ fun H12 x12 s12 hx12 => ?_
        have s412 := s411.trans s12
        refine ⟨_, rfl, _, rfl, mk_pv (Dp.sm s412 _ hF4) ok (Dp.sm s412 _ h1) gs1 fun H13 x13 s13 hx13 => ?_⟩
        have s413 := s412.trans s13
        refine ⟨_, rfl, _, rfl, mk_pv (Dp.sm s413 _ hF4) ok (Dp.sm s413 _ h2) gs2 fun H14 x14 s14 hx14 => ?_⟩
        have s414 := s413.trans s14
        refine o2_pv (hx13.same s14) hx14 ⟨F, x13, x14, _, _, rfl, hx13.same s14, hx14, ok, p1, p2, by omega, fun H15 x15 s15 hx15 => ?_⟩
        rw [show (XM.act (OF F) (lpile F l1 ++ lpile F l2) []).reverse = lpile F (l1 ++ l2) from lpile_app z1 z2] at hx15
        have s415 := s414.trans s15
        have p12 := names_lpile (F := F) (names_app m1 m2)
        have hx12 := hx12.same (((s13.trans s14).trans s15))
        have ef := fld_same ok
        refine ⟨_, _, rfl, _, rfl, _, rfl, eq_pv hx12 hx15 ok ok p12 p12 ⟨_, rfl, ?_⟩⟩
        rw [ef, decide_eq_true rfl]
        refine iteF ⟨_, rfl, _, rfl, ne_pv hx12 hx15 ok ok p12 p12 ⟨_, rfl, ?_⟩⟩
        rw [ef, decide_eq_true rfl]
        refine iteF ?_
        -- alike or not
        refine ⟨_, rfl, _, rfl, mk_pv (Dp.sm s415 _ hF4) ok (Dp.sm s415 _ h1) gs1 fun H16 x16 s16 hx16 => ?_⟩
        have s416 := s415.trans s16
        refine ⟨_, rfl, _, rfl, mk_pv (Dp.sm s416 _ hF4) ok (Dp.sm s416 _ h2) gs2 fun H17 x17 s17 hx17 => ?_⟩
        have s417 := s416.trans s17
        refine eq_pv (hx16.same s17) hx17 ok ok p1 p2 ⟨_, rfl, _, rfl, _, rfl, F, f, r1, r2, l1, l2, rfl, Dp.sm s417 _ hF4, ok, Dp.sm s417 _ h1, Dp.sm s417 _ h2, m1, m2, z1, z2, by omega, fun H18 s18 => ⟨rfl, rfl, _, rfl, ?_⟩⟩
        have s418 := s417.trans s18
        have e0 : decide (V.int ((XM.far (OF F) l1 l2 : Nat) : Int) = V.int 0) = (PyData.eqv (dField F) (dField F) && decide (lpile F l1 = lpile F l2)) := by
          rw [ef, Bool.true_and, lpile_same z1 z2]
          exact decide_eq_decide.mpr ⟨fun h => by injection h with h; omega, fun h => by rw [h]; rfl⟩
        rw [e0]
        refine ite2 (fun h => absurd h (by simp)) (fun _ => ?_)
        -- no Pile
        refine ⟨_, rfl, _, rfl, mk_pv (Dp.sm s418 _ hF4) ok (Dp.sm s418 _ h1) gs1 fun H19 x19 s19 hx19 => ⟨_, rfl, ?_⟩⟩
        have s419 := s418.trans s19
        obtain ⟨_, xl1, ee, hS1, _⟩ := id h1.steps
        cases ee
        refine eq_dat hx19 ok p1 (.inr (.inr ⟨r1, xl1, rfl, (Tk.of s419).sqT hS1⟩)) (Dp.sm s419 _ h1) ⟨_, rfl, iteF ?_⟩
        refine ⟨_, rfl, _, rfl, mk_pv (Dp.sm s419 _ hF4) ok (Dp.sm s419 _ h1) gs1 fun H20 x20 s20 hx20 => ?_⟩
        have s420 := s419.trans s20
        refine eq_dat hx20 ok p1 (.inr (.inl ⟨5, rfl⟩)) (.int 5) ⟨_, rfl, iteF ?_⟩
        -- what vanishes
        refine ⟨_, rfl, _, rfl, mk_pv (Dp.sm s420 _ hF4) ok (Dp.sm s420 _ h1) gs1 fun H21 x21 s21 hx21 => ?_⟩
        have s421 := s420.trans s21
        refine ⟨_, rfl, _, rfl, mk_pv (Dp.sm s421 _ hF4) ok (Dp.sm s421 _ h1) gs1 fun H22 x22 s22 hx22 => ?_⟩
        refine inv_pv hx22 ⟨F, x22, _, rfl, hx22, ok, p1, by omega, fun H23 x23 s23 hx23 => ?_⟩
        rw [show (XM.act (OF F) (XM.back (lpile F l1)) []).reverse = lpile F (XM.back l1) from lpile_back z1] at hx23
        have k3 : (lpile F (XM.back l1)).length ≤ (XM.back l1).length := act_len1
        rw [len_back] at k3
        refine o2_pv (hx21.same (s22.trans s23)) hx23 ⟨F, x21, x23, _, _, rfl, hx21.same (s22.trans s23), hx23, ok, p1, names_lpile (names_back m1), by omega, fun H24 x24 s24 hx24 => ?_⟩
        rw [show (XM.act (OF F) (lpile F l1 ++ lpile F (XM.back l1)) []).reverse = [] from lpile_gone z1] at hx24
        have s424 := ((s421.trans s22).trans s23).trans s24
        refine ⟨_, rfl, Nat.zero_le _, fun e25 ne25 => upd_gen ne25 fun H25 s25 q25 => ?_⟩
        have s425 := s424.trans s25
        refine mk_pv (l := []) (Dp.sm s425 _ hF4) ok (.tup (SqT.of q25) .nil) ⟨Nat.zero_le _, g0⟩ fun H26 x26 s26 hx26 => ?_
        have s426 := s425.trans s26
        have nn : Names F ([] : List (Str × Int)) := fun _ h => nomatch h
        refine eq_pv (hx24.same (s25.trans s26)) (show PV K mg H26 x26 F [] from hx26) ok ok nn nn ⟨_, rfl, ?_⟩
        rw [ef, decide_eq_true rfl]
        refine iteF ?_
        -- another field
        obtain ⟨_, nA, pp, ps, ee, hA, hN, hP, hDp⟩ := id (Dp.sm s426 _ hF4).field
        cases ee
        have h5 : F.names.length ≤ 5 := by omega
        have okz : (wideF F "z").Ok := wide_ok ok h5 (good_of (by decide +kernel)) fun y hy => lt_z y (hML y hy)
        have lN : (F.names.map V.str).length + 1 ≤ sizeLine := Nat.le_of_lt (small1000 (by rw [List.length_map]; omega))
        have gz : GoodScript (wideF F "z") l1 := ⟨gs1.1, fun s hs => ⟨List.mem_append_left _ (gs1.2 s hs).1, (gs1.2 s hs).2⟩⟩
        refine ⟨_, rfl, ix0 hA ⟨one_sz, fun u1 v1 => upd_gen v1 fun A1 a1 e1 => catA ((Tk.of a1).sqT hN) (SqT.of e1) lN fun A2 wn a2 hW => ⟨_, rfl, ix1 ((Tk.of (a1.trans a2)).sqT hA) ⟨two_sz, fun wf v3 => upd_gen v3 fun A3 a3 e3 => ?_⟩⟩⟩⟩
        have a13 := a1.trans (a2.trans a3)
        have hW6 : SqT K A3 wn ((F.names ++ [("z" : Str)]).map V.str) := by
          rw [List.map_append]
          exact (Tk.of a3).sqT hW
        have hz := wide_dp hW6 ((Tk.of a13).sqT hP) (DpAll.tk (Tk.of a13) _ (flat_pairs F.pairs) hDp) (SqT.of e3)
        have s4a := s426.trans a13
        have pz := names_lpile (F := wideF F "z") (l := l1) (fun s hs => List.mem_append_left _ (m1 s hs))
        have nz : PyData.eqv (dField F) (dField (wideF F "z")) = false := eqv_fld app_ne.symm
        refine ⟨_, rfl, _, rfl, mk_pv (Dp.sm s4a _ hF4) ok (Dp.sm s4a _ h1) gs1 fun H27 x27 s27 hx27 => ?_⟩
        refine ⟨_, rfl, _, rfl, mk_pv (Dp.sm s27 _ hz) okz (Dp.sm (s4a.trans s27) _ h1) gz fun H28 x28 s28 hx28 => ?_⟩
        have s428 := (s4a.trans s27).trans s28
        refine eq_pv (hx27.same s28) hx28 ok okz p1 pz ⟨_, rfl, ?_⟩
        rw [nz, Bool.false_and]
        refine iteF ⟨_, rfl, _, rfl, mk_pv (Dp.sm s428 _ hF4) ok (Dp.sm s428 _ h1) gs1 fun H29 x29 s29 hx29 => ?_⟩
        refine ⟨_, rfl, _, rfl, mk_pv (Dp.sm ((s27.trans s28).trans s29) _ hz) okz (Dp.sm (s428.trans s29) _ h1) gz fun H30 x30 s30 hx30 => ?_⟩
        have s430 := (s428.trans s29).trans s30
        refine ne_pv (hx29.same s30) hx30 ok okz p1 pz ⟨_, rfl, ?_⟩
        rw [nz, Bool.false_and]
        refine iteF ?_
        exact ⟨_, _, _, _, _, _, _, _, _, s4, rfl, R4.same s430, by omega⟩
    · subst eσ
      exact q _
end
end XB
set_option Elab.async false
set_option linter.all false
set_option maxRecDepth 100000
namespace XB
open PySem PySem.Spec PyProof.Rows L2
theorem dn_mk {K : PySem.W.Frag} {h : Heap} {mg : Str → Option Value} {x : Str} {st : Stmt} {f : Addr} {oc : Value} {od an : Option Addr} {osl : Array (Option Value)} {kV doc pm cdv ct : Value} (X : K.In h) (G : h.Ns mainGlobals mg)
    (a : PySem.W.nsIn K mainGlobals x = some (some (.ref f))) (l : K.lookup f = some ⟨oc, od, .func (PySem.W.fnOf x x (defArgs st) (defBody st) (defScope st) .none kV doc pm an cdv ct), osl⟩)
    (c : PySem.W.codeIn K cdv x = true) (k : PySem.W.keepIn K (.ref f) = true) : Dn K mg x st := ⟨f, _, fun_mk l c k, PySem.W.mg_of X G a⟩
theorem int_mk {K : PySem.W.Frag} {h : Heap} {mg : Str → Option Value} {x : Str} {z n : Int} {t : Tok} (X : K.In h) (G : h.Ns mainGlobals mg) (a : PySem.W.nsIn K mainGlobals x = some (some (.int z t))) (e : z = n) : ∃ t, mg x = some (.int n t) :=
  ⟨t, by rw [← e]; exact PySem.W.mg_of X G a⟩
theorem loose_int {p : Program} {n : Str} {z : Int} {mg : Str → Option Value} {h : Heap} (x : PySem.W.XL p [(n, PySem.W.WData.int z)] mg h) : ∃ t, mg n = some (.int z t) := by
  obtain ⟨v, a, b⟩ := x.2.val _ List.mem_cons_self
  cases b
  exact ⟨_, a⟩
theorem loose_int2 {p : Program} {n n2 : Str} {z z2 : Int} {mg : Str → Option Value} {h : Heap} (x : PySem.W.XL p [(n, PySem.W.WData.int z), (n2, PySem.W.WData.int z2)] mg h) : (∃ t, mg n = some (.int z t)) ∧ ∃ t, mg n2 = some (.int z2 t) := by
  obtain ⟨v, a, b⟩ := x.2.val _ List.mem_cons_self
  obtain ⟨v2, a2, b2⟩ := x.2.val _ (List.mem_cons_of_mem _ List.mem_cons_self)
  cases b
  cases b2
  exact ⟨⟨_, a⟩, _, a2⟩
theorem law_mk {P : Program} {w : World} {K : PySem.W.Frag} {h : Heap} {mg : Str → Option Value} {fa f : Addr} {oc : Value} {od an : Option Addr} {osl : Array (Option Value)} {kV doc pm cdv ct : Value} (X : K.In h) (G : h.Ns mainGlobals mg) (hfa : mg "law" = some (.ref fa)) (T : Tx K mg)
    (a : PySem.W.nsIn K mainGlobals "law" = some (some (.ref f))) (l : K.lookup f = some ⟨oc, od, .func (PySem.W.fnOf "law" "law" (defArgs s_law) (defBody s_law) (defScope s_law) .none kV doc pm an cdv ct), osl⟩)
    (c : PySem.W.codeIn K cdv "law" = true) (k : PySem.W.keepIn K (.ref f) = true) :
    ∃ fd : FuncData, (∀ (s : Shared) (v : Value), BindsTo s fd ⟨[v], []⟩ [("script", v)]) ∧ ∀ base : Heap, K.In base → base.Ns mainGlobals mg → FnG P w K mg base CX0 10 fa fd ["script"] (spLaw K) := by
  have e := hfa.symm.trans (PySem.W.mg_of X G a)
  cases e
  exact ⟨_, fun s v => .of_eq rfl, fun base _ _ => fg_law T (fun_mk (st := s_law) l c k)⟩
end XB
namespace XB
open PySem PySem.Spec PyProof.Rows L2
theorem ek_mk {K : PySem.W.Frag} {h : Heap} {mg : Str → Option Value} {x q : Str} {st : Stmt} {C fI N : Addr} {nm qn : Str} {bs bm : List Value} {sn : List Str} {sub : List Value} {ab : Bool} {col : Option Bool} {dd : Option Addr} {k0 k1 k2 k3 k5 : Option Value} {oc : Value} {od an : Option Addr} {osl : Array (Option Value)} {kV doc pm cdv ct : Value}
    (X : K.In h) (G : h.Ns mainGlobals mg) (a : PySem.W.nsIn K mainGlobals x = some (some (.ref C))) (l : K.lookup C = some (excClassObj nm qn C N bs bm true sn sub ab col dd k0 k1 k2 k3 k5 "ValueError.__new__")) (r : PySem.HandSPX.refsVE bm = true)
    (sa : PySem.W.findIn K (.ref C) "__setattr__" = some (some (.builtin "object.__setattr__"))) (xc : PySem.W.subIn K (.ref C) (.type "BaseException") = some true) (ty : PySem.W.typeIn K (.ref C) = some (.type "type")) (kC : PySem.W.keepIn K (.ref C) = true)
    (ga : PySem.W.findIn K (.ref C) "__getattribute__" = some (some (.builtin "BaseException.__getattribute__"))) (gg : PySem.W.findIn K (.ref C) "__getattr__" = some none) (hd : PySem.W.hasDictIn K C = true) (ca : PySem.W.findIn K (.ref C) "__class__" = some (some (.builtin "object.__class__")))
    (sp : PySem.W.specialIn K (.builtin "object.__class__") "__get__" = some (some (.builtin "getset_descriptor.__get__"))) (tk : PySem.W.takesIn K (.builtin "object.__class__") = some true) (mo : PySem.W.mroIn K C (.type "object") = some true)
    (i : PySem.W.findIn K (.ref C) "__init__" = some (some (.ref fI))) (ti : PySem.W.typeIn K (.ref fI) = some (.type "function")) (fl : K.lookup fI = some ⟨oc, od, .func (PySem.W.fnOf "__init__" q (defArgs st) (defBody st) (defScope st) .none kV doc pm an cdv ct), osl⟩)
    (fc : PySem.W.codeIn K cdv q = true) (fk : PySem.W.keepIn K (.ref fI) = true) : Ek K mg x q st :=
  ⟨C, fI, _, PySem.W.mg_of X G a, ⟨⟨nm, qn, N, bs, bm, sn, sub, ab, col, dd, k0, k1, k2, k3, k5, _, _, _, _, l, F.excBase_ValueError, fun Y => PySem.HandSPX.refsVE_contains Y bm r, fun self => PySem.HandSPX.refsVE_pass self (.ref C :: bm) r, (PySem.HandSPX.refsVE_contains "object" (.ref C :: bm) r).trans (by decide +kernel)⟩, sa, xc, ty, kC⟩, ⟨ga, gg, xc, hd, ca, sp, tk, mo⟩, i, ti, fun_mk fl fc fk⟩
theorem ek_mkO {K : PySem.W.Frag} {h : Heap} {mg : Str → Option Value} {x q : Str} {st : Stmt} {C fI N : Addr} {nm qn : Str} {bs bm : List Value} {sn : List Str} {sub : List Value} {ab : Bool} {col : Option Bool} {dd : Option Addr} {k0 k1 k2 k3 k5 : Option Value} {oc : Value} {od an : Option Addr} {osl : Array (Option Value)} {kV doc pm cdv ct : Value}
    (X : K.In h) (G : h.Ns mainGlobals mg) (a : PySem.W.nsIn K mainGlobals x = some (some (.ref C))) (l : K.lookup C = some (excClassObj nm qn C N bs bm true sn sub ab col dd k0 k1 k2 k3 k5 "OverflowError.__new__")) (r : bm = [.type "OverflowError", .type "ArithmeticError", .type "Exception", .type "BaseException", .type "object"])
    (sa : PySem.W.findIn K (.ref C) "__setattr__" = some (some (.builtin "object.__setattr__"))) (xc : PySem.W.subIn K (.ref C) (.type "BaseException") = some true) (ty : PySem.W.typeIn K (.ref C) = some (.type "type")) (kC : PySem.W.keepIn K (.ref C) = true)
    (ga : PySem.W.findIn K (.ref C) "__getattribute__" = some (some (.builtin "BaseException.__getattribute__"))) (gg : PySem.W.findIn K (.ref C) "__getattr__" = some none) (hd : PySem.W.hasDictIn K C = true) (ca : PySem.W.findIn K (.ref C) "__class__" = some (some (.builtin "object.__class__")))
    (sp : PySem.W.specialIn K (.builtin "object.__class__") "__get__" = some (some (.builtin "getset_descriptor.__get__"))) (tk : PySem.W.takesIn K (.builtin "object.__class__") = some true) (mo : PySem.W.mroIn K C (.type "object") = some true)
    (i : PySem.W.findIn K (.ref C) "__init__" = some (some (.ref fI))) (ti : PySem.W.typeIn K (.ref fI) = some (.type "function")) (fl : K.lookup fI = some ⟨oc, od, .func (PySem.W.fnOf "__init__" q (defArgs st) (defBody st) (defScope st) .none kV doc pm an cdv ct), osl⟩)
    (fc : PySem.W.codeIn K cdv q = true) (fk : PySem.W.keepIn K (.ref fI) = true) : Ek K mg x q st := by
  subst r
  refine ⟨C, fI, _, PySem.W.mg_of X G a, ⟨⟨nm, qn, N, bs, _, sn, sub, ab, col, dd, k0, k1, k2, k3, k5, _, _, _, _, l, F.excBase_OverflowError, fun _ => rfl, fun self => ?_, by rw [List.contains_cons]; exact (Bool.or_eq_true _ _).mpr (.inr (by decide +kernel))⟩, sa, xc, ty, kC⟩, ⟨ga, gg, xc, hd, ca, sp, tk, mo⟩, i, ti, fun_mk fl fc fk⟩
  rw [refuseLoop_ref]
  exact F.store_OverflowError.passes self
theorem v_mk {K : PySem.W.Frag} {h : Heap} {mg : Str → Option Value} {x : Str} {C N : Addr} {nm qn : Str} {bs bm : List Value} {sn : List Str} {sub : List Value} {ab : Bool} {col : Option Bool} {dd : Option Addr} {k0 k1 k2 k3 k5 : Option Value}
    (X : K.In h) (G : h.Ns mainGlobals mg) (a : PySem.W.nsIn K mainGlobals x = some (some (.ref C))) (l : K.lookup C = some (excClassObj nm qn C N bs bm true sn sub ab col dd k0 k1 k2 k3 k5 "ValueError.__new__")) (r : PySem.HandSPX.refsVE bm = true)
    (sa : PySem.W.findIn K (.ref C) "__setattr__" = some (some (.builtin "object.__setattr__"))) (xc : PySem.W.subIn K (.ref C) (.type "BaseException") = some true) (ty : PySem.W.typeIn K (.ref C) = some (.type "type")) (kC : PySem.W.keepIn K (.ref C) = true) : ∃ C, mg x = some (.ref C) ∧ OexC K C :=
  ⟨C, PySem.W.mg_of X G a, ⟨⟨nm, qn, N, bs, bm, sn, sub, ab, col, dd, k0, k1, k2, k3, k5, l, r⟩, sa, xc, ty, kC⟩⟩
theorem exm_mk {K : PySem.W.Frag} {h : Heap} {mg : Str → Option Value} {x y : Str} {C D : Addr} {b : Bool} (X : K.In h) (G : h.Ns mainGlobals mg) (a : PySem.W.nsIn K mainGlobals x = some (some (.ref C))) (c : PySem.W.nsIn K mainGlobals y = some (some (.ref D))) (n : PySem.W.exmOne K (.ref C) (.ref D) = some b) : Exm K mg x y b := fun C' D' z w => by
  rw [cls_eq z (PySem.W.mg_of X G a), cls_eq w (PySem.W.mg_of X G c)]
  exact n
theorem c_mk {K : PySem.W.Frag} {h : Heap} {mg : Str → Option Value} {x : Str} {C : Addr} (X : K.In h) (G : h.Ns mainGlobals mg) (a : PySem.W.nsIn K mainGlobals x = some (some (.ref C))) : ∃ C, mg x = some (.ref C) := ⟨C, PySem.W.mg_of X G a⟩
theorem nof_mk {K : PySem.W.Frag} {h : Heap} {mg : Str → Option Value} {x f : Str} {C : Addr} (X : K.In h) (G : h.Ns mainGlobals mg) (a : PySem.W.nsIn K mainGlobals x = some (some (.ref C))) (n : PySem.W.findIn K (.ref C) f = some none) : NoF K mg x f := fun D z => by
  rw [cls_eq z (PySem.W.mg_of X G a)]
  exact n
theorem kit_mk {K : PySem.W.Frag} {h : Heap} {mg : Str → Option Value} {x y : Str} {C D : Addr} {b : Bool} (X : K.In h) (G : h.Ns mainGlobals mg) (a : PySem.W.nsIn K mainGlobals x = some (some (.ref C))) (c : PySem.W.nsIn K mainGlobals y = some (some (.ref D))) (n : PySem.W.kitOne K (.ref C) (.ref D) = some b) : Kit K mg x y b := fun C' D' z w => by
  rw [cls_eq z (PySem.W.mg_of X G a), cls_eq w (PySem.W.mg_of X G c)]
  exact n
theorem kitB_mk {K : PySem.W.Frag} {h : Heap} {mg : Str → Option Value} {x : Str} {y : String} {C : Addr} {b : Bool} (X : K.In h) (G : h.Ns mainGlobals mg) (a : PySem.W.nsIn K mainGlobals x = some (some (.ref C))) (n : PySem.W.kitOne K (.ref C) (.type y) = some b) : KitB K mg x y b := fun C' z => by
  rw [cls_eq z (PySem.W.mg_of X G a)]
  exact n
end XB
namespace XB
open PySem PySem.Spec PyProof.Rows L2
theorem oc_mk {K : PySem.W.Frag} {h : Heap} {mg : Str → Option Value} {x : Str} {C : Addr} (X : K.In h) (G : h.Ns mainGlobals mg) (a : PySem.W.nsIn K mainGlobals x = some (some (.ref C)))
    (pg : PySem.W.plainGet K C Str.empty = true) (hd : PySem.W.hasDictIn K C = true) (po : PySem.W.plainOver K C = true) (sa : PySem.W.findIn K (.ref C) "__setattr__" = some (some (.builtin "object.__setattr__")))
    (sf : PySem.W.selfFirst K C = true) (mk : PySem.W.makesIn K C = true) (kp : PySem.W.keepIn K (.ref C) = true)
    (ca : PySem.W.findIn K (.ref C) "__class__" = some (some (.builtin "object.__class__"))) (sp : PySem.W.specialIn K (.builtin "object.__class__") "__get__" = some (some (.builtin "getset_descriptor.__get__"))) (tk : PySem.W.takesIn K (.builtin "object.__class__") = some true) (mo : PySem.W.mroIn K C (.type "object") = some true) : Oc K mg x :=
  ⟨⟨C, PySem.W.mg_of X G a, ⟨pg, hd, po, sa⟩, sf, mk, kp⟩, ⟨C, PySem.W.mg_of X G a, ca, sp, tk, mo⟩⟩
theorem mt_mk {K : PySem.W.Frag} {h : Heap} {mg : Str → Option Value} {x m q : Str} {st : Stmt} {C f : Addr} {oc : Value} {od an : Option Addr} {osl : Array (Option Value)} {kV doc pm cdv ct : Value} (X : K.In h) (G : h.Ns mainGlobals mg) (a : PySem.W.nsIn K mainGlobals x = some (some (.ref C)))
    (i : PySem.W.findIn K (.ref C) m = some (some (.ref f))) (fn : PySem.W.isFn K (.ref f) = true) (l : K.lookup f = some ⟨oc, od, .func (PySem.W.fnOf m q (defArgs st) (defBody st) (defScope st) .none kV doc pm an cdv ct), osl⟩)
    (c : PySem.W.codeIn K cdv q = true) (k : PySem.W.keepIn K (.ref f) = true) : Mt K mg x m q st := ⟨C, f, _, PySem.W.mg_of X G a, ⟨i, fn, k⟩, fun_mk l c k⟩
theorem pt_mk {K : PySem.W.Frag} {h : Heap} {mg : Str → Option Value} {x m q : Str} {st : Stmt} {C p g : Addr} {rest : List Value} {oc : Value} {od an : Option Addr} {osl : Array (Option Value)} {kV doc pm cdv ct : Value} (X : K.In h) (G : h.Ns mainGlobals mg) (a : PySem.W.nsIn K mainGlobals x = some (some (.ref C)))
    (i : PySem.W.findIn K (.ref C) m = some (some (.ref p))) (gt : PySem.W.specialIn K (.ref p) "__get__" = some (some (.builtin "property.__get__"))) (tk : PySem.W.takesIn K (.ref p) = some true) (re : PySem.W.recIn K p "property" = some (.ref g :: rest)) (l : K.lookup g = some ⟨oc, od, .func (PySem.W.fnOf m q (defArgs st) (defBody st) (defScope st) .none kV doc pm an cdv ct), osl⟩)
    (c : PySem.W.codeIn K cdv q = true) (k : PySem.W.keepIn K (.ref g) = true) : Pt K mg x m q st := ⟨C, p, g, _, PySem.W.mg_of X G a, ⟨i, gt, tk, rest, re⟩, fun_mk l c k⟩
theorem kitd_mk {K : PySem.W.Frag} {h : Heap} {mg : Str → Option Value} {x : Str} {C : Addr} (X : K.In h) (G : h.Ns mainGlobals mg) (a : PySem.W.nsIn K mainGlobals x = some (some (.ref C)))
    (n1 : PySem.W.kitOne K (.type "NoneType") (.ref C) = some false) (n2 : PySem.W.kitOne K (.type "int") (.ref C) = some false) (n3 : PySem.W.kitOne K (.type "bool") (.ref C) = some false) (n4 : PySem.W.kitOne K (.type "str") (.ref C) = some false)
    (n5 : PySem.W.kitOne K (.type "tuple") (.ref C) = some false) (n6 : PySem.W.kitOne K (.type "list") (.ref C) = some false) (n7 : PySem.W.kitOne K (.type "dict") (.ref C) = some false) : KitD K mg x := fun D z T hT => by
  rw [cls_eq z (PySem.W.mg_of X G a)]
  simp only [List.mem_cons, List.not_mem_nil, or_false] at hT
  rcases hT with e | e | e | e | e | e | e <;> subst e <;> assumption
end XB
open PySem PySem.W PyProof.Rows in
set_option maxRecDepth 100000 in
set_option maxHeartbeats 0 in
theorem PySem.Challenge.cw_deedpiles_k90_whole_values_holds : PySem.Challenge.rw_deedpiles_k90_whole_values.Holds := by
  w_on; o_law; k_head; (case hw => w_witness2)
  k_fill
  refine XB.walk_gX (TX := fun mg => (∃ t, mg "MOST_TIMES" = some (.int (10 ^ 30) t))) (l := PySem.Challenge.rw_deedpiles_k90_whole_values) (n := 63) (k := 10) (x := "script") (sp := XB.spLaw) rfl (by decide) rfl ⟨rfl, by decide, by decide⟩ ?told (fun w h Y => PySem.W.kIn_of Y) ?F (fun _ _ a ns hl s => ⟨a, ns, rfl, s, Nat.le_trans hl (by decide), fun _ => rfl⟩)
  case told =>
    intro mg h x
    exact XB.loose_int x
  case F =>
    intro w mg fa h KX G hmg hMT
    refine' XB.law_mk KX G hmg ?T ?la ?ll ?lc ?lk
    case T =>
      constructor
      case c_PileError =>
        refine' XB.c_mk KX G ?z1a
        (case z1a => k_is)
      case c_BadField =>
        refine' XB.c_mk KX G ?z2a
        (case z2a => k_is)
      case c_BadScript =>
        refine' XB.c_mk KX G ?z3a
        (case z3a => k_is)
      case c_BadNumber =>
        refine' XB.c_mk KX G ?z4a
        (case z4a => k_is)
      case c_Unlike =>
        refine' XB.c_mk KX G ?z5a
        (case z5a => k_is)
      case c_TooGreat =>
        refine' XB.c_mk KX G ?z6a
        (case z6a => k_is)
      case e_BadField =>
        refine' XB.ek_mk KX G ?z7a ?z7b ?z7c ?z7d ?z7e ?z7f ?z7g ?z7h ?z7i ?z7j ?z7k ?z7l ?z7m ?z7n ?z7o ?z7p ?z7q ?z7r ?z7s
        (case z7a => first | k_is | rfl | decide +kernel)
        (case z7b => first | k_is | rfl | decide +kernel)
        (case z7c => first | k_is | rfl | decide +kernel)
        (case z7d => first | k_is | rfl | decide +kernel)
        (case z7e => first | k_is | rfl | decide +kernel)
        (case z7f => first | k_is | rfl | decide +kernel)
        (case z7g => first | k_is | rfl | decide +kernel)
        (case z7h => first | k_is | rfl | decide +kernel)
        (case z7i => first | k_is | rfl | decide +kernel)
        (case z7j => first | k_is | rfl | decide +kernel)
        (case z7k => first | k_is | rfl | decide +kernel)
        (case z7l => first | k_is | rfl | decide +kernel)
        (case z7m => first | k_is | rfl | decide +kernel)
        (case z7n => first | k_is | rfl | decide +kernel)
        (case z7o => first | k_is | rfl | decide +kernel)
        (case z7p => first | k_is | rfl | decide +kernel)
        (case z7q => first | k_is | rfl | decide +kernel)
        (case z7r => first | k_is | rfl | decide +kernel)
        (case z7s => first | k_is | rfl | decide +kernel)
      case e_BadScript =>
        refine' XB.ek_mk KX G ?z8a ?z8b ?z8c ?z8d ?z8e ?z8f ?z8g ?z8h ?z8i ?z8j ?z8k ?z8l ?z8m ?z8n ?z8o ?z8p ?z8q ?z8r ?z8s
        (case z8a => first | k_is | rfl | decide +kernel)
        (case z8b => first | k_is | rfl | decide +kernel)
        (case z8c => first | k_is | rfl | decide +kernel)
        (case z8d => first | k_is | rfl | decide +kernel)
        (case z8e => first | k_is | rfl | decide +kernel)
        (case z8f => first | k_is | rfl | decide +kernel)
        (case z8g => first | k_is | rfl | decide +kernel)
        (case z8h => first | k_is | rfl | decide +kernel)
        (case z8i => first | k_is | rfl | decide +kernel)
        (case z8j => first | k_is | rfl | decide +kernel)
        (case z8k => first | k_is | rfl | decide +kernel)
        (case z8l => first | k_is | rfl | decide +kernel)
        (case z8m => first | k_is | rfl | decide +kernel)
        (case z8n => first | k_is | rfl | decide +kernel)
        (case z8o => first | k_is | rfl | decide +kernel)
        (case z8p => first | k_is | rfl | decide +kernel)
        (case z8q => first | k_is | rfl | decide +kernel)
        (case z8r => first | k_is | rfl | decide +kernel)
        (case z8s => first | k_is | rfl | decide +kernel)
      case e_Unlike =>
        refine' XB.ek_mk KX G ?z9a ?z9b ?z9c ?z9d ?z9e ?z9f ?z9g ?z9h ?z9i ?z9j ?z9k ?z9l ?z9m ?z9n ?z9o ?z9p ?z9q ?z9r ?z9s
        (case z9a => first | k_is | rfl | decide +kernel)
        (case z9b => first | k_is | rfl | decide +kernel)
        (case z9c => first | k_is | rfl | decide +kernel)
        (case z9d => first | k_is | rfl | decide +kernel)
        (case z9e => first | k_is | rfl | decide +kernel)
        (case z9f => first | k_is | rfl | decide +kernel)
        (case z9g => first | k_is | rfl | decide +kernel)
        (case z9h => first | k_is | rfl | decide +kernel)
        (case z9i => first | k_is | rfl | decide +kernel)
        (case z9j => first | k_is | rfl | decide +kernel)
        (case z9k => first | k_is | rfl | decide +kernel)
        (case z9l => first | k_is | rfl | decide +kernel)
        (case z9m => first | k_is | rfl | decide +kernel)
        (case z9n => first | k_is | rfl | decide +kernel)
        (case z9o => first | k_is | rfl | decide +kernel)
        (case z9p => first | k_is | rfl | decide +kernel)
        (case z9q => first | k_is | rfl | decide +kernel)
        (case z9r => first | k_is | rfl | decide +kernel)
        (case z9s => first | k_is | rfl | decide +kernel)
      case e_TooGreat =>
        refine' XB.ek_mkO KX G ?z10a ?z10b ?z10c ?z10d ?z10e ?z10f ?z10g ?z10h ?z10i ?z10j ?z10k ?z10l ?z10m ?z10n ?z10o ?z10p ?z10q ?z10r ?z10s
        (case z10a => first | k_is | rfl | decide +kernel)
        (case z10b => first | k_is | rfl | decide +kernel)
        (case z10c => first | k_is | rfl | decide +kernel)
        (case z10d => first | k_is | rfl | decide +kernel)
        (case z10e => first | k_is | rfl | decide +kernel)
        (case z10f => first | k_is | rfl | decide +kernel)
        (case z10g => first | k_is | rfl | decide +kernel)
        (case z10h => first | k_is | rfl | decide +kernel)
        (case z10i => first | k_is | rfl | decide +kernel)
        (case z10j => first | k_is | rfl | decide +kernel)
        (case z10k => first | k_is | rfl | decide +kernel)
        (case z10l => first | k_is | rfl | decide +kernel)
        (case z10m => first | k_is | rfl | decide +kernel)
        (case z10n => first | k_is | rfl | decide +kernel)
        (case z10o => first | k_is | rfl | decide +kernel)
        (case z10p => first | k_is | rfl | decide +kernel)
        (case z10q => first | k_is | rfl | decide +kernel)
        (case z10r => first | k_is | rfl | decide +kernel)
        (case z10s => first | k_is | rfl | decide +kernel)
      case e_BadNumber =>
        refine' XB.ek_mk KX G ?z11a ?z11b ?z11c ?z11d ?z11e ?z11f ?z11g ?z11h ?z11i ?z11j ?z11k ?z11l ?z11m ?z11n ?z11o ?z11p ?z11q ?z11r ?z11s
        (case z11a => first | k_is | rfl | decide +kernel)
        (case z11b => first | k_is | rfl | decide +kernel)
        (case z11c => first | k_is | rfl | decide +kernel)
        (case z11d => first | k_is | rfl | decide +kernel)
        (case z11e => first | k_is | rfl | decide +kernel)
        (case z11f => first | k_is | rfl | decide +kernel)
        (case z11g => first | k_is | rfl | decide +kernel)
        (case z11h => first | k_is | rfl | decide +kernel)
        (case z11i => first | k_is | rfl | decide +kernel)
        (case z11j => first | k_is | rfl | decide +kernel)
        (case z11k => first | k_is | rfl | decide +kernel)
        (case z11l => first | k_is | rfl | decide +kernel)
        (case z11m => first | k_is | rfl | decide +kernel)
        (case z11n => first | k_is | rfl | decide +kernel)
        (case z11o => first | k_is | rfl | decide +kernel)
        (case z11p => first | k_is | rfl | decide +kernel)
        (case z11q => first | k_is | rfl | decide +kernel)
        (case z11r => first | k_is | rfl | decide +kernel)
        (case z11s => first | k_is | rfl | decide +kernel)
      case n_BadField_part =>
        refine' XB.nof_mk KX G ?z12a ?z12b
        (case z12a => first | k_is | rfl | decide +kernel)
        (case z12b => first | k_is | rfl | decide +kernel)
      case n_BadScript_place =>
        refine' XB.nof_mk KX G ?z13a ?z13b
        (case z13a => first | k_is | rfl | decide +kernel)
        (case z13b => first | k_is | rfl | decide +kernel)
      case n_Unlike_value =>
        refine' XB.nof_mk KX G ?z14a ?z14b
        (case z14a => first | k_is | rfl | decide +kernel)
        (case z14b => first | k_is | rfl | decide +kernel)
      case n_TooGreat_most =>
        refine' XB.nof_mk KX G ?z15a ?z15b
        (case z15a => first | k_is | rfl | decide +kernel)
        (case z15b => first | k_is | rfl | decide +kernel)
      case n_BadNumber_value =>
        refine' XB.nof_mk KX G ?z16a ?z16b
        (case z16a => first | k_is | rfl | decide +kernel)
        (case z16b => first | k_is | rfl | decide +kernel)
      case o_Pieces =>
        refine' XB.oc_mk KX G ?z17a ?z17b ?z17c ?z17d ?z17e ?z17f ?z17g ?z17h ?z17i ?z17j ?z17k ?z17l
        (case z17a => first | k_is | rfl | decide +kernel)
        (case z17b => first | k_is | rfl | decide +kernel)
        (case z17c => first | k_is | rfl | decide +kernel)
        (case z17d => first | k_is | rfl | decide +kernel)
        (case z17e => first | k_is | rfl | decide +kernel)
        (case z17f => first | k_is | rfl | decide +kernel)
        (case z17g => first | k_is | rfl | decide +kernel)
        (case z17h => first | k_is | rfl | decide +kernel)
        (case z17i => first | k_is | rfl | decide +kernel)
        (case z17j => first | k_is | rfl | decide +kernel)
        (case z17k => first | k_is | rfl | decide +kernel)
        (case z17l => first | k_is | rfl | decide +kernel)
      case m_Pieces___init__ =>
        refine' XB.mt_mk KX G ?z18a ?z18b ?z18c ?z18d ?z18e ?z18f
        (case z18a => first | k_is | rfl | decide +kernel)
        (case z18b => first | k_is | rfl | decide +kernel)
        (case z18c => first | k_is | rfl | decide +kernel)
        (case z18d => first | k_is | rfl | decide +kernel)
        (case z18e => first | k_is | rfl | decide +kernel)
        (case z18f => first | k_is | rfl | decide +kernel)
      case n_Pieces_made =>
        refine' XB.nof_mk KX G ?z19a ?z19b
        (case z19a => first | k_is | rfl | decide +kernel)
        (case z19b => first | k_is | rfl | decide +kernel)
      case o_Pile =>
        refine' XB.oc_mk KX G ?z20a ?z20b ?z20c ?z20d ?z20e ?z20f ?z20g ?z20h ?z20i ?z20j ?z20k ?z20l
        (case z20a => first | k_is | rfl | decide +kernel)
        (case z20b => first | k_is | rfl | decide +kernel)
        (case z20c => first | k_is | rfl | decide +kernel)
        (case z20d => first | k_is | rfl | decide +kernel)
        (case z20e => first | k_is | rfl | decide +kernel)
        (case z20f => first | k_is | rfl | decide +kernel)
        (case z20g => first | k_is | rfl | decide +kernel)
        (case z20h => first | k_is | rfl | decide +kernel)
        (case z20i => first | k_is | rfl | decide +kernel)
        (case z20j => first | k_is | rfl | decide +kernel)
        (case z20k => first | k_is | rfl | decide +kernel)
        (case z20l => first | k_is | rfl | decide +kernel)
      case m_Pile___init__ =>
        refine' XB.mt_mk KX G ?z21a ?z21b ?z21c ?z21d ?z21e ?z21f
        (case z21a => first | k_is | rfl | decide +kernel)
        (case z21b => first | k_is | rfl | decide +kernel)
        (case z21c => first | k_is | rfl | decide +kernel)
        (case z21d => first | k_is | rfl | decide +kernel)
        (case z21e => first | k_is | rfl | decide +kernel)
        (case z21f => first | k_is | rfl | decide +kernel)
      case m_Pile___len__ =>
        refine' XB.mt_mk KX G ?z22a ?z22b ?z22c ?z22d ?z22e ?z22f
        (case z22a => first | k_is | rfl | decide +kernel)
        (case z22b => first | k_is | rfl | decide +kernel)
        (case z22c => first | k_is | rfl | decide +kernel)
        (case z22d => first | k_is | rfl | decide +kernel)
        (case z22e => first | k_is | rfl | decide +kernel)
        (case z22f => first | k_is | rfl | decide +kernel)
      case m_Pile___getitem__ =>
        refine' XB.mt_mk KX G ?z23a ?z23b ?z23c ?z23d ?z23e ?z23f
        (case z23a => first | k_is | rfl | decide +kernel)
        (case z23b => first | k_is | rfl | decide +kernel)
        (case z23c => first | k_is | rfl | decide +kernel)
        (case z23d => first | k_is | rfl | decide +kernel)
        (case z23e => first | k_is | rfl | decide +kernel)
        (case z23f => first | k_is | rfl | decide +kernel)
      case m_Pile___contains__ =>
        refine' XB.mt_mk KX G ?z24a ?z24b ?z24c ?z24d ?z24e ?z24f
        (case z24a => first | k_is | rfl | decide +kernel)
        (case z24b => first | k_is | rfl | decide +kernel)
        (case z24c => first | k_is | rfl | decide +kernel)
        (case z24d => first | k_is | rfl | decide +kernel)
        (case z24e => first | k_is | rfl | decide +kernel)
        (case z24f => first | k_is | rfl | decide +kernel)
      case m_Pile___iter__ =>
        refine' XB.mt_mk KX G ?z25a ?z25b ?z25c ?z25d ?z25e ?z25f
        (case z25a => first | k_is | rfl | decide +kernel)
        (case z25b => first | k_is | rfl | decide +kernel)
        (case z25c => first | k_is | rfl | decide +kernel)
        (case z25d => first | k_is | rfl | decide +kernel)
        (case z25e => first | k_is | rfl | decide +kernel)
        (case z25f => first | k_is | rfl | decide +kernel)
      case m_Pile___eq__ =>
        refine' XB.mt_mk KX G ?z26a ?z26b ?z26c ?z26d ?z26e ?z26f
        (case z26a => first | k_is | rfl | decide +kernel)
        (case z26b => first | k_is | rfl | decide +kernel)
        (case z26c => first | k_is | rfl | decide +kernel)
        (case z26d => first | k_is | rfl | decide +kernel)
        (case z26e => first | k_is | rfl | decide +kernel)
        (case z26f => first | k_is | rfl | decide +kernel)
      case m_Pile___mul__ =>
        refine' XB.mt_mk KX G ?z27a ?z27b ?z27c ?z27d ?z27e ?z27f
        (case z27a => first | k_is | rfl | decide +kernel)
        (case z27b => first | k_is | rfl | decide +kernel)
        (case z27c => first | k_is | rfl | decide +kernel)
        (case z27d => first | k_is | rfl | decide +kernel)
        (case z27e => first | k_is | rfl | decide +kernel)
        (case z27f => first | k_is | rfl | decide +kernel)
      case m_Pile___invert__ =>
        refine' XB.mt_mk KX G ?z28a ?z28b ?z28c ?z28d ?z28e ?z28f
        (case z28a => first | k_is | rfl | decide +kernel)
        (case z28b => first | k_is | rfl | decide +kernel)
        (case z28c => first | k_is | rfl | decide +kernel)
        (case z28d => first | k_is | rfl | decide +kernel)
        (case z28e => first | k_is | rfl | decide +kernel)
        (case z28f => first | k_is | rfl | decide +kernel)
      case m_Pile___and__ =>
        refine' XB.mt_mk KX G ?z29a ?z29b ?z29c ?z29d ?z29e ?z29f
        (case z29a => first | k_is | rfl | decide +kernel)
        (case z29b => first | k_is | rfl | decide +kernel)
        (case z29c => first | k_is | rfl | decide +kernel)
        (case z29d => first | k_is | rfl | decide +kernel)
        (case z29e => first | k_is | rfl | decide +kernel)
        (case z29f => first | k_is | rfl | decide +kernel)
      case m_Pile_many =>
        refine' XB.mt_mk KX G ?z30a ?z30b ?z30c ?z30d ?z30e ?z30f
        (case z30a => first | k_is | rfl | decide +kernel)
        (case z30b => first | k_is | rfl | decide +kernel)
        (case z30c => first | k_is | rfl | decide +kernel)
        (case z30d => first | k_is | rfl | decide +kernel)
        (case z30e => first | k_is | rfl | decide +kernel)
        (case z30f => first | k_is | rfl | decide +kernel)
      case m_Pile_is_lower =>
        refine' XB.mt_mk KX G ?z31a ?z31b ?z31c ?z31d ?z31e ?z31f
        (case z31a => first | k_is | rfl | decide +kernel)
        (case z31b => first | k_is | rfl | decide +kernel)
        (case z31c => first | k_is | rfl | decide +kernel)
        (case z31d => first | k_is | rfl | decide +kernel)
        (case z31e => first | k_is | rfl | decide +kernel)
        (case z31f => first | k_is | rfl | decide +kernel)
      case m_Pile_over_both =>
        refine' XB.mt_mk KX G ?z32a ?z32b ?z32c ?z32d ?z32e ?z32f
        (case z32a => first | k_is | rfl | decide +kernel)
        (case z32b => first | k_is | rfl | decide +kernel)
        (case z32c => first | k_is | rfl | decide +kernel)
        (case z32d => first | k_is | rfl | decide +kernel)
        (case z32e => first | k_is | rfl | decide +kernel)
        (case z32f => first | k_is | rfl | decide +kernel)
      case m_Pile_distance =>
        refine' XB.mt_mk KX G ?z33a ?z33b ?z33c ?z33d ?z33e ?z33f
        (case z33a => first | k_is | rfl | decide +kernel)
        (case z33b => first | k_is | rfl | decide +kernel)
        (case z33c => first | k_is | rfl | decide +kernel)
        (case z33d => first | k_is | rfl | decide +kernel)
        (case z33e => first | k_is | rfl | decide +kernel)
        (case z33f => first | k_is | rfl | decide +kernel)
      case m_Pile_middle =>
        refine' XB.mt_mk KX G ?z34a ?z34b ?z34c ?z34d ?z34e ?z34f
        (case z34a => first | k_is | rfl | decide +kernel)
        (case z34b => first | k_is | rfl | decide +kernel)
        (case z34c => first | k_is | rfl | decide +kernel)
        (case z34d => first | k_is | rfl | decide +kernel)
        (case z34e => first | k_is | rfl | decide +kernel)
        (case z34f => first | k_is | rfl | decide +kernel)
      case p_Pile_field =>
        refine' XB.pt_mk KX G ?z35a ?z35b ?z35c ?z35d ?z35e ?z35f ?z35g ?z35h
        (case z35a => first | k_is | rfl | decide +kernel)
        (case z35b => first | k_is | rfl | decide +kernel)
        (case z35c => first | k_is | rfl | decide +kernel)
        (case z35d => first | k_is | rfl | decide +kernel)
        (case z35e => first | k_is | rfl | decide +kernel)
        (case z35f => first | k_is | rfl | decide +kernel)
        (case z35g => first | k_is | rfl | decide +kernel)
        (case z35h => first | k_is | rfl | decide +kernel)
      case p_Pile_steps =>
        refine' XB.pt_mk KX G ?z36a ?z36b ?z36c ?z36d ?z36e ?z36f ?z36g ?z36h
        (case z36a => first | k_is | rfl | decide +kernel)
        (case z36b => first | k_is | rfl | decide +kernel)
        (case z36c => first | k_is | rfl | decide +kernel)
        (case z36d => first | k_is | rfl | decide +kernel)
        (case z36e => first | k_is | rfl | decide +kernel)
        (case z36f => first | k_is | rfl | decide +kernel)
        (case z36g => first | k_is | rfl | decide +kernel)
        (case z36h => first | k_is | rfl | decide +kernel)
      case p_Pile_length =>
        refine' XB.pt_mk KX G ?z37a ?z37b ?z37c ?z37d ?z37e ?z37f ?z37g ?z37h
        (case z37a => first | k_is | rfl | decide +kernel)
        (case z37b => first | k_is | rfl | decide +kernel)
        (case z37c => first | k_is | rfl | decide +kernel)
        (case z37d => first | k_is | rfl | decide +kernel)
        (case z37e => first | k_is | rfl | decide +kernel)
        (case z37f => first | k_is | rfl | decide +kernel)
        (case z37g => first | k_is | rfl | decide +kernel)
        (case z37h => first | k_is | rfl | decide +kernel)
      case n_Pile__steps =>
        refine' XB.nof_mk KX G ?z38a ?z38b
        (case z38a => first | k_is | rfl | decide +kernel)
        (case z38b => first | k_is | rfl | decide +kernel)
      case n_Pile__field =>
        refine' XB.nof_mk KX G ?z39a ?z39b
        (case z39a => first | k_is | rfl | decide +kernel)
        (case z39b => first | k_is | rfl | decide +kernel)
      case q_Pile =>
        refine' XB.ne_mk KX G ?z40a ?z40b
        (case z40a => first | k_is | rfl | decide +kernel)
        (case z40b => first | k_is | rfl | decide +kernel)
      case k_Pieces =>
        refine' XB.kitd_mk KX G ?z41a ?z41b ?z41c ?z41d ?z41e ?z41f ?z41g ?z41h
        (case z41a => first | k_is | rfl | decide +kernel)
        (case z41b => first | k_is | rfl | decide +kernel)
        (case z41c => first | k_is | rfl | decide +kernel)
        (case z41d => first | k_is | rfl | decide +kernel)
        (case z41e => first | k_is | rfl | decide +kernel)
        (case z41f => first | k_is | rfl | decide +kernel)
        (case z41g => first | k_is | rfl | decide +kernel)
        (case z41h => first | k_is | rfl | decide +kernel)
      case i_Pieces_Pieces =>
        refine' XB.kit_mk KX G ?z42a ?z42b ?z42c
        (case z42a => first | k_is | rfl | decide +kernel)
        (case z42b => first | k_is | rfl | decide +kernel)
        (case z42c => first | k_is | rfl | decide +kernel)
      case i_Pile_Pieces =>
        refine' XB.kit_mk KX G ?z43a ?z43b ?z43c
        (case z43a => first | k_is | rfl | decide +kernel)
        (case z43b => first | k_is | rfl | decide +kernel)
        (case z43c => first | k_is | rfl | decide +kernel)
      case k_Pile =>
        refine' XB.kitd_mk KX G ?z44a ?z44b ?z44c ?z44d ?z44e ?z44f ?z44g ?z44h
        (case z44a => first | k_is | rfl | decide +kernel)
        (case z44b => first | k_is | rfl | decide +kernel)
        (case z44c => first | k_is | rfl | decide +kernel)
        (case z44d => first | k_is | rfl | decide +kernel)
        (case z44e => first | k_is | rfl | decide +kernel)
        (case z44f => first | k_is | rfl | decide +kernel)
        (case z44g => first | k_is | rfl | decide +kernel)
        (case z44h => first | k_is | rfl | decide +kernel)
      case i_Pieces_Pile =>
        refine' XB.kit_mk KX G ?z45a ?z45b ?z45c
        (case z45a => first | k_is | rfl | decide +kernel)
        (case z45b => first | k_is | rfl | decide +kernel)
        (case z45c => first | k_is | rfl | decide +kernel)
      case i_Pile_Pile =>
        refine' XB.kit_mk KX G ?z46a ?z46b ?z46c
        (case z46a => first | k_is | rfl | decide +kernel)
        (case z46b => first | k_is | rfl | decide +kernel)
        (case z46c => first | k_is | rfl | decide +kernel)
      case b_OverflowError =>
        refine' PySem.W.mg_none_of KX G ?z47a
        (case z47a => k_is)
      case b_ValueError =>
        refine' PySem.W.mg_none_of KX G ?z48a
        (case z48a => k_is)
      case b_abs =>
        refine' PySem.W.mg_none_of KX G ?z49a
        (case z49a => k_is)
      case b_all =>
        refine' PySem.W.mg_none_of KX G ?z50a
        (case z50a => k_is)
      case b_any =>
        refine' PySem.W.mg_none_of KX G ?z51a
        (case z51a => k_is)
      case b_bool =>
        refine' PySem.W.mg_none_of KX G ?z52a
        (case z52a => k_is)
      case b_dict =>
        refine' PySem.W.mg_none_of KX G ?z53a
        (case z53a => k_is)
      case b_enumerate =>
        refine' PySem.W.mg_none_of KX G ?z54a
        (case z54a => k_is)
      case b_int =>
        refine' PySem.W.mg_none_of KX G ?z55a
        (case z55a => k_is)
      case b_isinstance =>
        refine' PySem.W.mg_none_of KX G ?z56a
        (case z56a => k_is)
      case b_len =>
        refine' PySem.W.mg_none_of KX G ?z57a
        (case z57a => k_is)
      case b_list =>
        refine' PySem.W.mg_none_of KX G ?z58a
        (case z58a => k_is)
      case b_max =>
        refine' PySem.W.mg_none_of KX G ?z59a
        (case z59a => k_is)
      case b_min =>
        refine' PySem.W.mg_none_of KX G ?z60a
        (case z60a => k_is)
      case b_range =>
        refine' PySem.W.mg_none_of KX G ?z61a
        (case z61a => k_is)
      case b_repr =>
        refine' PySem.W.mg_none_of KX G ?z62a
        (case z62a => k_is)
      case b_str =>
        refine' PySem.W.mg_none_of KX G ?z63a
        (case z63a => k_is)
      case b_sum =>
        refine' PySem.W.mg_none_of KX G ?z64a
        (case z64a => k_is)
      case b_tuple =>
        refine' PySem.W.mg_none_of KX G ?z65a
        (case z65a => k_is)
      case b_zip =>
        refine' PySem.W.mg_none_of KX G ?z66a
        (case z66a => k_is)
      case g_MOST_NAMES =>
        refine' XB.int_mk KX G ?z67a ?z67q
        (case z67a => k_is)
        (case z67q => rfl)
      case g_MOST_LETTERS =>
        refine' XB.int_mk KX G ?z68a ?z68q
        (case z68a => k_is)
        (case z68q => rfl)
      case g_MOST_STEPS =>
        refine' XB.int_mk KX G ?z69a ?z69q
        (case z69a => k_is)
        (case z69q => rfl)
      case g_MOST_TIMES => exact hMT
      case g_MOST_PIECES =>
        refine' XB.int_mk KX G ?z71a ?z71q
        (case z71a => k_is)
        (case z71q => rfl)
      case d__wall =>
        refine' XB.dn_mk KX G ?z72a ?z72l ?z72c ?z72k
        (case z72a => k_is)
        (case z72l => k_is)
        (case z72c => k_is)
        (case z72k => k_is)
      case d_is_whole =>
        refine' XB.dn_mk KX G ?z73a ?z73l ?z73c ?z73k
        (case z73a => k_is)
        (case z73l => k_is)
        (case z73c => k_is)
        (case z73k => k_is)
      case d_is_pair =>
        refine' XB.dn_mk KX G ?z74a ?z74l ?z74c ?z74k
        (case z74a => k_is)
        (case z74l => k_is)
        (case z74c => k_is)
        (case z74k => k_is)
      case d_is_ascending =>
        refine' XB.dn_mk KX G ?z75a ?z75l ?z75c ?z75k
        (case z75a => k_is)
        (case z75l => k_is)
        (case z75c => k_is)
        (case z75k => k_is)
      case d_need_field =>
        refine' XB.dn_mk KX G ?z76a ?z76l ?z76c ?z76k
        (case z76a => k_is)
        (case z76l => k_is)
        (case z76c => k_is)
        (case z76k => k_is)
      case d_touch_table =>
        refine' XB.dn_mk KX G ?z77a ?z77l ?z77c ?z77k
        (case z77a => k_is)
        (case z77l => k_is)
        (case z77c => k_is)
        (case z77k => k_is)
      case d_names_touching =>
        refine' XB.dn_mk KX G ?z78a ?z78l ?z78c ?z78k
        (case z78a => k_is)
        (case z78l => k_is)
        (case z78c => k_is)
        (case z78k => k_is)
      case d_are_apart =>
        refine' XB.dn_mk KX G ?z79a ?z79l ?z79c ?z79k
        (case z79a => k_is)
        (case z79l => k_is)
        (case z79c => k_is)
        (case z79k => k_is)
      case d_are_names =>
        refine' XB.dn_mk KX G ?z80a ?z80l ?z80c ?z80k
        (case z80a => k_is)
        (case z80l => k_is)
        (case z80c => k_is)
        (case z80k => k_is)
      case d_is_name =>
        refine' XB.dn_mk KX G ?z81a ?z81l ?z81c ?z81k
        (case z81a => k_is)
        (case z81l => k_is)
        (case z81c => k_is)
        (case z81k => k_is)
      case d_are_pairs =>
        refine' XB.dn_mk KX G ?z82a ?z82l ?z82c ?z82k
        (case z82a => k_is)
        (case z82l => k_is)
        (case z82c => k_is)
        (case z82k => k_is)
      case d_is_pair_of =>
        refine' XB.dn_mk KX G ?z83a ?z83l ?z83c ?z83k
        (case z83a => k_is)
        (case z83l => k_is)
        (case z83c => k_is)
        (case z83k => k_is)
      case d_need_script =>
        refine' XB.dn_mk KX G ?z84a ?z84l ?z84c ?z84k
        (case z84a => k_is)
        (case z84l => k_is)
        (case z84c => k_is)
        (case z84k => k_is)
      case d_is_step =>
        refine' XB.dn_mk KX G ?z85a ?z85l ?z85c ?z85k
        (case z85a => k_is)
        (case z85l => k_is)
        (case z85c => k_is)
        (case z85k => k_is)
      case d_is_great_step =>
        refine' XB.dn_mk KX G ?z86a ?z86l ?z86c ?z86k
        (case z86a => k_is)
        (case z86l => k_is)
        (case z86c => k_is)
        (case z86k => k_is)
      case d_is_times =>
        refine' XB.dn_mk KX G ?z87a ?z87l ?z87c ?z87k
        (case z87a => k_is)
        (case z87l => k_is)
        (case z87c => k_is)
        (case z87k => k_is)
      case d_least_pile =>
        refine' XB.dn_mk KX G ?z88a ?z88l ?z88c ?z88k
        (case z88a => k_is)
        (case z88l => k_is)
        (case z88c => k_is)
        (case z88k => k_is)
      case d_piled =>
        refine' XB.dn_mk KX G ?z89a ?z89l ?z89c ?z89k
        (case z89a => k_is)
        (case z89l => k_is)
        (case z89c => k_is)
        (case z89k => k_is)
      case d_last_touched =>
        refine' XB.dn_mk KX G ?z90a ?z90l ?z90c ?z90k
        (case z90a => k_is)
        (case z90l => k_is)
        (case z90c => k_is)
        (case z90k => k_is)
      case d_place_behind =>
        refine' XB.dn_mk KX G ?z91a ?z91l ?z91c ?z91k
        (case z91a => k_is)
        (case z91l => k_is)
        (case z91c => k_is)
        (case z91k => k_is)
      case d_length_of =>
        refine' XB.dn_mk KX G ?z92a ?z92l ?z92c ?z92k
        (case z92a => k_is)
        (case z92l => k_is)
        (case z92c => k_is)
        (case z92k => k_is)
      case d_back =>
        refine' XB.dn_mk KX G ?z93a ?z93l ?z93c ?z93k
        (case z93a => k_is)
        (case z93l => k_is)
        (case z93c => k_is)
        (case z93k => k_is)
      case d_do_touch =>
        refine' XB.dn_mk KX G ?z94a ?z94l ?z94c ?z94k
        (case z94a => k_is)
        (case z94l => k_is)
        (case z94c => k_is)
        (case z94k => k_is)
      case d_is_lower_of =>
        refine' XB.dn_mk KX G ?z95a ?z95l ?z95c ?z95k
        (case z95a => k_is)
        (case z95l => k_is)
        (case z95c => k_is)
        (case z95k => k_is)
      case d_common_of =>
        refine' XB.dn_mk KX G ?z96a ?z96l ?z96c ?z96k
        (case z96a => k_is)
        (case z96l => k_is)
        (case z96c => k_is)
        (case z96k => k_is)
      case d_front_times =>
        refine' XB.dn_mk KX G ?z97a ?z97l ?z97c ?z97k
        (case z97a => k_is)
        (case z97l => k_is)
        (case z97c => k_is)
        (case z97k => k_is)
      case d_shared_times =>
        refine' XB.dn_mk KX G ?z98a ?z98l ?z98c ?z98k
        (case z98a => k_is)
        (case z98l => k_is)
        (case z98c => k_is)
        (case z98k => k_is)
      case d_over_both_of =>
        refine' XB.dn_mk KX G ?z99a ?z99l ?z99c ?z99k
        (case z99a => k_is)
        (case z99l => k_is)
        (case z99c => k_is)
        (case z99k => k_is)
      case d_leading =>
        refine' XB.dn_mk KX G ?z100a ?z100l ?z100c ?z100k
        (case z100a => k_is)
        (case z100l => k_is)
        (case z100c => k_is)
        (case z100k => k_is)
      case d_distance_of =>
        refine' XB.dn_mk KX G ?z101a ?z101l ?z101c ?z101k
        (case z101a => k_is)
        (case z101l => k_is)
        (case z101c => k_is)
        (case z101k => k_is)
      case d_middle_pile =>
        refine' XB.dn_mk KX G ?z102a ?z102l ?z102c ?z102k
        (case z102a => k_is)
        (case z102l => k_is)
        (case z102c => k_is)
        (case z102k => k_is)
      case d_need_like =>
        refine' XB.dn_mk KX G ?z103a ?z103l ?z103c ?z103k
        (case z103a => k_is)
        (case z103l => k_is)
        (case z103c => k_is)
        (case z103k => k_is)
      case d_made_pile =>
        refine' XB.dn_mk KX G ?z104a ?z104l ?z104c ?z104k
        (case z104a => k_is)
        (case z104l => k_is)
        (case z104c => k_is)
        (case z104k => k_is)
      case d__law_mixed =>
        refine' XB.dn_mk KX G ?z105a ?z105l ?z105c ?z105k
        (case z105a => k_is)
        (case z105l => k_is)
        (case z105c => k_is)
        (case z105k => k_is)
      case d__law_folded =>
        refine' XB.dn_mk KX G ?z106a ?z106l ?z106c ?z106k
        (case z106a => k_is)
        (case z106l => k_is)
        (case z106c => k_is)
        (case z106k => k_is)
      case d__law_draw =>
        refine' XB.dn_mk KX G ?z107a ?z107l ?z107c ?z107k
        (case z107a => k_is)
        (case z107l => k_is)
        (case z107c => k_is)
        (case z107k => k_is)
      case d__law_begun =>
        refine' XB.dn_mk KX G ?z108a ?z108l ?z108c ?z108k
        (case z108a => k_is)
        (case z108l => k_is)
        (case z108c => k_is)
        (case z108k => k_is)
      case d__law_like =>
        refine' XB.dn_mk KX G ?z109a ?z109l ?z109c ?z109k
        (case z109a => k_is)
        (case z109l => k_is)
        (case z109c => k_is)
        (case z109k => k_is)
      case d__law_field =>
        refine' XB.dn_mk KX G ?z110a ?z110l ?z110c ?z110k
        (case z110a => k_is)
        (case z110l => k_is)
        (case z110c => k_is)
        (case z110k => k_is)
      case d__law_steps =>
        refine' XB.dn_mk KX G ?z111a ?z111l ?z111c ?z111k
        (case z111a => k_is)
        (case z111l => k_is)
        (case z111c => k_is)
        (case z111k => k_is)
      case d__law_apart =>
        refine' XB.dn_mk KX G ?z112a ?z112l ?z112c ?z112k
        (case z112a => k_is)
        (case z112l => k_is)
        (case z112c => k_is)
        (case z112k => k_is)
      case d__law_meet =>
        refine' XB.dn_mk KX G ?z113a ?z113l ?z113c ?z113k
        (case z113a => k_is)
        (case z113l => k_is)
        (case z113c => k_is)
        (case z113k => k_is)
      case d__law_pile =>
        refine' XB.dn_mk KX G ?z114a ?z114l ?z114c ?z114k
        (case z114a => k_is)
        (case z114l => k_is)
        (case z114c => k_is)
        (case z114k => k_is)
      case d__law_firsts =>
        refine' XB.dn_mk KX G ?z115a ?z115l ?z115c ?z115k
        (case z115a => k_is)
        (case z115l => k_is)
        (case z115c => k_is)
        (case z115k => k_is)
      case d__law_least =>
        refine' XB.dn_mk KX G ?z116a ?z116l ?z116c ?z116k
        (case z116a => k_is)
        (case z116l => k_is)
        (case z116c => k_is)
        (case z116k => k_is)
      case d__law_back =>
        refine' XB.dn_mk KX G ?z117a ?z117l ?z117c ?z117k
        (case z117a => k_is)
        (case z117l => k_is)
        (case z117c => k_is)
        (case z117k => k_is)
      case d__law_length =>
        refine' XB.dn_mk KX G ?z118a ?z118l ?z118c ?z118k
        (case z118a => k_is)
        (case z118l => k_is)
        (case z118c => k_is)
        (case z118k => k_is)
      case d__law_far =>
        refine' XB.dn_mk KX G ?z119a ?z119l ?z119c ?z119k
        (case z119a => k_is)
        (case z119l => k_is)
        (case z119c => k_is)
        (case z119k => k_is)
      case d__law_common =>
        refine' XB.dn_mk KX G ?z120a ?z120l ?z120c ?z120k
        (case z120a => k_is)
        (case z120l => k_is)
        (case z120c => k_is)
        (case z120k => k_is)
      case d__law_over =>
        refine' XB.dn_mk KX G ?z121a ?z121l ?z121c ?z121k
        (case z121a => k_is)
        (case z121l => k_is)
        (case z121c => k_is)
        (case z121k => k_is)
      case d__law_shows =>
        refine' XB.dn_mk KX G ?z122a ?z122l ?z122c ?z122k
        (case z122a => k_is)
        (case z122l => k_is)
        (case z122c => k_is)
        (case z122k => k_is)
      case d__law_right =>
        refine' XB.dn_mk KX G ?z123a ?z123l ?z123c ?z123k
        (case z123a => k_is)
        (case z123l => k_is)
        (case z123c => k_is)
        (case z123k => k_is)
      case d_law =>
        refine' XB.dn_mk KX G ?z124a ?z124l ?z124c ?z124k
        (case z124a => k_is)
        (case z124l => k_is)
        (case z124c => k_is)
        (case z124k => k_is)
    (case la => k_is)
    (case ll => k_is)
    (case lc => k_is)
    (case lk => k_is)
